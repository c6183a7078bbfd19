import PyProof.Rows.All
import Wide.All
import OpenK.AllK
import Wide.FinOn
import Open.SpecLaws
import KE.OsGo
import HandS.ForSpec
import HandS.Comp
import HandS.Iter
import HandS.Zip
import HandS.Walk
import PySem.Challenge.RW_holdsforsure_s01_answers
set_option Elab.async false
set_option maxRecDepth 100000
set_option maxHeartbeats 2000000
set_option linter.unusedVariables false
namespace Hfs
open Ag03
/-! ### sums and weights -/
theorem foldl_add (l : List Nat) : ∀ c : Nat, l.foldl (fun (a b : Nat) => a + b) c = c + l.sum := by
  induction l with
  | nil => intro c; simp
  | cons a l ih => intro c; rw [List.foldl_cons, ih, List.sum_cons]; omega
theorem sum_eq (l : List Nat) : Ag03.sum l = l.sum := by
  unfold Ag03.sum
  rw [foldl_add]
  omega
theorem sum_zero {α : Type} (f : α → Nat) : ∀ l : List α, (∀ x ∈ l, f x = 0) → (l.map f).sum = 0
  | [], _ => rfl
  | a :: l, h => by
    rw [List.map_cons, List.sum_cons, sum_zero f l fun x hx => h x (List.mem_cons_of_mem _ hx), h a List.mem_cons_self]
theorem sum_split {α : Type} (f g h : α → Nat) : ∀ l : List α, (∀ x ∈ l, f x = g x + h x) → (l.map f).sum = (l.map g).sum + (l.map h).sum
  | [], _ => rfl
  | a :: l, e => by
    rw [List.map_cons, List.map_cons, List.map_cons, List.sum_cons, List.sum_cons, List.sum_cons, sum_split f g h l fun x hx => e x (List.mem_cons_of_mem _ hx), e a List.mem_cons_self]
    omega
theorem sum_one (a : Nat) (v : Nat) : ∀ n : Nat, a < n → ((List.range n).map fun i => if i = a then v else 0).sum = v
  | 0, h => absurd h (Nat.not_lt_zero _)
  | n + 1, h => by
    rw [List.range_succ, List.map_append, List.sum_append]
    by_cases c : a = n
    · subst c
      rw [sum_zero _ (List.range a) fun x hx => if_neg (by have := List.mem_range.mp hx; omega)]
      simp
    · rw [sum_one a v n (by omega)]
      simp
      intro e
      omega
theorem weigh_sum (n : Nat) (f : Nat → Nat) : ∀ l : List Nat, l.Nodup → (∀ x ∈ l, x < n) → ((List.range n).map fun i => if l.contains i = true then f i else 0).sum = (l.map f).sum
  | [], _, _ => by
    rw [sum_zero _ _ fun x _ => by simp]
    rfl
  | a :: l, hd, hb => by
    have h1 := List.nodup_cons.mp hd
    rw [List.map_cons, List.sum_cons, ← weigh_sum n f l h1.2 fun x hx => hb x (List.mem_cons_of_mem _ hx), ← sum_one a (f a) n (hb a List.mem_cons_self)]
    refine sum_split _ _ _ _ fun x _ => ?_
    by_cases c : x = a
    · subst c
      simp [h1.1]
    · simp [c]
theorem weigh_eq (s : State) {l : List Nat} (hd : l.Nodup) (hb : ∀ x ∈ l, x < s.nodes.length) : weigh s l = (l.map fun i => s.weights.getD i 0).sum := by
  unfold weigh
  rw [sum_eq]
  exact weigh_sum _ _ _ hd hb
/-! ### sending -/
theorem take_take_app {α : Type} (k : Nat) (A B : List α) : ((A.take k) ++ B).take k = (A ++ B).take k := by
  rw [List.take_append, List.take_append, List.take_take, List.length_take, Nat.min_self]
  by_cases h : A.length ≤ k
  · rw [Nat.min_eq_right h]
  · rw [Nat.min_eq_left (by omega), show k - k = 0 by omega, show k - A.length = 0 by omega]
theorem send_nil {s : State} (h : s.letters.length ≤ 100) : send s [] = s := by
  unfold send
  rw [List.append_nil, List.take_of_length_le (by exact h)]
theorem send_app (s : State) (a b : List Letter) : send (send s a) b = send s (a ++ b) := by
  unfold send
  simp only [take_take_app, List.append_assoc]
theorem send_one_room {s : State} {x : Letter} (h : s.letters.length < 100) : send s [x] = { s with letters := s.letters ++ [x] } := by
  unfold send
  rw [List.take_of_length_le]
  rw [List.length_append]
  exact h
theorem send_one_full {s : State} {x : Letter} (h : ¬ s.letters.length < 100) : send s [x] = { s with letters := s.letters.take 100 } := by
  unfold send
  rw [List.take_append_of_le_length (by show 100 ≤ _; omega)]
  rfl
theorem send_nodes (s : State) (l : List Letter) : (send s l).nodes = s.nodes := rfl
theorem send_weights (s : State) (l : List Letter) : (send s l).weights = s.weights := rfl
/-! ### nodes -/
theorem node_of {s : State} {i : Nat} {n : Node} (h : s.nodes[i]? = some n) : node s i = n := by
  unfold node
  rw [List.getD_eq_getElem?_getD, h]
  rfl
theorem node_get {s : State} {i : Nat} (h : i < s.nodes.length) : s.nodes[i]? = some (node s i) := by
  unfold node
  rw [List.getD_eq_getElem?_getD, List.getElem?_eq_getElem h]
  rfl
theorem set_len (s : State) (i : Nat) (n : Node) : (setNode s i n).nodes.length = s.nodes.length := List.length_set
theorem node_set {s : State} {i : Nat} {n : Node} (h : i < s.nodes.length) : node (setNode s i n) i = n :=
  node_of (s := setNode s i n) (by show (s.nodes.set i n)[i]? = _; rw [List.getElem?_set_self h])
theorem set_set (s : State) (i : Nat) (n m : Node) : setNode (setNode s i n) i m = setNode s i m := by
  unfold setNode
  simp [List.set_set]
theorem set_self {s : State} {i : Nat} : setNode s i (node s i) = s := by
  by_cases h : i < s.nodes.length
  · unfold setNode
    have e : s.nodes.set i (node s i) = s.nodes := by
      apply List.ext_getElem?
      intro j
      by_cases c : j = i
      · subst c
        rw [List.getElem?_set_self h, node_get h]
      · rw [List.getElem?_set_ne (fun q => c q.symm)]
    rw [e]
  · unfold setNode
    rw [List.set_eq_of_length_le (by omega)]
theorem node_send (s : State) (l : List Letter) (i : Nat) : node (send s l) i = node s i := rfl
theorem set_send (s : State) (l : List Letter) (i : Nat) (n : Node) : setNode (send s l) i n = send (setNode s i n) l := rfl
/-! ### the invariant -/
structure Mem (k : Nat) (l : List Nat) : Prop where
  nd : l.Nodup
  lt : ∀ x ∈ l, x < k
theorem Mem.nil {k : Nat} : Mem k [] := ⟨List.nodup_nil, fun _ h => nomatch h⟩
theorem Mem.one {k i : Nat} (h : i < k) : Mem k [i] := ⟨by simp, fun x hx => by simp at hx; omega⟩
theorem Mem.snoc {k : Nat} {l : List Nat} {x : Nat} (M : Mem k l) (hx : x < k) (h : l.contains x = false) : Mem k (l ++ [x]) := by
  refine ⟨?_, fun y hy => ?_⟩
  · rw [List.nodup_append]
    refine ⟨M.nd, by simp, fun a ha b hb => ?_⟩
    simp at hb
    intro e
    subst e
    subst hb
    simp at h
    exact h ha
  · rcases List.mem_append.mp hy with h1 | h1
    · exact M.lt y h1
    · simp at h1
      omega
theorem Mem.len {k : Nat} {l : List Nat} (M : Mem k l) : l.length ≤ k := by
  have h := weigh_sum k (fun _ => 1) l M.nd M.lt
  have e : (l.map fun _ => 1).sum = l.length := by
    clear h M
    induction l with
    | nil => rfl
    | cons a l ih =>
      rw [List.map_cons, List.sum_cons, ih, List.length_cons]
      omega
  have b : ∀ (r : List Nat), (r.map fun i => if l.contains i = true then 1 else 0).sum ≤ r.length := by
    intro r
    induction r with
    | nil => exact Nat.le_refl _
    | cons a r ih =>
      rw [List.map_cons, List.sum_cons, List.length_cons]
      split <;> omega
  have b' := b (List.range k)
  rw [List.length_range] at b'
  omega
theorem none_ne {l : List Nat} {P : Prop} (h : (none : Option (List Nat)) = some l) : P := nomatch h
structure NodeOk (k : Nat) (n : Node) : Prop where
  would : ∀ l, n.would = some l → Mem k l
  votes : Mem k n.votes
  given : Mem k n.given
structure LetOk (k : Nat) (x : Letter) : Prop where
  kind : x.kind ≤ 6
  to_ : x.to_ < k
  from_ : x.from_ < k
structure WInv (s : State) : Prop where
  wl : s.weights.length = s.nodes.length
  pos : 1 ≤ s.nodes.length
  five : s.nodes.length ≤ 5
  w9 : ∀ x ∈ s.weights, x ≤ 9
  wrong : s.wrong ≤ 200
  long : s.long ≤ 1000
  nodes : ∀ (i : Nat) (n : Node), s.nodes[i]? = some n → NodeOk s.nodes.length n
  lets : ∀ x ∈ s.letters, LetOk s.nodes.length x
  room : s.letters.length ≤ 100
theorem WInv.gnode {s : State} (I : WInv s) {i : Nat} (h : i < s.nodes.length) : NodeOk s.nodes.length (node s i) := I.nodes i _ (node_get h)
theorem WInv.gset {s : State} (I : WInv s) {i : Nat} {n : Node} (h : NodeOk s.nodes.length n) : WInv (setNode s i n) := by
  refine ⟨by rw [set_len]; exact I.wl, by rw [set_len]; exact I.pos, by rw [set_len]; exact I.five, I.w9, I.wrong, I.long, fun j m e => ?_, fun x hx => ?_, I.room⟩
  · rw [set_len]
    have e' : (s.nodes.set i n)[j]? = some m := e
    by_cases c : j = i
    · subst c
      by_cases l : j < s.nodes.length
      · rw [List.getElem?_set_self l] at e'
        cases e'
        exact h
      · rw [List.set_eq_of_length_le (by omega)] at e'
        exact I.nodes _ _ e'
    · rw [List.getElem?_set_ne (fun q => c q.symm)] at e'
      exact I.nodes _ _ e'
  · rw [set_len]
    exact I.lets x hx
theorem WInv.gsend {s : State} (I : WInv s) {l : List Letter} (h : ∀ x ∈ l, LetOk s.nodes.length x) : WInv (send s l) := by
  refine ⟨I.wl, I.pos, I.five, I.w9, I.wrong, I.long, I.nodes, fun x hx => ?_, by show ((s.letters ++ l).take 100).length ≤ 100; rw [List.length_take]; omega⟩
  have hx' : x ∈ s.letters ++ l := List.mem_of_mem_take hx
  rcases List.mem_append.mp hx' with h1 | h1
  · exact I.lets x h1
  · exact h x h1
theorem WInv.gletters {s : State} (I : WInv s) {l : List Letter} (h : ∀ x ∈ l, x ∈ s.letters) (hl : l.length ≤ 100) : WInv { s with letters := l } :=
  ⟨I.wl, I.pos, I.five, I.w9, I.wrong, I.long, I.nodes, fun x hx => I.lets x (h x hx), hl⟩
theorem WInv.gled {s : State} (I : WInv s) (l : List (Nat × Nat)) : WInv { s with led := l } :=
  ⟨I.wl, I.pos, I.five, I.w9, I.wrong, I.long, I.nodes, I.lets, I.room⟩
theorem mem_others {s : State} {i j : Nat} (h : j ∈ others s i) : j < s.nodes.length ∧ j ≠ i := by
  unfold others at h
  rw [List.mem_filter, List.mem_range] at h
  refine ⟨h.1, fun e => ?_⟩
  have := h.2
  simp [e] at this
theorem others_set (s : State) (i j : Nat) (n : Node) : others (setNode s j n) i = others s i := by
  unfold others
  rw [set_len]
/-- a node changed, letters of it sent to all others -/
theorem WInv.tell {s : State} (I : WInv s) {i : Nat} (hi : i < s.nodes.length) {n : Node} (hn : NodeOk s.nodes.length n) (g : Nat → Letter) (hk : ∀ j, (g j).kind ≤ 6) (ht : ∀ j, (g j).to_ = j) (hf : ∀ j, (g j).from_ = i) : WInv (Ag03.send (setNode s i n) ((others s i).map g)) := by
  refine (I.gset (i := i) hn).gsend fun x hx => ?_
  obtain ⟨j, hj, rfl⟩ := List.mem_map.mp hx
  rw [set_len]
  exact ⟨hk j, by rw [ht]; exact (mem_others hj).1, by rw [hf]; exact hi⟩
theorem NodeOk.ghear {k : Nat} {n : Node} (N : NodeOk k n) (t : Nat) : NodeOk k (Ag03.hear n t) := by
  unfold Ag03.hear
  split
  · exact ⟨(fun l h => none_ne h), Mem.nil, Mem.nil⟩
  · exact N
theorem NodeOk.gheld {s : State} {n : Node} {k : Nat} (N : NodeOk k n) : NodeOk k (Ag03.held s n) := by
  unfold Ag03.held
  split
  · exact ⟨N.would, N.votes, N.given⟩
  · exact N
theorem WInv.glead {s : State} (I : WInv s) {i : Nat} (h : i < s.nodes.length) : WInv (Ag03.lead s i) := by
  have J : WInv (setNode s i { node s i with role := 2, would := none, round := 0, given := [], holds := 0 }) := I.gset (i := i) (n := { node s i with role := 2, would := none, round := 0, given := [], holds := 0 }) ⟨(fun l h => none_ne h), (I.gnode h).votes, Mem.nil⟩
  exact J.gled (s.led ++ [((node s i).term, i)])
theorem WInv.gask {s : State} (I : WInv s) {i : Nat} (h : i < s.nodes.length) : WInv (Ag03.ask s i).1 := by
  unfold Ag03.ask
  dsimp only
  have J := fun n hn g => I.tell h (n := n) hn g
  split
  · exact WInv.glead (J _ ⟨(fun l h => none_ne h), Mem.one h, Mem.nil⟩ _ (fun j => by show 2 ≤ 6; decide) (fun _ => rfl) (fun _ => rfl)) (by show i < (setNode s i _).nodes.length; rw [set_len]; exact h)
  · exact J _ ⟨(fun l h => none_ne h), Mem.one h, Mem.nil⟩ _ (fun j => by show 2 ≤ 6; decide) (fun _ => rfl) (fun _ => rfl)
theorem WInv.gwish {s : State} (I : WInv s) {i : Nat} (h : i < s.nodes.length) : WInv (Ag03.wish s i).1 := by
  unfold Ag03.wish
  dsimp only
  have J := fun (w : List Nat) (hw : Mem s.nodes.length w) => I.tell h (n := { node s i with would := some w }) ⟨fun l e => by cases e; exact hw, (I.gnode h).votes, (I.gnode h).given⟩ (fun (j : Nat) => (⟨0, j, i, (node s i).term + 1, (node s i).rank, false⟩ : Letter)) (fun j => by show 0 ≤ 6; decide) (fun _ => rfl) (fun _ => rfl)
  have hw : Mem s.nodes.length (if bound (node s i) i = true then [] else [i]) := by
    split
    · exact Mem.nil
    · exact Mem.one h
  generalize (if bound (node s i) i = true then [] else [i]) = w at hw ⊢
  split
  · exact (J w hw).gask (by show i < (setNode s i _).nodes.length; rw [set_len]; exact h)
  · exact J w hw
theorem WInv.grenew {s : State} (I : WInv s) {i : Nat} (h : i < s.nodes.length) : WInv (Ag03.renew s i) := by
  unfold Ag03.renew
  dsimp only
  refine I.tell h ?_ _ (fun j => by show 4 ≤ 6; decide) (fun _ => rfl) (fun _ => rfl)
  refine NodeOk.gheld ?_
  split
  · exact ⟨(I.gnode h).would, (I.gnode h).votes, Mem.nil⟩
  · exact ⟨(I.gnode h).would, (I.gnode h).votes, Mem.one h⟩
theorem WInv.gleave {s : State} (I : WInv s) {i : Nat} (h : i < s.nodes.length) (j : Nat) : WInv (Ag03.leave s i j) := by
  unfold Ag03.leave
  dsimp only
  refine I.tell h ?_ _ (fun j => by show 6 ≤ 6; decide) (fun _ => rfl) (fun _ => rfl)
  exact ⟨(I.gnode h).would, (I.gnode h).votes, Mem.nil⟩
theorem WInv.send1 {s : State} (I : WInv s) {x : Letter} (h : LetOk s.nodes.length x) : WInv (Ag03.send s [x]) :=
  I.gsend fun y hy => by simp at hy; subst hy; exact h
theorem WInv.setSend {s : State} (I : WInv s) {i : Nat} {n : Node} {x : Letter} (hn : NodeOk s.nodes.length n) (h : LetOk s.nodes.length x) : WInv (Ag03.send (setNode s i n) [x]) :=
  (I.gset (i := i) hn).send1 (by rw [set_len]; exact h)
theorem WInv.ghand {s : State} (I : WInv s) {x : Letter} (h : LetOk s.nodes.length x) : WInv (Ag03.hand s x).1 := by
  have N := I.gnode h.to_
  unfold Ag03.hand
  dsimp only
  split
  · exact I
  · split
    · exact I.send1 ⟨by show 1 ≤ 6; decide, h.from_, h.to_⟩
    · split
      · exact I
      · next l e =>
        split
        · exact I
        · next c =>
          have hc : l.contains x.from_ = false := by
            simp only [not_or] at c
            simpa using c.2.2
          have J : WInv (setNode s x.to_ { node s x.to_ with would := some (l ++ [x.from_]) }) := I.gset ⟨fun l' e' => by cases e'; exact (N.would l e).snoc h.from_ hc, N.votes, N.given⟩
          split
          · exact J.gask (by rw [set_len]; exact h.to_)
          · exact J
    · split
      · exact I
      · refine I.setSend ?_ ⟨by show 3 ≤ 6; decide, h.from_, h.to_⟩
        have N' := N.ghear x.term
        split
        · exact ⟨N'.would, N'.votes, N'.given⟩
        · exact N'
    · split
      · exact I.gset (N.ghear _)
      · split
        · exact I
        · next c =>
          have hc : (node s x.to_).votes.contains x.from_ = false := by
            simp only [not_or] at c
            simpa using c.2.2.2
          have J : WInv (setNode s x.to_ { node s x.to_ with votes := (node s x.to_).votes ++ [x.from_] }) := I.gset ⟨N.would, N.votes.snoc h.from_ hc, N.given⟩
          split
          · exact J.glead (by rw [set_len]; exact h.to_)
          · exact J
    · split
      · exact I.send1 ⟨by show 5 ≤ 6; decide, h.from_, h.to_⟩
      · have N' := N.ghear x.term
        exact I.setSend ⟨(fun l h => none_ne h), N'.votes, N'.given⟩ ⟨by show 5 ≤ 6; decide, h.from_, h.to_⟩
    · split
      · exact I.gset (N.ghear _)
      · split
        · exact I
        · next c =>
          have hc : (node s x.to_).given.contains x.from_ = false := by
            simp only [not_or] at c
            simpa using c.2.2.2.2
          refine I.gset (NodeOk.gheld ⟨N.would, N.votes, N.given.snoc h.from_ hc⟩)
    · split
      · exact I
      · split
        · exact I
        · have J : WInv (setNode s x.to_ { node s x.to_ with promise := none }) := I.gset ⟨N.would, N.votes, N.given⟩
          split
          · exact J.gask (by rw [set_len]; exact h.to_)
          · exact J
    · exact I
theorem WInv.nodesMap {s : State} (I : WInv s) {l : List Node} (t : Nat) (hl : l.length = s.nodes.length) (h : ∀ (i : Nat) (n : Node), l[i]? = some n → NodeOk s.nodes.length n) : WInv { s with now := t, nodes := l } :=
  ⟨I.wl.trans hl.symm, by rw [hl]; exact I.pos, by rw [hl]; exact I.five, I.w9, I.wrong, I.long, fun i n e => by rw [hl]; exact h i n e, fun x hx => by rw [hl]; exact I.lets x hx, I.room⟩
theorem zip_ok {k : Nat} : ∀ (ns : List Node) (l : List Nat) , (∀ (i : Nat) (n : Node), ns[i]? = some n → NodeOk k n) → ∀ (i : Nat) (n : Node), (List.zipWith (fun (n : Node) (a : Nat) => { n with clock := n.clock + a }) ns l)[i]? = some n → NodeOk k n := by
  intro ns l h i n e
  rw [List.getElem?_zipWith] at e
  cases e1 : ns[i]? with
  | none => rw [e1] at e; cases e
  | some m =>
    cases e2 : l[i]? with
    | none => rw [e1, e2] at e; cases e
    | some a =>
      rw [e1, e2] at e
      cases e
      have N := h i m e1
      exact ⟨N.would, N.votes, N.given⟩
theorem WInv.erase {s : State} (I : WInv s) (k : Nat) : WInv { s with letters := s.letters.eraseIdx k } :=
  I.gletters (fun x hx => List.mem_of_mem_eraseIdx hx) (Nat.le_trans (List.length_eraseIdx_le _ _) I.room)
theorem step_inv {o : Abs} {c : Call} (I : ∀ s, o = some s → WInv s) : ∀ s, (Ag03.step o c).1 = some s → WInv s := by
  intro s hs
  cases o with
  | none =>
    cases c with
    | begin_ w l p =>
      unfold Ag03.step at hs
      dsimp only at hs
      split at hs
      · cases hs
      · next c =>
        cases hs
        simp only [not_or] at c
        obtain ⟨c1, c2, c3, c4, c5, c6, c7⟩ := c
        refine ⟨by simp, ?_, ?_, ?_, by show w ≤ 200; omega, by show l ≤ 1000; omega, ?_, (fun x hx => by cases hx), by show 0 ≤ 100; decide⟩
        · simp at c1 ⊢
          cases p
          · exact absurd rfl c1
          · simp
        · simpa using c2
        · intro x hx
          simp at c3
          have := c3 x hx
          omega
        · intro i n e
          simp only [List.getElem?_map] at e
          cases e1 : p[i]? with
          | none => rw [e1] at e; cases e
          | some m => rw [e1] at e; cases e; exact ⟨(fun l h => none_ne h), Mem.nil, Mem.nil⟩
    | _ => cases hs
  | some s0 =>
    have J := I s0 rfl
    cases c with
    | begin_ w l p =>
      unfold Ag03.step at hs
      dsimp only at hs
      split at hs
      · cases hs; exact J
      · next c =>
        cases hs
        simp only [not_or] at c
        obtain ⟨c1, c2, c3, c4, c5, c6, c7⟩ := c
        refine ⟨by simp, ?_, ?_, ?_, by show w ≤ 200; omega, by show l ≤ 1000; omega, ?_, (fun x hx => by cases hx), by show 0 ≤ 100; decide⟩
        · simp at c1 ⊢
          cases p
          · exact absurd rfl c1
          · simp
        · simpa using c2
        · intro x hx
          simp at c3
          have := c3 x hx
          omega
        · intro i n e
          simp only [List.getElem?_map] at e
          cases e1 : p[i]? with
          | none => rw [e1] at e; cases e
          | some m => rw [e1] at e; cases e; exact ⟨(fun l h => none_ne h), Mem.nil, Mem.nil⟩
    | pass d l =>
      unfold Ag03.step at hs
      dsimp only at hs
      split at hs
      · cases hs; exact J
      · next c =>
        cases hs
        simp only [not_or, Classical.not_not] at c
        exact J.nodesMap _ (by rw [List.length_zipWith, c.2.1, Nat.min_self]) (zip_ok _ _ J.nodes)
    | wish i =>
      unfold Ag03.step at hs
      dsimp only at hs
      split at hs
      · cases hs; exact J
      · split at hs
        · cases hs; exact J
        · split at hs
          · cases hs; exact J
          · cases hs; exact J.gwish (by omega)
    | renew i =>
      unfold Ag03.step at hs
      dsimp only at hs
      split at hs
      · cases hs; exact J
      · split at hs
        · cases hs; exact J
        · split at hs
          · cases hs; exact J
          · cases hs; exact J.grenew (by omega)
    | leave i j =>
      unfold Ag03.step at hs
      dsimp only at hs
      split at hs
      · cases hs; exact J
      · split at hs
        · cases hs; exact J
        · split at hs
          · cases hs; exact J
          · cases hs; exact J.gleave (by omega) j
    | rank i r =>
      unfold Ag03.step at hs
      dsimp only at hs
      split at hs
      · cases hs; exact J
      · next c =>
        split at hs
        · cases hs; exact J
        · cases hs
          have N := J.gnode (i := i) (by omega)
          exact J.gset ⟨N.would, N.votes, N.given⟩
    | take k =>
      unfold Ag03.step at hs
      dsimp only at hs
      split at hs
      · cases hs; exact J
      · next x e =>
        cases hs
        exact WInv.ghand (J.erase k) (J.lets x (List.mem_of_getElem? e))
    | keep k =>
      unfold Ag03.step at hs
      dsimp only at hs
      split at hs
      · cases hs; exact J
      · next x e =>
        cases hs
        exact WInv.ghand J (J.lets x (List.mem_of_getElem? e))
    | lose k =>
      unfold Ag03.step at hs
      dsimp only at hs
      split at hs
      · cases hs; exact J
      · cases hs; exact J.erase k
    | halt_ i =>
      unfold Ag03.step at hs
      dsimp only at hs
      split at hs
      · cases hs; exact J
      · next c =>
        split at hs
        · cases hs; exact J
        · cases hs
          have N := J.gnode (i := i) (by omega)
          exact J.gset ⟨N.would, N.votes, N.given⟩
    | start i =>
      unfold Ag03.step at hs
      dsimp only at hs
      split at hs
      · cases hs; exact J
      · next c =>
        split at hs
        · cases hs; exact J
        · cases hs
          exact J.gset ⟨(fun l h => none_ne h), Mem.nil, Mem.nil⟩
    | letters => cases hs; exact J
    | node i => cases hs; exact J
    | holds => cases hs; exact J
    | led => cases hs; exact J
theorem most_set (s : State) (i : Nat) (n : Node) (l : List Nat) : most (setNode s i n) l = most s l := by
  unfold most weigh
  rw [set_len]
  rfl
theorem most_send (s : State) (x : List Letter) (l : List Nat) : most (send s x) l = most s l := rfl
theorem held_set (s : State) (i : Nat) (n m : Node) : held (setNode s i n) m = held s m := by
  unfold held
  rw [most_set]
  rfl
theorem held_term (s : State) (m : Node) : (held s m).term = m.term := by
  unfold held
  split <;> rfl
theorem held_round (s : State) (m : Node) : (held s m).round = m.round := by
  unfold held
  split <;> rfl
theorem d_neg (j : Nat) : decide ((j : Int) = -1) = false := decide_eq_false (by omega)
theorem d_eq (k j : Nat) : decide ((k : Int) = (j : Int)) = (k == j) := by
  rw [Bool.eq_iff_iff]
  simp
  omega
theorem hand0 {s : State} {x : Letter} {n : Node} (hn : node s x.to_ = n) (hk : x.kind = 0) (hu : n.up = true) : hand s x = (send s [⟨1, x.from_, x.to_, x.term, 0, !(bound n x.from_) && (decide (n.term < x.term) && decide (n.rank ≤ x.num))⟩], [1]) := by
  subst hn
  unfold hand
  dsimp only
  rw [if_neg (by rw [hu]; exact fun q => nomatch q), hk]
  all_goals rfl
theorem hand1 {s : State} {x : Letter} {n : Node} (hn : node s x.to_ = n) (hk : x.kind = 1) (hu : n.up = true) : hand s x = match n.would with
    | none => (s, [0])
    | some l => if x.yes = false ∨ (x.term ≠ n.term + 1 ∨ l.contains x.from_ = true) then (s, [0]) else
      if most (setNode s x.to_ { n with would := some (l ++ [x.from_]) }) (l ++ [x.from_]) = true then ask (setNode s x.to_ { n with would := some (l ++ [x.from_]) }) x.to_ else (setNode s x.to_ { n with would := some (l ++ [x.from_]) }, [2]) := by
  subst hn
  unfold hand
  dsimp only
  rw [if_neg (by rw [hu]; exact fun q => nomatch q), hk]
  all_goals rfl
theorem hand2 {s : State} {x : Letter} {n : Node} (hn : node s x.to_ = n) (hk : x.kind = 2) (hu : n.up = true) : hand s x = if bound n x.from_ = true then (s, [0]) else
    (send (setNode s x.to_ (if (x.term == (hear n x.term).term && (((hear n x.term).voted == none || (hear n x.term).voted == some x.from_) && decide ((hear n x.term).rank ≤ x.num))) = true then { hear n x.term with voted := some x.from_ } else hear n x.term))
      [⟨3, x.from_, x.to_, (hear n x.term).term, 0, (x.term == (hear n x.term).term && (((hear n x.term).voted == none || (hear n x.term).voted == some x.from_) && decide ((hear n x.term).rank ≤ x.num)))⟩], [1]) := by
  subst hn
  unfold hand
  dsimp only
  rw [if_neg (by rw [hu]; exact fun q => nomatch q), hk]
  all_goals rfl
theorem hand3 {s : State} {x : Letter} {n : Node} (hn : node s x.to_ = n) (hk : x.kind = 3) (hu : n.up = true) : hand s x = if n.term < x.term then (setNode s x.to_ (hear n x.term), [6]) else if n.role ≠ 1 ∨ (x.yes = false ∨ (x.term ≠ n.term ∨ n.votes.contains x.from_ = true)) then (s, [0]) else
    if most (setNode s x.to_ { n with votes := n.votes ++ [x.from_] }) (n.votes ++ [x.from_]) = true then (lead (setNode s x.to_ { n with votes := n.votes ++ [x.from_] }) x.to_, [4]) else (setNode s x.to_ { n with votes := n.votes ++ [x.from_] }, [2]) := by
  subst hn
  unfold hand
  dsimp only
  rw [if_neg (by rw [hu]; exact fun q => nomatch q), hk]
  all_goals rfl
theorem hand4 {s : State} {x : Letter} {n : Node} (hn : node s x.to_ = n) (hk : x.kind = 4) (hu : n.up = true) : hand s x = if x.term < n.term ∨ bound n x.from_ = true then (send s [⟨5, x.from_, x.to_, n.term, x.num, false⟩], [1]) else
    (send (setNode s x.to_ { promised s (hear n x.term) x.from_ x.term with would := none, role := if (hear n x.term).role = 1 then 0 else (hear n x.term).role }) [⟨5, x.from_, x.to_, (hear n x.term).term, x.num, true⟩], [1]) := by
  subst hn
  unfold hand
  dsimp only
  rw [if_neg (by rw [hu]; exact fun q => nomatch q), hk]
  all_goals rfl
theorem hand5 {s : State} {x : Letter} {n : Node} (hn : node s x.to_ = n) (hk : x.kind = 5) (hu : n.up = true) : hand s x = if n.term < x.term then (setNode s x.to_ (hear n x.term), [6]) else if n.role ≠ 2 ∨ (x.yes = false ∨ (x.term ≠ n.term ∨ (x.num ≠ n.round ∨ n.given.contains x.from_ = true))) then (s, [0]) else
    (setNode s x.to_ (held s { n with given := n.given ++ [x.from_] }), [if n.holds < (held s { n with given := n.given ++ [x.from_] }).holds then 5 else 2]) := by
  subst hn
  unfold hand
  dsimp only
  rw [if_neg (by rw [hu]; exact fun q => nomatch q), hk]
  all_goals rfl
theorem hand6 {s : State} {x : Letter} {n : Node} (hn : node s x.to_ = n) (hk : x.kind = 6) (hu : n.up = true) : hand s x = match n.promise with
    | none => (s, [0])
    | some p => if p.to_ ≠ x.from_ ∨ p.term ≠ x.term then (s, [0]) else
      if x.yes = true ∧ (n.term = x.term ∧ bound { n with promise := none } x.to_ = false) then ask (setNode s x.to_ { n with promise := none }) x.to_ else (setNode s x.to_ { n with promise := none }, [7]) := by
  subst hn
  unfold hand
  dsimp only
  rw [if_neg (by rw [hu]; exact fun q => nomatch q), hk]
  all_goals rfl
theorem hand_off {s : State} {x : Letter} (hu : (node s x.to_).up = false) : hand s x = (s, [0]) := by
  unfold hand
  dsimp only
  rw [if_pos hu]
theorem out1 {s : State} {i : Nat} : ∃ v, (ask s i).2 = [v] := by
  unfold ask
  dsimp only
  split
  · exact ⟨_, rfl⟩
  · exact ⟨_, rfl⟩
/-! ### clocks go on, one by one -/
def clk (n : Node) (a : Nat) : Node := { n with clock := n.clock + a }
def upTo (s : State) (l : List Nat) (k : Nat) : State := { s with nodes := s.nodes.mapIdx fun (j : Nat) (n : Node) => if j < k then clk n (l.getD j 0) else n }
theorem upTo_len (s : State) (l : List Nat) (k : Nat) : (upTo s l k).nodes.length = s.nodes.length := List.length_mapIdx
theorem upTo_zero (s : State) (l : List Nat) : upTo s l 0 = s := by
  have e : (s.nodes.mapIdx fun (j : Nat) (n : Node) => if j < 0 then clk n (l.getD j 0) else n) = s.nodes := by
    apply List.ext_getElem?
    intro j
    rw [List.getElem?_mapIdx]
    cases s.nodes[j]? with
    | none => rfl
    | some n => rfl
  unfold upTo
  rw [e]
theorem upTo_node {s : State} {l : List Nat} {k : Nat} (h : k < s.nodes.length) : node (upTo s l k) k = node s k := by
  refine node_of ?_
  show (s.nodes.mapIdx _)[k]? = _
  rw [List.getElem?_mapIdx, node_get h]
  simp
theorem upTo_succ {s : State} {l : List Nat} {k a : Nat} (h : k < s.nodes.length) (ha : l[k]? = some a) : upTo s l (k + 1) = setNode (upTo s l k) k (clk (node s k) a) := by
  have e : (s.nodes.mapIdx fun (j : Nat) (n : Node) => if j < k + 1 then clk n (l.getD j 0) else n) = (s.nodes.mapIdx fun (j : Nat) (n : Node) => if j < k then clk n (l.getD j 0) else n).set k (clk (node s k) a) := by
    apply List.ext_getElem?
    intro j
    rw [List.getElem?_mapIdx]
    by_cases c : j = k
    · subst c
      rw [List.getElem?_set_self (by rw [List.length_mapIdx]; exact h), node_get h]
      simp [List.getD_eq_getElem?_getD, ha]
    · rw [List.getElem?_set_ne (fun q => c q.symm), List.getElem?_mapIdx]
      cases s.nodes[j]? with
      | none => rfl
      | some n =>
        by_cases d : j < k
        · simp [d, show j < k + 1 by omega]
        · simp [d, show ¬ j < k + 1 by omega]
  unfold upTo setNode
  dsimp only
  rw [e]
theorem upTo_all {s : State} {l : List Nat} (h : l.length = s.nodes.length) : upTo s l s.nodes.length = { s with nodes := List.zipWith (fun (n : Node) (a : Nat) => { n with clock := n.clock + a }) s.nodes l } := by
  have e : (s.nodes.mapIdx fun (j : Nat) (n : Node) => if j < s.nodes.length then clk n (l.getD j 0) else n) = List.zipWith (fun (n : Node) (a : Nat) => { n with clock := n.clock + a }) s.nodes l := by
    apply List.ext_getElem?
    intro j
    rw [List.getElem?_mapIdx, List.getElem?_zipWith]
    by_cases d : j < s.nodes.length
    · rw [List.getElem?_eq_getElem d, List.getElem?_eq_getElem (show j < l.length by omega)]
      simp [d, List.getD_eq_getElem?_getD, List.getElem?_eq_getElem (show j < l.length by omega)]
      rfl
    · rw [List.getElem?_eq_none (by omega)]
      rfl
  unfold upTo
  rw [e]
end Hfs
namespace Hfs
/-! ### the calls read out of one list -/
abbrev intsOf (l : List Nat) : List Int := l.map fun (k : Nat) => (k : Int)
def enc : Ag03.Call → List Int
  | .begin_ w l p => 0 :: (w : Int) :: (l : Int) :: (p.length : Int) :: intsOf p
  | .pass d l => 1 :: (d : Int) :: (l.length : Int) :: intsOf l
  | .wish i => [2, (i : Int)]
  | .renew i => [3, (i : Int)]
  | .leave i j => [4, (i : Int), (j : Int)]
  | .rank i r => [5, (i : Int), (r : Int)]
  | .take k => [6, (k : Int)]
  | .keep k => [7, (k : Int)]
  | .lose k => [8, (k : Int)]
  | .halt_ i => [9, (i : Int)]
  | .start i => [10, (i : Int)]
  | .letters => [11]
  | .node i => [12, (i : Int)]
  | .holds => [13]
  | .led => [14]
def bnd : Ag03.Call → Prop
  | .begin_ w l p => w ≤ 999 ∧ l ≤ 2000 ∧ p.length ≤ 10
  | .pass d l => d ≤ 2000 ∧ l.length ≤ 10 ∧ ∀ x ∈ l, x ≤ 3000
  | .wish i => i ≤ 9
  | .renew i => i ≤ 9
  | .leave i j => i ≤ 9 ∧ j ≤ 9
  | .rank i r => i ≤ 9 ∧ r ≤ 20
  | .take k => k ≤ 200
  | .keep k => k ≤ 200
  | .lose k => k ≤ 200
  | .halt_ i => i ≤ 9
  | .start i => i ≤ 9
  | .letters => True
  | .node i => i ≤ 9
  | .holds => True
  | .led => True
def run : Ag03.Abs → List Ag03.Call → List (List Int)
  | _, [] => []
  | o, x :: r => (Ag03.step o x).2 :: run (Ag03.step o x).1 r
section
variable {sh : Int → Option (Nat × Nat)} {p : Int} {r t : List Int} {c : List (List Int)}
theorem call00 (h : sh p = some (0, 0)) (hc : PyFlat.call sh (p :: r) = some (c, t)) : r = t ∧ c = [[p]] := by
  unfold PyFlat.call at hc
  dsimp only at hc
  rw [h] at hc
  dsimp only [PyFlat.rows] at hc
  simp at hc
  exact ⟨hc.2, hc.1.symm⟩
theorem call10 (h : sh p = some (1, 0)) (hc : PyFlat.call sh (p :: r) = some (c, t)) : ∃ x0, r = x0 :: t ∧ c = [[p, x0]] := by
  unfold PyFlat.call at hc
  dsimp only at hc
  rw [h] at hc
  cases r with
  | nil => simp at hc
  | cons x0 r =>
    dsimp only [PyFlat.rows] at hc
    simp at hc
    exact ⟨x0, by rw [hc.2], hc.1.symm⟩
theorem call20 (h : sh p = some (2, 0)) (hc : PyFlat.call sh (p :: r) = some (c, t)) : ∃ x0 x1, r = x0 :: x1 :: t ∧ c = [[p, x0, x1]] := by
  unfold PyFlat.call at hc
  dsimp only at hc
  rw [h] at hc
  match r, hc with
  | [], hc => simp at hc
  | [x0], hc => simp at hc
  | x0 :: x1 :: r, hc =>
    dsimp only [PyFlat.rows] at hc
    simp at hc
    exact ⟨x0, x1, by rw [hc.2], hc.1.symm⟩
theorem row_of {r x s : List Int} (h : PyFlat.row r = some (x, s)) : r = (x.length : Int) :: (x ++ s) := by
  cases r with
  | nil => cases h
  | cons n r =>
    by_cases hn : 0 ≤ n ∧ n.toNat ≤ r.length
    · unfold PyFlat.row at h
      dsimp only at h
      rw [if_pos hn] at h
      cases h
      rw [List.take_append_drop, List.length_take, Nat.min_eq_left hn.2, Int.toNat_of_nonneg hn.1]
    · unfold PyFlat.row at h
      dsimp only at h
      rw [if_neg hn] at h
      cases h
theorem call11 (h : sh p = some (1, 1)) (hc : PyFlat.call sh (p :: r) = some (c, t)) : ∃ x0 q, r = x0 :: (q.length : Int) :: (q ++ t) ∧ c = [[p, x0], q] := by
  unfold PyFlat.call at hc
  dsimp only at hc
  rw [h] at hc
  cases r with
  | nil => simp at hc
  | cons x0 r =>
    have h1 : ¬ (x0 :: r).length < 1 := by simp
    dsimp only at hc
    rw [if_neg h1] at hc
    dsimp only [PyFlat.rows, List.drop, List.take] at hc
    cases e : PyFlat.row r with
    | none => rw [e] at hc; cases hc
    | some y =>
      obtain ⟨q, s⟩ := y
      rw [e] at hc
      simp at hc
      refine ⟨x0, q, ?_, hc.1.symm⟩
      rw [row_of e, hc.2]
theorem call21 (h : sh p = some (2, 1)) (hc : PyFlat.call sh (p :: r) = some (c, t)) : ∃ x0 x1 q, r = x0 :: x1 :: (q.length : Int) :: (q ++ t) ∧ c = [[p, x0, x1], q] := by
  unfold PyFlat.call at hc
  dsimp only at hc
  rw [h] at hc
  match r, hc with
  | [], hc => simp at hc
  | [x0], hc => simp at hc
  | x0 :: x1 :: r, hc =>
    have h1 : ¬ (x0 :: x1 :: r).length < 2 := by simp
    dsimp only at hc
    rw [if_neg h1] at hc
    dsimp only [PyFlat.rows, List.drop, List.take] at hc
    cases e : PyFlat.row r with
    | none => rw [e] at hc; cases hc
    | some y =>
      obtain ⟨q, s⟩ := y
      rw [e] at hc
      simp at hc
      refine ⟨x0, x1, q, ?_, hc.1.symm⟩
      rw [row_of e, hc.2]
end
theorem intsOf_nats {q : List Int} (h : ∀ x ∈ q, 0 ≤ x) : intsOf (Ag03Neutral.nats q) = q := by
  show (q.map Int.toNat).map (fun (k : Nat) => (k : Int)) = q
  rw [List.map_map]
  conv => rhs; rw [← List.map_id' q]
  refine List.map_congr_left fun x hx => ?_
  exact Int.toNat_of_nonneg (h x hx)
theorem within_iff {lo hi z : Int} : PyInside.within lo hi z = true ↔ lo ≤ z ∧ z ≤ hi := by
  unfold PyInside.within
  simp
/-- one call -/
theorem parse_one {p : Int} {r t : List Int} {c : List (List Int)} (hc : PyFlat.call PyAg03.shape (p :: r) = some (c, t)) (hb : PyInside.call PyAg03.bound c = true) : ∃ x : Ag03.Call, p :: r = enc x ++ t ∧ bnd x ∧ Ag03Neutral.callOf (PyAg03.whole c) = some x := by
  have hp : (0 ≤ p ∧ p ≤ 14) := Decidable.byContradiction fun hn => by
    have e : PyAg03.shape p = none := by
      unfold PyAg03.shape
      rw [if_neg (by omega), if_neg (by omega), if_neg (by omega), if_neg (by omega), if_neg (by omega), if_neg (by omega), if_neg (by omega), if_neg (by omega), if_neg (by omega), if_neg (by omega), if_neg (by omega), if_neg (by omega), if_neg (by omega), if_neg (by omega), if_neg (by omega)]
    unfold PyFlat.call at hc
    dsimp only at hc
    rw [e] at hc
    cases hc
  have h15 : p = 0 ∨ p = 1 ∨ p = 2 ∨ p = 3 ∨ p = 4 ∨ p = 5 ∨ p = 6 ∨ p = 7 ∨ p = 8 ∨ p = 9 ∨ p = 10 ∨ p = 11 ∨ p = 12 ∨ p = 13 ∨ p = 14 := by omega
  have one : ∀ (hi x0 : Int) (y : List (Int × Int × Nat × Nat)), PyAg03.bound p = ([(0, hi)], []) → c = [[p, x0]] → 0 ≤ x0 ∧ x0 ≤ hi := fun hi x0 y e1 e2 => by
    rw [e2] at hb
    unfold PyInside.call at hb
    dsimp only at hb
    rw [e1] at hb
    simp [PyInside.each, PyInside.lists] at hb
    exact within_iff.mp hb
  have two : ∀ (hi hj x0 x1 : Int), PyAg03.bound p = ([(0, hi), (0, hj)], []) → c = [[p, x0, x1]] → (0 ≤ x0 ∧ x0 ≤ hi) ∧ (0 ≤ x1 ∧ x1 ≤ hj) := fun hi hj x0 x1 e1 e2 => by
    rw [e2] at hb
    unfold PyInside.call at hb
    dsimp only at hb
    rw [e1] at hb
    simp [PyInside.each, PyInside.lists] at hb
    exact ⟨within_iff.mp hb.1, within_iff.mp hb.2⟩
  rcases h15 with rfl | rfl | rfl | rfl | rfl | rfl | rfl | rfl | rfl | rfl | rfl | rfl | rfl | rfl | rfl
  · obtain ⟨x0, x1, q, rfl, rfl⟩ := call21 rfl hc
    have hb' : ((PyInside.within 0 999 x0 && (PyInside.within 0 2000 x1 && true)) && (decide (0 ≤ q.length) && decide (q.length ≤ 10) && q.all (PyInside.within 0 20) && true)) = true := hb
    simp only [Bool.and_eq_true, Bool.and_true, within_iff, decide_eq_true_eq, List.all_eq_true] at hb'
    obtain ⟨⟨a1, a2⟩, ⟨a3, a4⟩, a5⟩ := hb'
    refine ⟨.begin_ x0.toNat x1.toNat (Ag03Neutral.nats q), ?_, ⟨by omega, by omega, by unfold Ag03Neutral.nats; rw [List.length_map]; exact a4⟩, rfl⟩
    show _ = (0 :: ((x0.toNat : Nat) : Int) :: ((x1.toNat : Nat) : Int) :: ((Ag03Neutral.nats q).length : Int) :: intsOf (Ag03Neutral.nats q)) ++ t
    rw [intsOf_nats fun x hx => (a5 x hx).1, Int.toNat_of_nonneg a1.1, Int.toNat_of_nonneg a2.1, show (Ag03Neutral.nats q).length = q.length from List.length_map _]
    rfl
  · obtain ⟨x0, q, rfl, rfl⟩ := call11 rfl hc
    have hb' : ((PyInside.within 0 2000 x0 && true) && (decide (0 ≤ q.length) && decide (q.length ≤ 10) && q.all (PyInside.within 0 3000) && true)) = true := hb
    simp only [Bool.and_eq_true, Bool.and_true, within_iff, decide_eq_true_eq, List.all_eq_true] at hb'
    obtain ⟨a1, ⟨a3, a4⟩, a5⟩ := hb'
    refine ⟨.pass x0.toNat (Ag03Neutral.nats q), ?_, ⟨by omega, by unfold Ag03Neutral.nats; rw [List.length_map]; exact a4, fun x hx => ?_⟩, rfl⟩
    · show _ = (1 :: ((x0.toNat : Nat) : Int) :: ((Ag03Neutral.nats q).length : Int) :: intsOf (Ag03Neutral.nats q)) ++ t
      rw [intsOf_nats fun x hx => (a5 x hx).1, Int.toNat_of_nonneg a1.1, show (Ag03Neutral.nats q).length = q.length from List.length_map _]
      rfl
    · unfold Ag03Neutral.nats at hx
      obtain ⟨y, hy, rfl⟩ := List.mem_map.mp hx
      have := a5 y hy
      omega
  · obtain ⟨x0, rfl, rfl⟩ := call10 rfl hc
    have a := one 9 x0 [] rfl rfl
    exact ⟨.wish x0.toNat, by show _ = [2, ((x0.toNat : Nat) : Int)] ++ t; rw [Int.toNat_of_nonneg a.1]; rfl, (by show x0.toNat ≤ 9; omega), rfl⟩
  · obtain ⟨x0, rfl, rfl⟩ := call10 rfl hc
    have a := one 9 x0 [] rfl rfl
    exact ⟨.renew x0.toNat, by show _ = [3, ((x0.toNat : Nat) : Int)] ++ t; rw [Int.toNat_of_nonneg a.1]; rfl, (by show x0.toNat ≤ 9; omega), rfl⟩
  · obtain ⟨x0, x1, rfl, rfl⟩ := call20 rfl hc
    have a := two 9 9 x0 x1 rfl rfl
    exact ⟨.leave x0.toNat x1.toNat, by show _ = [4, ((x0.toNat : Nat) : Int), ((x1.toNat : Nat) : Int)] ++ t; rw [Int.toNat_of_nonneg a.1.1, Int.toNat_of_nonneg a.2.1]; rfl, (by show x0.toNat ≤ 9 ∧ x1.toNat ≤ 9; omega), rfl⟩
  · obtain ⟨x0, x1, rfl, rfl⟩ := call20 rfl hc
    have a := two 9 20 x0 x1 rfl rfl
    exact ⟨.rank x0.toNat x1.toNat, by show _ = [5, ((x0.toNat : Nat) : Int), ((x1.toNat : Nat) : Int)] ++ t; rw [Int.toNat_of_nonneg a.1.1, Int.toNat_of_nonneg a.2.1]; rfl, (by show x0.toNat ≤ 9 ∧ x1.toNat ≤ 20; omega), rfl⟩
  · obtain ⟨x0, rfl, rfl⟩ := call10 rfl hc
    have a := one 200 x0 [] rfl rfl
    exact ⟨.take x0.toNat, by show _ = [6, ((x0.toNat : Nat) : Int)] ++ t; rw [Int.toNat_of_nonneg a.1]; rfl, (by show x0.toNat ≤ 200; omega), rfl⟩
  · obtain ⟨x0, rfl, rfl⟩ := call10 rfl hc
    have a := one 200 x0 [] rfl rfl
    exact ⟨.keep x0.toNat, by show _ = [7, ((x0.toNat : Nat) : Int)] ++ t; rw [Int.toNat_of_nonneg a.1]; rfl, (by show x0.toNat ≤ 200; omega), rfl⟩
  · obtain ⟨x0, rfl, rfl⟩ := call10 rfl hc
    have a := one 200 x0 [] rfl rfl
    exact ⟨.lose x0.toNat, by show _ = [8, ((x0.toNat : Nat) : Int)] ++ t; rw [Int.toNat_of_nonneg a.1]; rfl, (by show x0.toNat ≤ 200; omega), rfl⟩
  · obtain ⟨x0, rfl, rfl⟩ := call10 rfl hc
    have a := one 9 x0 [] rfl rfl
    exact ⟨.halt_ x0.toNat, by show _ = [9, ((x0.toNat : Nat) : Int)] ++ t; rw [Int.toNat_of_nonneg a.1]; rfl, (by show x0.toNat ≤ 9; omega), rfl⟩
  · obtain ⟨x0, rfl, rfl⟩ := call10 rfl hc
    have a := one 9 x0 [] rfl rfl
    exact ⟨.start x0.toNat, by show _ = [10, ((x0.toNat : Nat) : Int)] ++ t; rw [Int.toNat_of_nonneg a.1]; rfl, (by show x0.toNat ≤ 9; omega), rfl⟩
  · obtain ⟨rfl, rfl⟩ := call00 rfl hc
    exact ⟨.letters, rfl, trivial, rfl⟩
  · obtain ⟨x0, rfl, rfl⟩ := call10 rfl hc
    have a := one 9 x0 [] rfl rfl
    exact ⟨.node x0.toNat, by show _ = [12, ((x0.toNat : Nat) : Int)] ++ t; rw [Int.toNat_of_nonneg a.1]; rfl, (by show x0.toNat ≤ 9; omega), rfl⟩
  · obtain ⟨rfl, rfl⟩ := call00 rfl hc
    exact ⟨.holds, rfl, trivial, rfl⟩
  · obtain ⟨rfl, rfl⟩ := call00 rfl hc
    exact ⟨.led, rfl, trivial, rfl⟩
theorem parse_all : ∀ (f : Nat) (l : List Int) (cs : List (List (List Int))), PyFlat.calls PyAg03.shape f l = some cs → PyInside.calls PyAg03.bound cs = true →
    ∃ xs : List Ag03.Call, l = xs.flatMap enc ∧ (∀ x ∈ xs, bnd x) ∧ cs.length = xs.length ∧ ∀ o, PyFlat.played Ag03Neutral.step o (cs.map PyAg03.whole) = run o xs
  | _, [], cs, h, hb => by
    have e : cs = [] := by
      cases ‹Nat› <;> (unfold PyFlat.calls at h; exact (Option.some.inj h).symm)
    subst e
    exact ⟨[], rfl, (fun x hx => by cases hx), rfl, fun _ => rfl⟩
  | 0, p :: r, cs, h, hb => by cases h
  | f + 1, p :: r, cs, h, hb => by
    unfold PyFlat.calls at h
    cases e : PyFlat.call PyAg03.shape (p :: r) with
    | none => rw [e] at h; cases h
    | some y =>
      obtain ⟨c, t⟩ := y
      rw [e] at h
      dsimp only at h
      cases e2 : PyFlat.calls PyAg03.shape f t with
      | none => rw [e2] at h; cases h
      | some cs' =>
        rw [e2] at h
        cases h
        have hb' : (PyInside.call PyAg03.bound c && cs'.all (PyInside.call PyAg03.bound)) = true := hb
        rw [Bool.and_eq_true] at hb'
        obtain ⟨x, e3, hx, e4⟩ := parse_one e hb'.1
        obtain ⟨xs, e5, hxs, e6, e7⟩ := parse_all f t cs' e2 hb'.2
        refine ⟨x :: xs, ?_, ?_, ?_, ?_⟩
        · rw [e3, e5, List.flatMap_cons]
        · intro y hy
          rcases List.mem_cons.mp hy with rfl | hy
          · exact hx
          · exact hxs y hy
        · rw [List.length_cons, List.length_cons, e6]
        · intro o
          have es : Ag03Neutral.step o (PyAg03.whole c) = Ag03.step o x := by
            unfold Ag03Neutral.step
            rw [e4]
          show (Ag03Neutral.step o (PyAg03.whole c)).2 :: PyFlat.played Ag03Neutral.step (Ag03Neutral.step o (PyAg03.whole c)).1 (cs'.map PyAg03.whole) = (Ag03.step o x).2 :: run (Ag03.step o x).1 xs
          rw [es, e7]
/-- **what is handed in, and what is due** -/
theorem parse {l : List Int} (h : PyAg03.answers_asked l = true) : ∃ xs : List Ag03.Call, l = xs.flatMap enc ∧ (∀ x ∈ xs, bnd x) ∧ xs.length ≤ 100 ∧ PyAg03.answers l = PyFlat.told (run none xs) := by
  unfold PyAg03.answers_asked at h
  cases e : PyFlat.calls PyAg03.shape l.length l with
  | none => rw [e] at h; cases h
  | some raw =>
    rw [e] at h
    dsimp only at h
    simp only [Bool.and_eq_true] at h
    obtain ⟨⟨⟨⟨h1, h2⟩, h3⟩, h4⟩, h5⟩ := h
    obtain ⟨xs, e1, e2, e3, e4⟩ := parse_all _ _ _ e h3
    refine ⟨xs, e1, e2, ?_, ?_⟩
    · unfold PyFlat.atMost at h2
      rw [← e3]
      exact of_decide_eq_true h2
    · unfold PyAg03.answers PyAg03.calls
      rw [e]
      dsimp only
      rw [e4]
      rfl
end Hfs
namespace Hfs
/-! ### one more leads at the most, a call -/
theorem ask_led (s : Ag03.State) (i : Nat) : (Ag03.ask s i).1.led.length ≤ s.led.length + 1 := by
  unfold Ag03.ask
  dsimp only
  split
  · show (s.led ++ _).length ≤ _
    rw [List.length_append]
    exact Nat.le_refl _
  · exact Nat.le_succ _
theorem wish_led (s : Ag03.State) (i : Nat) : (Ag03.wish s i).1.led.length ≤ s.led.length + 1 := by
  unfold Ag03.wish
  dsimp only
  generalize (if Ag03.bound (Ag03.node s i) i = true then [] else [i]) = l
  split
  · exact ask_led _ i
  · exact Nat.le_succ s.led.length
theorem hand_led (s : Ag03.State) (x : Ag03.Letter) : (Ag03.hand s x).1.led.length ≤ s.led.length + 1 := by
  unfold Ag03.hand
  dsimp only
  repeat' split
  all_goals first
    | exact Nat.le_succ _
    | exact ask_led _ _
    | (show (s.led ++ _).length ≤ _; rw [List.length_append]; exact Nat.le_refl _)
theorem step_led {s s' : Ag03.State} {x : Ag03.Call} {a : List Int} (h : Ag03.step (some s) x = (some s', a)) : s'.led.length ≤ s.led.length + 1 := by
  have key : ∀ (t : Ag03.State) (b : List Int), t.led.length ≤ s.led.length + 1 → (some t, b) = (some s', a) → s'.led.length ≤ s.led.length + 1 := fun t b ht e => by
    cases e
    exact ht
  cases x <;> (unfold Ag03.step at h; dsimp only at h)
  all_goals repeat' split at h
  all_goals
    refine key _ _ ?_ h
    first
      | exact Nat.le_succ s.led.length
      | exact wish_led _ _
      | exact hand_led _ _
      | exact Nat.zero_le _
theorem parse_short {l : List Int} (h : PyAg03.answers_asked l = true) : (PyAg03.answers l).length ≤ 10000000 := by
  unfold PyAg03.answers_asked at h
  cases e : PyFlat.calls PyAg03.shape l.length l with
  | none => rw [e] at h; cases h
  | some raw =>
    rw [e] at h
    dsimp only at h
    simp only [Bool.and_eq_true] at h
    exact of_decide_eq_true h.2
theorem told_cons (o : Ag03.Abs) (x : Ag03.Call) (r : List Ag03.Call) {o' : Ag03.Abs} {a : List Int} (e : Ag03.step o x = (o', a)) : PyFlat.told (run o (x :: r)) = ((a.length : Int) :: a) ++ PyFlat.told (run o' r) := by
  show PyFlat.told ((Ag03.step o x).2 :: run (Ag03.step o x).1 r) = _
  rw [e]
  rfl
def isBegin : Ag03.Call → Prop
  | .begin_ _ _ _ => True
  | _ => False
theorem enc_cons (x : Ag03.Call) (h : ¬ isBegin x) : ∃ cd t, enc x = cd :: t ∧ cd ≠ 0 := by
  cases x <;> first | exact ⟨_, _, rfl, by decide⟩ | exact absurd trivial h
theorem enc_pos (x : Ag03.Call) : 1 ≤ (enc x).length := by
  cases x <;> exact Nat.succ_le_succ (Nat.zero_le _)
theorem step_none (x : Ag03.Call) (h : ¬ isBegin x) : Ag03.step none x = (none, [-9]) := by
  cases x <;> first | rfl | exact absurd trivial h
end Hfs
namespace Hfs
open PySem PySem.Spec PyProof.Rows L2
/-! ### the text by places -/
def topS (i : Nat) : Stmt := PySem.Challenge.pw_holdsforsure_s01_answers.main.body.getD i (.Pass ⟨0, 0, 0, 0⟩)
abbrev s_Promise_init : Stmt := inClass (topS 12) 0
abbrev N_Promise_init : List Str := ["self", "whom", "term", "until"]
theorem sc_Promise_init : FnScope N_Promise_init ["self", "whom", "term", "until"] (defScope s_Promise_init) := ⟨rfl, rfl, rfl, by decide +kernel, rfl, by decide +kernel, by decide +kernel⟩
abbrev s_Letter_init : Stmt := inClass (topS 13) 0
abbrev N_Letter_init : List Str := ["self", "kind", "whom", "sender", "term", "number", "yes"]
theorem sc_Letter_init : FnScope N_Letter_init ["self", "kind", "whom", "sender", "term", "number", "yes"] (defScope s_Letter_init) := ⟨rfl, rfl, rfl, by decide +kernel, rfl, by decide +kernel, by decide +kernel⟩
abbrev s_Node_init : Stmt := inClass (topS 14) 0
abbrev N_Node_init : List Str := ["self"]
theorem sc_Node_init : FnScope N_Node_init ["self"] (defScope s_Node_init) := ⟨rfl, rfl, rfl, by decide +kernel, rfl, by decide +kernel, by decide +kernel⟩
abbrev s_World_init : Stmt := inClass (topS 15) 0
abbrev N_World_init : List Str := ["self", "wrong", "long", "weights", "weight"]
theorem sc_World_init : FnScope N_World_init ["self", "wrong", "long", "weights"] (defScope s_World_init) := ⟨rfl, rfl, rfl, by decide +kernel, rfl, by decide +kernel, by decide +kernel⟩
abbrev s_span_of : Stmt := topS 16
abbrev N_span_of : List Str := ["wrong", "long"]
theorem sc_span_of : FnScope N_span_of ["wrong", "long"] (defScope s_span_of) := ⟨rfl, rfl, rfl, by decide +kernel, rfl, by decide +kernel, by decide +kernel⟩
abbrev s_is_most : Stmt := topS 22
abbrev N_is_most : List Str := ["world", "members", "weight", "member"]
theorem sc_is_most : FnScope N_is_most ["world", "members"] (defScope s_is_most) := ⟨rfl, rfl, rfl, by decide +kernel, rfl, by decide +kernel, by decide +kernel⟩
abbrev s_is_bound : Stmt := topS 23
abbrev N_is_bound : List Str := ["node", "against"]
theorem sc_is_bound : FnScope N_is_bound ["node", "against"] (defScope s_is_bound) := ⟨rfl, rfl, rfl, by decide +kernel, rfl, by decide +kernel, by decide +kernel⟩
abbrev s_holds_now : Stmt := topS 24
abbrev N_holds_now : List Str := ["node"]
theorem sc_holds_now : FnScope N_holds_now ["node"] (defScope s_holds_now) := ⟨rfl, rfl, rfl, by decide +kernel, rfl, by decide +kernel, by decide +kernel⟩
abbrev s_hear_of_term : Stmt := topS 25
abbrev N_hear_of_term : List Str := ["node", "term"]
theorem sc_hear_of_term : FnScope N_hear_of_term ["node", "term"] (defScope s_hear_of_term) := ⟨rfl, rfl, rfl, by decide +kernel, rfl, by decide +kernel, by decide +kernel⟩
abbrev s_send : Stmt := topS 26
abbrev N_send : List Str := ["world", "letter"]
theorem sc_send : FnScope N_send ["world", "letter"] (defScope s_send) := ⟨rfl, rfl, rfl, by decide +kernel, rfl, by decide +kernel, by decide +kernel⟩
abbrev s_send_to_others : Stmt := topS 27
abbrev N_send_to_others : List Str := ["world", "sender", "kind", "term", "number", "yes_to", "whom"]
theorem sc_send_to_others : FnScope N_send_to_others ["world", "sender", "kind", "term", "number", "yes_to"] (defScope s_send_to_others) := ⟨rfl, rfl, rfl, by decide +kernel, rfl, by decide +kernel, by decide +kernel⟩
abbrev s_begin_wish : Stmt := topS 28
abbrev N_begin_wish : List Str := ["world", "place", "node"]
theorem sc_begin_wish : FnScope N_begin_wish ["world", "place"] (defScope s_begin_wish) := ⟨rfl, rfl, rfl, by decide +kernel, rfl, by decide +kernel, by decide +kernel⟩
abbrev s_ask_if_most_would : Stmt := topS 29
abbrev N_ask_if_most_would : List Str := ["world", "place"]
theorem sc_ask_if_most_would : FnScope N_ask_if_most_would ["world", "place"] (defScope s_ask_if_most_would) := ⟨rfl, rfl, rfl, by decide +kernel, rfl, by decide +kernel, by decide +kernel⟩
abbrev s_ask : Stmt := topS 30
abbrev N_ask : List Str := ["world", "place", "node"]
theorem sc_ask : FnScope N_ask ["world", "place"] (defScope s_ask) := ⟨rfl, rfl, rfl, by decide +kernel, rfl, by decide +kernel, by decide +kernel⟩
abbrev s_lead : Stmt := topS 31
abbrev N_lead : List Str := ["world", "place", "node"]
theorem sc_lead : FnScope N_lead ["world", "place"] (defScope s_lead) := ⟨rfl, rfl, rfl, by decide +kernel, rfl, by decide +kernel, by decide +kernel⟩
abbrev s_promise_to : Stmt := topS 32
abbrev N_promise_to : List Str := ["world", "node", "whom", "term"]
theorem sc_promise_to : FnScope N_promise_to ["world", "node", "whom", "term"] (defScope s_promise_to) := ⟨rfl, rfl, rfl, by decide +kernel, rfl, by decide +kernel, by decide +kernel⟩
abbrev s_begin_round : Stmt := topS 33
abbrev N_begin_round : List Str := ["world", "place", "node"]
theorem sc_begin_round : FnScope N_begin_round ["world", "place"] (defScope s_begin_round) := ⟨rfl, rfl, rfl, by decide +kernel, rfl, by decide +kernel, by decide +kernel⟩
abbrev s_hold_if_most_gave : Stmt := topS 34
abbrev N_hold_if_most_gave : List Str := ["world", "node"]
theorem sc_hold_if_most_gave : FnScope N_hold_if_most_gave ["world", "node"] (defScope s_hold_if_most_gave) := ⟨rfl, rfl, rfl, by decide +kernel, rfl, by decide +kernel, by decide +kernel⟩
abbrev s_let_go : Stmt := topS 35
abbrev N_let_go : List Str := ["world", "place", "heir", "node"]
theorem sc_let_go : FnScope N_let_go ["world", "place", "heir"] (defScope s_let_go) := ⟨rfl, rfl, rfl, by decide +kernel, rfl, by decide +kernel, by decide +kernel⟩
abbrev s_begin_anew : Stmt := topS 36
abbrev N_begin_anew : List Str := ["world", "place", "before", "node"]
theorem sc_begin_anew : FnScope N_begin_anew ["world", "place"] (defScope s_begin_anew) := ⟨rfl, rfl, rfl, by decide +kernel, rfl, by decide +kernel, by decide +kernel⟩
abbrev s_hand_over : Stmt := topS 44
abbrev N_hand_over : List Str := ["world", "letter"]
theorem sc_hand_over : FnScope N_hand_over ["world", "letter"] (defScope s_hand_over) := ⟨rfl, rfl, rfl, by decide +kernel, rfl, by decide +kernel, by decide +kernel⟩
abbrev s_reply : Stmt := topS 45
abbrev N_reply : List Str := ["world", "letter", "kind", "term", "number", "yes"]
theorem sc_reply : FnScope N_reply ["world", "letter", "kind", "term", "number", "yes"] (defScope s_reply) := ⟨rfl, rfl, rfl, by decide +kernel, rfl, by decide +kernel, by decide +kernel⟩
abbrev s_get_would_you : Stmt := topS 46
abbrev N_get_would_you : List Str := ["world", "letter", "node", "free", "yes"]
theorem sc_get_would_you : FnScope N_get_would_you ["world", "letter"] (defScope s_get_would_you) := ⟨rfl, rfl, rfl, by decide +kernel, rfl, by decide +kernel, by decide +kernel⟩
abbrev s_get_would : Stmt := topS 47
abbrev N_get_would : List Str := ["world", "letter", "node"]
theorem sc_get_would : FnScope N_get_would ["world", "letter"] (defScope s_get_would) := ⟨rfl, rfl, rfl, by decide +kernel, rfl, by decide +kernel, by decide +kernel⟩
abbrev s_get_vote : Stmt := topS 48
abbrev N_get_vote : List Str := ["world", "letter", "node", "unspent", "yes"]
theorem sc_get_vote : FnScope N_get_vote ["world", "letter"] (defScope s_get_vote) := ⟨rfl, rfl, rfl, by decide +kernel, rfl, by decide +kernel, by decide +kernel⟩
abbrev s_get_voted : Stmt := topS 49
abbrev N_get_voted : List Str := ["world", "letter", "node"]
theorem sc_get_voted : FnScope N_get_voted ["world", "letter"] (defScope s_get_voted) := ⟨rfl, rfl, rfl, by decide +kernel, rfl, by decide +kernel, by decide +kernel⟩
abbrev s_get_promise : Stmt := topS 50
abbrev N_get_promise : List Str := ["world", "letter", "node"]
theorem sc_get_promise : FnScope N_get_promise ["world", "letter"] (defScope s_get_promise) := ⟨rfl, rfl, rfl, by decide +kernel, rfl, by decide +kernel, by decide +kernel⟩
abbrev s_get_promised : Stmt := topS 51
abbrev N_get_promised : List Str := ["world", "letter", "node", "held_until"]
theorem sc_get_promised : FnScope N_get_promised ["world", "letter"] (defScope s_get_promised) := ⟨rfl, rfl, rfl, by decide +kernel, rfl, by decide +kernel, by decide +kernel⟩
abbrev s_get_free : Stmt := topS 52
abbrev N_get_free : List Str := ["world", "letter", "node"]
theorem sc_get_free : FnScope N_get_free ["world", "letter"] (defScope s_get_free) := ⟨rfl, rfl, rfl, by decide +kernel, rfl, by decide +kernel, by decide +kernel⟩
abbrev s_with_length : Stmt := topS 56
abbrev N_with_length : List Str := ["members"]
theorem sc_with_length : FnScope N_with_length ["members"] (defScope s_with_length) := ⟨rfl, rfl, rfl, by decide +kernel, rfl, by decide +kernel, by decide +kernel⟩
abbrev s_report_letters : Stmt := topS 57
abbrev N_report_letters : List Str := ["world", "told", "letter"]
theorem sc_report_letters : FnScope N_report_letters ["world"] (defScope s_report_letters) := ⟨rfl, rfl, rfl, by decide +kernel, rfl, by decide +kernel, by decide +kernel⟩
abbrev s_report_node : Stmt := topS 58
abbrev N_report_node : List Str := ["node", "told"]
theorem sc_report_node : FnScope N_report_node ["node"] (defScope s_report_node) := ⟨rfl, rfl, rfl, by decide +kernel, rfl, by decide +kernel, by decide +kernel⟩
abbrev s_report_promise : Stmt := topS 59
abbrev N_report_promise : List Str := ["node"]
theorem sc_report_promise : FnScope N_report_promise ["node"] (defScope s_report_promise) := ⟨rfl, rfl, rfl, by decide +kernel, rfl, by decide +kernel, by decide +kernel⟩
abbrev s_report_holding : Stmt := topS 60
abbrev N_report_holding : List Str := ["world", "holding", "place", "node"]
theorem sc_report_holding : FnScope N_report_holding ["world"] (defScope s_report_holding) := ⟨rfl, rfl, rfl, by decide +kernel, rfl, by decide +kernel, by decide +kernel⟩
abbrev s_report_led : Stmt := topS 61
abbrev N_report_led : List Str := ["world", "told", "term", "place"]
theorem sc_report_led : FnScope N_report_led ["world"] (defScope s_report_led) := ⟨rfl, rfl, rfl, by decide +kernel, rfl, by decide +kernel, by decide +kernel⟩
abbrev s_answers : Stmt := topS 82
abbrev N_answers : List Str := ["calls", "world", "told", "at", "end", "call", "answer"]
theorem sc_answers : FnScope N_answers ["calls"] (defScope s_answers) := ⟨rfl, rfl, rfl, by decide +kernel, rfl, by decide +kernel, by decide +kernel⟩
abbrev s_end_of_call : Stmt := topS 83
abbrev N_end_of_call : List Str := ["calls", "at", "end"]
theorem sc_end_of_call : FnScope N_end_of_call ["calls", "at"] (defScope s_end_of_call) := ⟨rfl, rfl, rfl, by decide +kernel, rfl, by decide +kernel, by decide +kernel⟩
abbrev s_answer_in : Stmt := topS 84
abbrev N_answer_in : List Str := ["world", "call"]
theorem sc_answer_in : FnScope N_answer_in ["world", "call"] (defScope s_answer_in) := ⟨rfl, rfl, rfl, by decide +kernel, rfl, by decide +kernel, by decide +kernel⟩
abbrev s_carry_out : Stmt := topS 85
abbrev N_carry_out : List Str := ["world", "call"]
theorem sc_carry_out : FnScope N_carry_out ["world", "call"] (defScope s_carry_out) := ⟨rfl, rfl, rfl, by decide +kernel, rfl, by decide +kernel, by decide +kernel⟩
abbrev s_begin_is_right : Stmt := topS 86
abbrev N_begin_is_right : List Str := ["wrong", "long", "weights"]
theorem sc_begin_is_right : FnScope N_begin_is_right ["wrong", "long", "weights"] (defScope s_begin_is_right) := ⟨rfl, rfl, rfl, by decide +kernel, rfl, by decide +kernel, by decide +kernel⟩
abbrev s_elapse : Stmt := topS 87
abbrev N_elapse : List Str := ["world", "passed", "clocks", "node", "clock"]
theorem sc_elapse : FnScope N_elapse ["world", "passed", "clocks"] (defScope s_elapse) := ⟨rfl, rfl, rfl, by decide +kernel, rfl, by decide +kernel, by decide +kernel⟩
abbrev s_clock_may_go : Stmt := topS 88
abbrev N_clock_may_go : List Str := ["world", "passed", "clock"]
theorem sc_clock_may_go : FnScope N_clock_may_go ["world", "passed", "clock"] (defScope s_clock_may_go) := ⟨rfl, rfl, rfl, by decide +kernel, rfl, by decide +kernel, by decide +kernel⟩
abbrev s_wish : Stmt := topS 89
abbrev N_wish : List Str := ["world", "place", "refusal"]
theorem sc_wish : FnScope N_wish ["world", "place"] (defScope s_wish) := ⟨rfl, rfl, rfl, by decide +kernel, rfl, by decide +kernel, by decide +kernel⟩
abbrev s_renew : Stmt := topS 90
abbrev N_renew : List Str := ["world", "place", "refusal"]
theorem sc_renew : FnScope N_renew ["world", "place"] (defScope s_renew) := ⟨rfl, rfl, rfl, by decide +kernel, rfl, by decide +kernel, by decide +kernel⟩
abbrev s_leave : Stmt := topS 91
abbrev N_leave : List Str := ["world", "place", "heir", "refusal"]
theorem sc_leave : FnScope N_leave ["world", "place", "heir"] (defScope s_leave) := ⟨rfl, rfl, rfl, by decide +kernel, rfl, by decide +kernel, by decide +kernel⟩
abbrev s_refusal_of : Stmt := topS 92
abbrev N_refusal_of : List Str := ["world", "place", "must_lead", "leads"]
theorem sc_refusal_of : FnScope N_refusal_of ["world", "place", "must_lead"] (defScope s_refusal_of) := ⟨rfl, rfl, rfl, by decide +kernel, rfl, by decide +kernel, by decide +kernel⟩
abbrev s_raise_rank : Stmt := topS 93
abbrev N_raise_rank : List Str := ["world", "place", "rank"]
theorem sc_raise_rank : FnScope N_raise_rank ["world", "place", "rank"] (defScope s_raise_rank) := ⟨rfl, rfl, rfl, by decide +kernel, rfl, by decide +kernel, by decide +kernel⟩
abbrev s_take : Stmt := topS 94
abbrev N_take : List Str := ["world", "place", "letter"]
theorem sc_take : FnScope N_take ["world", "place"] (defScope s_take) := ⟨rfl, rfl, rfl, by decide +kernel, rfl, by decide +kernel, by decide +kernel⟩
abbrev s_keep : Stmt := topS 95
abbrev N_keep : List Str := ["world", "place"]
theorem sc_keep : FnScope N_keep ["world", "place"] (defScope s_keep) := ⟨rfl, rfl, rfl, by decide +kernel, rfl, by decide +kernel, by decide +kernel⟩
abbrev s_lose : Stmt := topS 96
abbrev N_lose : List Str := ["world", "place"]
theorem sc_lose : FnScope N_lose ["world", "place"] (defScope s_lose) := ⟨rfl, rfl, rfl, by decide +kernel, rfl, by decide +kernel, by decide +kernel⟩
abbrev s_stop : Stmt := topS 97
abbrev N_stop : List Str := ["world", "place"]
theorem sc_stop : FnScope N_stop ["world", "place"] (defScope s_stop) := ⟨rfl, rfl, rfl, by decide +kernel, rfl, by decide +kernel, by decide +kernel⟩
abbrev s_start : Stmt := topS 98
abbrev N_start : List Str := ["world", "place"]
theorem sc_start : FnScope N_start ["world", "place"] (defScope s_start) := ⟨rfl, rfl, rfl, by decide +kernel, rfl, by decide +kernel, by decide +kernel⟩
/-! ### the objects' fields -/
def fP (x0 x1 x2 : V) : List (Str × V) := [(("whom" : Str), x0), (("term" : Str), x1), (("until" : Str), x2)]
abbrev fldsP : List Str := ["whom", "term", "until"]
theorem fP_get_whom (x0 x1 x2 : V) : (fP x0 x1 x2).lookup ("whom" : Str) = some x0 := rfl
theorem fP_put_whom (x0 x1 x2 y : V) : putF "whom" y (fP x0 x1 x2) = fP y x1 x2 := rfl
theorem fP_get_term (x0 x1 x2 : V) : (fP x0 x1 x2).lookup ("term" : Str) = some x1 := rfl
theorem fP_put_term (x0 x1 x2 y : V) : putF "term" y (fP x0 x1 x2) = fP x0 y x2 := rfl
theorem fP_get_until (x0 x1 x2 : V) : (fP x0 x1 x2).lookup ("until" : Str) = some x2 := rfl
theorem fP_put_until (x0 x1 x2 y : V) : putF "until" y (fP x0 x1 x2) = fP x0 x1 y := rfl
theorem fP_new (x0 x1 x2 : V) : putF "until" x2 (putF "term" x1 (putF "whom" x0 ([]))) = fP x0 x1 x2 := rfl
def fL (x0 x1 x2 x3 x4 x5 : V) : List (Str × V) := [(("kind" : Str), x0), (("whom" : Str), x1), (("sender" : Str), x2), (("term" : Str), x3), (("number" : Str), x4), (("yes" : Str), x5)]
abbrev fldsL : List Str := ["kind", "whom", "sender", "term", "number", "yes"]
theorem fL_get_kind (x0 x1 x2 x3 x4 x5 : V) : (fL x0 x1 x2 x3 x4 x5).lookup ("kind" : Str) = some x0 := rfl
theorem fL_put_kind (x0 x1 x2 x3 x4 x5 y : V) : putF "kind" y (fL x0 x1 x2 x3 x4 x5) = fL y x1 x2 x3 x4 x5 := rfl
theorem fL_get_whom (x0 x1 x2 x3 x4 x5 : V) : (fL x0 x1 x2 x3 x4 x5).lookup ("whom" : Str) = some x1 := rfl
theorem fL_put_whom (x0 x1 x2 x3 x4 x5 y : V) : putF "whom" y (fL x0 x1 x2 x3 x4 x5) = fL x0 y x2 x3 x4 x5 := rfl
theorem fL_get_sender (x0 x1 x2 x3 x4 x5 : V) : (fL x0 x1 x2 x3 x4 x5).lookup ("sender" : Str) = some x2 := rfl
theorem fL_put_sender (x0 x1 x2 x3 x4 x5 y : V) : putF "sender" y (fL x0 x1 x2 x3 x4 x5) = fL x0 x1 y x3 x4 x5 := rfl
theorem fL_get_term (x0 x1 x2 x3 x4 x5 : V) : (fL x0 x1 x2 x3 x4 x5).lookup ("term" : Str) = some x3 := rfl
theorem fL_put_term (x0 x1 x2 x3 x4 x5 y : V) : putF "term" y (fL x0 x1 x2 x3 x4 x5) = fL x0 x1 x2 y x4 x5 := rfl
theorem fL_get_number (x0 x1 x2 x3 x4 x5 : V) : (fL x0 x1 x2 x3 x4 x5).lookup ("number" : Str) = some x4 := rfl
theorem fL_put_number (x0 x1 x2 x3 x4 x5 y : V) : putF "number" y (fL x0 x1 x2 x3 x4 x5) = fL x0 x1 x2 x3 y x5 := rfl
theorem fL_get_yes (x0 x1 x2 x3 x4 x5 : V) : (fL x0 x1 x2 x3 x4 x5).lookup ("yes" : Str) = some x5 := rfl
theorem fL_put_yes (x0 x1 x2 x3 x4 x5 y : V) : putF "yes" y (fL x0 x1 x2 x3 x4 x5) = fL x0 x1 x2 x3 x4 y := rfl
theorem fL_new (x0 x1 x2 x3 x4 x5 : V) : putF "yes" x5 (putF "number" x4 (putF "term" x3 (putF "sender" x2 (putF "whom" x1 (putF "kind" x0 ([])))))) = fL x0 x1 x2 x3 x4 x5 := rfl
def fN (x0 x1 x2 x3 x4 x5 x6 x7 x8 x9 x10 x11 x12 x13 : V) : List (Str × V) := [(("runs" : Str), x0), (("clock" : Str), x1), (("term" : Str), x2), (("voted" : Str), x3), (("rank" : Str), x4), (("state" : Str), x5), (("promise" : Str), x6), (("still_until" : Str), x7), (("would" : Str), x8), (("votes" : Str), x9), (("round_number" : Str), x10), (("round_begun" : Str), x11), (("given" : Str), x12), (("holds_until" : Str), x13)]
abbrev fldsN : List Str := ["runs", "clock", "term", "voted", "rank", "state", "promise", "still_until", "would", "votes", "round_number", "round_begun", "given", "holds_until"]
theorem fN_get_runs (x0 x1 x2 x3 x4 x5 x6 x7 x8 x9 x10 x11 x12 x13 : V) : (fN x0 x1 x2 x3 x4 x5 x6 x7 x8 x9 x10 x11 x12 x13).lookup ("runs" : Str) = some x0 := rfl
theorem fN_put_runs (x0 x1 x2 x3 x4 x5 x6 x7 x8 x9 x10 x11 x12 x13 y : V) : putF "runs" y (fN x0 x1 x2 x3 x4 x5 x6 x7 x8 x9 x10 x11 x12 x13) = fN y x1 x2 x3 x4 x5 x6 x7 x8 x9 x10 x11 x12 x13 := rfl
theorem fN_get_clock (x0 x1 x2 x3 x4 x5 x6 x7 x8 x9 x10 x11 x12 x13 : V) : (fN x0 x1 x2 x3 x4 x5 x6 x7 x8 x9 x10 x11 x12 x13).lookup ("clock" : Str) = some x1 := rfl
theorem fN_put_clock (x0 x1 x2 x3 x4 x5 x6 x7 x8 x9 x10 x11 x12 x13 y : V) : putF "clock" y (fN x0 x1 x2 x3 x4 x5 x6 x7 x8 x9 x10 x11 x12 x13) = fN x0 y x2 x3 x4 x5 x6 x7 x8 x9 x10 x11 x12 x13 := rfl
theorem fN_get_term (x0 x1 x2 x3 x4 x5 x6 x7 x8 x9 x10 x11 x12 x13 : V) : (fN x0 x1 x2 x3 x4 x5 x6 x7 x8 x9 x10 x11 x12 x13).lookup ("term" : Str) = some x2 := rfl
theorem fN_put_term (x0 x1 x2 x3 x4 x5 x6 x7 x8 x9 x10 x11 x12 x13 y : V) : putF "term" y (fN x0 x1 x2 x3 x4 x5 x6 x7 x8 x9 x10 x11 x12 x13) = fN x0 x1 y x3 x4 x5 x6 x7 x8 x9 x10 x11 x12 x13 := rfl
theorem fN_get_voted (x0 x1 x2 x3 x4 x5 x6 x7 x8 x9 x10 x11 x12 x13 : V) : (fN x0 x1 x2 x3 x4 x5 x6 x7 x8 x9 x10 x11 x12 x13).lookup ("voted" : Str) = some x3 := rfl
theorem fN_put_voted (x0 x1 x2 x3 x4 x5 x6 x7 x8 x9 x10 x11 x12 x13 y : V) : putF "voted" y (fN x0 x1 x2 x3 x4 x5 x6 x7 x8 x9 x10 x11 x12 x13) = fN x0 x1 x2 y x4 x5 x6 x7 x8 x9 x10 x11 x12 x13 := rfl
theorem fN_get_rank (x0 x1 x2 x3 x4 x5 x6 x7 x8 x9 x10 x11 x12 x13 : V) : (fN x0 x1 x2 x3 x4 x5 x6 x7 x8 x9 x10 x11 x12 x13).lookup ("rank" : Str) = some x4 := rfl
theorem fN_put_rank (x0 x1 x2 x3 x4 x5 x6 x7 x8 x9 x10 x11 x12 x13 y : V) : putF "rank" y (fN x0 x1 x2 x3 x4 x5 x6 x7 x8 x9 x10 x11 x12 x13) = fN x0 x1 x2 x3 y x5 x6 x7 x8 x9 x10 x11 x12 x13 := rfl
theorem fN_get_state (x0 x1 x2 x3 x4 x5 x6 x7 x8 x9 x10 x11 x12 x13 : V) : (fN x0 x1 x2 x3 x4 x5 x6 x7 x8 x9 x10 x11 x12 x13).lookup ("state" : Str) = some x5 := rfl
theorem fN_put_state (x0 x1 x2 x3 x4 x5 x6 x7 x8 x9 x10 x11 x12 x13 y : V) : putF "state" y (fN x0 x1 x2 x3 x4 x5 x6 x7 x8 x9 x10 x11 x12 x13) = fN x0 x1 x2 x3 x4 y x6 x7 x8 x9 x10 x11 x12 x13 := rfl
theorem fN_get_promise (x0 x1 x2 x3 x4 x5 x6 x7 x8 x9 x10 x11 x12 x13 : V) : (fN x0 x1 x2 x3 x4 x5 x6 x7 x8 x9 x10 x11 x12 x13).lookup ("promise" : Str) = some x6 := rfl
theorem fN_put_promise (x0 x1 x2 x3 x4 x5 x6 x7 x8 x9 x10 x11 x12 x13 y : V) : putF "promise" y (fN x0 x1 x2 x3 x4 x5 x6 x7 x8 x9 x10 x11 x12 x13) = fN x0 x1 x2 x3 x4 x5 y x7 x8 x9 x10 x11 x12 x13 := rfl
theorem fN_get_still_until (x0 x1 x2 x3 x4 x5 x6 x7 x8 x9 x10 x11 x12 x13 : V) : (fN x0 x1 x2 x3 x4 x5 x6 x7 x8 x9 x10 x11 x12 x13).lookup ("still_until" : Str) = some x7 := rfl
theorem fN_put_still_until (x0 x1 x2 x3 x4 x5 x6 x7 x8 x9 x10 x11 x12 x13 y : V) : putF "still_until" y (fN x0 x1 x2 x3 x4 x5 x6 x7 x8 x9 x10 x11 x12 x13) = fN x0 x1 x2 x3 x4 x5 x6 y x8 x9 x10 x11 x12 x13 := rfl
theorem fN_get_would (x0 x1 x2 x3 x4 x5 x6 x7 x8 x9 x10 x11 x12 x13 : V) : (fN x0 x1 x2 x3 x4 x5 x6 x7 x8 x9 x10 x11 x12 x13).lookup ("would" : Str) = some x8 := rfl
theorem fN_put_would (x0 x1 x2 x3 x4 x5 x6 x7 x8 x9 x10 x11 x12 x13 y : V) : putF "would" y (fN x0 x1 x2 x3 x4 x5 x6 x7 x8 x9 x10 x11 x12 x13) = fN x0 x1 x2 x3 x4 x5 x6 x7 y x9 x10 x11 x12 x13 := rfl
theorem fN_get_votes (x0 x1 x2 x3 x4 x5 x6 x7 x8 x9 x10 x11 x12 x13 : V) : (fN x0 x1 x2 x3 x4 x5 x6 x7 x8 x9 x10 x11 x12 x13).lookup ("votes" : Str) = some x9 := rfl
theorem fN_put_votes (x0 x1 x2 x3 x4 x5 x6 x7 x8 x9 x10 x11 x12 x13 y : V) : putF "votes" y (fN x0 x1 x2 x3 x4 x5 x6 x7 x8 x9 x10 x11 x12 x13) = fN x0 x1 x2 x3 x4 x5 x6 x7 x8 y x10 x11 x12 x13 := rfl
theorem fN_get_round_number (x0 x1 x2 x3 x4 x5 x6 x7 x8 x9 x10 x11 x12 x13 : V) : (fN x0 x1 x2 x3 x4 x5 x6 x7 x8 x9 x10 x11 x12 x13).lookup ("round_number" : Str) = some x10 := rfl
theorem fN_put_round_number (x0 x1 x2 x3 x4 x5 x6 x7 x8 x9 x10 x11 x12 x13 y : V) : putF "round_number" y (fN x0 x1 x2 x3 x4 x5 x6 x7 x8 x9 x10 x11 x12 x13) = fN x0 x1 x2 x3 x4 x5 x6 x7 x8 x9 y x11 x12 x13 := rfl
theorem fN_get_round_begun (x0 x1 x2 x3 x4 x5 x6 x7 x8 x9 x10 x11 x12 x13 : V) : (fN x0 x1 x2 x3 x4 x5 x6 x7 x8 x9 x10 x11 x12 x13).lookup ("round_begun" : Str) = some x11 := rfl
theorem fN_put_round_begun (x0 x1 x2 x3 x4 x5 x6 x7 x8 x9 x10 x11 x12 x13 y : V) : putF "round_begun" y (fN x0 x1 x2 x3 x4 x5 x6 x7 x8 x9 x10 x11 x12 x13) = fN x0 x1 x2 x3 x4 x5 x6 x7 x8 x9 x10 y x12 x13 := rfl
theorem fN_get_given (x0 x1 x2 x3 x4 x5 x6 x7 x8 x9 x10 x11 x12 x13 : V) : (fN x0 x1 x2 x3 x4 x5 x6 x7 x8 x9 x10 x11 x12 x13).lookup ("given" : Str) = some x12 := rfl
theorem fN_put_given (x0 x1 x2 x3 x4 x5 x6 x7 x8 x9 x10 x11 x12 x13 y : V) : putF "given" y (fN x0 x1 x2 x3 x4 x5 x6 x7 x8 x9 x10 x11 x12 x13) = fN x0 x1 x2 x3 x4 x5 x6 x7 x8 x9 x10 x11 y x13 := rfl
theorem fN_get_holds_until (x0 x1 x2 x3 x4 x5 x6 x7 x8 x9 x10 x11 x12 x13 : V) : (fN x0 x1 x2 x3 x4 x5 x6 x7 x8 x9 x10 x11 x12 x13).lookup ("holds_until" : Str) = some x13 := rfl
theorem fN_put_holds_until (x0 x1 x2 x3 x4 x5 x6 x7 x8 x9 x10 x11 x12 x13 y : V) : putF "holds_until" y (fN x0 x1 x2 x3 x4 x5 x6 x7 x8 x9 x10 x11 x12 x13) = fN x0 x1 x2 x3 x4 x5 x6 x7 x8 x9 x10 x11 x12 y := rfl
theorem fN_new (x0 x1 x2 x3 x4 x5 x6 x7 x8 x9 x10 x11 x12 x13 : V) : putF "holds_until" x13 (putF "given" x12 (putF "round_begun" x11 (putF "round_number" x10 (putF "votes" x9 (putF "would" x8 (putF "still_until" x7 (putF "promise" x6 (putF "state" x5 (putF "rank" x4 (putF "voted" x3 (putF "term" x2 (putF "clock" x1 (putF "runs" x0 ([])))))))))))))) = fN x0 x1 x2 x3 x4 x5 x6 x7 x8 x9 x10 x11 x12 x13 := rfl
def fW (x0 x1 x2 x3 x4 x5 x6 x7 : V) : List (Str × V) := [(("wrong" : Str), x0), (("long" : Str), x1), (("span" : Str), x2), (("weights" : Str), x3), (("true_time" : Str), x4), (("nodes" : Str), x5), (("row" : Str), x6), (("led" : Str), x7)]
abbrev fldsW : List Str := ["wrong", "long", "span", "weights", "true_time", "nodes", "row", "led"]
theorem fW_get_wrong (x0 x1 x2 x3 x4 x5 x6 x7 : V) : (fW x0 x1 x2 x3 x4 x5 x6 x7).lookup ("wrong" : Str) = some x0 := rfl
theorem fW_put_wrong (x0 x1 x2 x3 x4 x5 x6 x7 y : V) : putF "wrong" y (fW x0 x1 x2 x3 x4 x5 x6 x7) = fW y x1 x2 x3 x4 x5 x6 x7 := rfl
theorem fW_get_long (x0 x1 x2 x3 x4 x5 x6 x7 : V) : (fW x0 x1 x2 x3 x4 x5 x6 x7).lookup ("long" : Str) = some x1 := rfl
theorem fW_put_long (x0 x1 x2 x3 x4 x5 x6 x7 y : V) : putF "long" y (fW x0 x1 x2 x3 x4 x5 x6 x7) = fW x0 y x2 x3 x4 x5 x6 x7 := rfl
theorem fW_get_span (x0 x1 x2 x3 x4 x5 x6 x7 : V) : (fW x0 x1 x2 x3 x4 x5 x6 x7).lookup ("span" : Str) = some x2 := rfl
theorem fW_put_span (x0 x1 x2 x3 x4 x5 x6 x7 y : V) : putF "span" y (fW x0 x1 x2 x3 x4 x5 x6 x7) = fW x0 x1 y x3 x4 x5 x6 x7 := rfl
theorem fW_get_weights (x0 x1 x2 x3 x4 x5 x6 x7 : V) : (fW x0 x1 x2 x3 x4 x5 x6 x7).lookup ("weights" : Str) = some x3 := rfl
theorem fW_put_weights (x0 x1 x2 x3 x4 x5 x6 x7 y : V) : putF "weights" y (fW x0 x1 x2 x3 x4 x5 x6 x7) = fW x0 x1 x2 y x4 x5 x6 x7 := rfl
theorem fW_get_true_time (x0 x1 x2 x3 x4 x5 x6 x7 : V) : (fW x0 x1 x2 x3 x4 x5 x6 x7).lookup ("true_time" : Str) = some x4 := rfl
theorem fW_put_true_time (x0 x1 x2 x3 x4 x5 x6 x7 y : V) : putF "true_time" y (fW x0 x1 x2 x3 x4 x5 x6 x7) = fW x0 x1 x2 x3 y x5 x6 x7 := rfl
theorem fW_get_nodes (x0 x1 x2 x3 x4 x5 x6 x7 : V) : (fW x0 x1 x2 x3 x4 x5 x6 x7).lookup ("nodes" : Str) = some x5 := rfl
theorem fW_put_nodes (x0 x1 x2 x3 x4 x5 x6 x7 y : V) : putF "nodes" y (fW x0 x1 x2 x3 x4 x5 x6 x7) = fW x0 x1 x2 x3 x4 y x6 x7 := rfl
theorem fW_get_row (x0 x1 x2 x3 x4 x5 x6 x7 : V) : (fW x0 x1 x2 x3 x4 x5 x6 x7).lookup ("row" : Str) = some x6 := rfl
theorem fW_put_row (x0 x1 x2 x3 x4 x5 x6 x7 y : V) : putF "row" y (fW x0 x1 x2 x3 x4 x5 x6 x7) = fW x0 x1 x2 x3 x4 x5 y x7 := rfl
theorem fW_get_led (x0 x1 x2 x3 x4 x5 x6 x7 : V) : (fW x0 x1 x2 x3 x4 x5 x6 x7).lookup ("led" : Str) = some x7 := rfl
theorem fW_put_led (x0 x1 x2 x3 x4 x5 x6 x7 y : V) : putF "led" y (fW x0 x1 x2 x3 x4 x5 x6 x7) = fW x0 x1 x2 x3 x4 x5 x6 y := rfl
theorem fW_new (x0 x1 x2 x3 x4 x5 x6 x7 : V) : putF "led" x7 (putF "row" x6 (putF "nodes" x5 (putF "true_time" x4 (putF "weights" x3 (putF "span" x2 (putF "long" x1 (putF "wrong" x0 ([])))))))) = fW x0 x1 x2 x3 x4 x5 x6 x7 := rfl
/-! ### what the top has written -/
structure Cs where
  CP : Addr
  CL : Addr
  CN : Addr
  CW : Addr
  a_NO_PROMISE : Addr
  a_PLAIN_NUMBERS : Addr
structure Txt (K : PySem.W.Frag) (mg : Str → Option Value) (c : Cs) : Prop where
  cP : Cls K c.CP
  noP : ∀ f ∈ fldsP, NoAttr K c.CP f
  cL : Cls K c.CL
  noL : ∀ f ∈ fldsL, NoAttr K c.CL f
  cN : Cls K c.CN
  noN : ∀ f ∈ fldsN, NoAttr K c.CN f
  cW : Cls K c.CW
  noW : ∀ f ∈ fldsW, NoAttr K c.CW f
  g_NOBODY : ∃ t, mg "NOBODY" = some (.int (-1) t)
  g_FOLLOWS : ∃ t, mg "FOLLOWS" = some (.int (0) t)
  g_LEADS : ∃ t, mg "LEADS" = some (.int (2) t)
  g_ROOM : ∃ t, mg "ROOM" = some (.int (100) t)
  g_WOULD_YOU : ∃ t, mg "WOULD_YOU" = some (.int (0) t)
  g_NOT_MOST_YET : ∃ t, mg "NOT_MOST_YET" = some (.int (2) t)
  g_ASKS : ∃ t, mg "ASKS" = some (.int (1) t)
  g_ASKS_NOW : ∃ t, mg "ASKS_NOW" = some (.int (3) t)
  g_VOTE : ∃ t, mg "VOTE" = some (.int (2) t)
  g_LEADS_NOW : ∃ t, mg "LEADS_NOW" = some (.int (4) t)
  g_PROMISE : ∃ t, mg "PROMISE" = some (.int (4) t)
  g_FREE : ∃ t, mg "FREE" = some (.int (6) t)
  g_NO_USE : ∃ t, mg "NO_USE" = some (.int (0) t)
  g_WOULD : ∃ t, mg "WOULD" = some (.int (1) t)
  g_VOTED : ∃ t, mg "VOTED" = some (.int (3) t)
  g_PROMISED : ∃ t, mg "PROMISED" = some (.int (5) t)
  g_ANSWERED : ∃ t, mg "ANSWERED" = some (.int (1) t)
  g_COUNTED : ∃ t, mg "COUNTED" = some (.int (2) t)
  g_HEARD_OF_TERM : ∃ t, mg "HEARD_OF_TERM" = some (.int (6) t)
  g_HOLDS_LATER : ∃ t, mg "HOLDS_LATER" = some (.int (5) t)
  g_PROMISE_GONE : ∃ t, mg "PROMISE_GONE" = some (.int (7) t)
  g_NO_WISH : ∃ t, mg "NO_WISH" = some (.int (-1) t)
  g_NO_PROMISE : mg "NO_PROMISE" = some (.ref c.a_NO_PROMISE)
  v_NO_PROMISE : ∀ H : Hp, SqT K H c.a_NO_PROMISE ([-1, -1, -1].map V.int)
  g_BEGIN : ∃ t, mg "BEGIN" = some (.int (0) t)
  g_DONE : ∃ t, mg "DONE" = some (.int (0) t)
  g_WRONG : ∃ t, mg "WRONG" = some (.int (-1) t)
  g_NO_WORLD : ∃ t, mg "NO_WORLD" = some (.int (-9) t)
  g_PLAIN_NUMBERS : mg "PLAIN_NUMBERS" = some (.ref c.a_PLAIN_NUMBERS)
  v_PLAIN_NUMBERS : ∀ H : Hp, SqT K H c.a_PLAIN_NUMBERS ([2, 1, 1, 1, 2, 2, 1, 1, 1, 1, 1, 0, 1, 0, 0].map V.int)
  g_ELAPSE : ∃ t, mg "ELAPSE" = some (.int (1) t)
  g_LETTERS : ∃ t, mg "LETTERS" = some (.int (11) t)
  g_NODE : ∃ t, mg "NODE" = some (.int (12) t)
  g_HOLDS : ∃ t, mg "HOLDS" = some (.int (13) t)
  g_WISH : ∃ t, mg "WISH" = some (.int (2) t)
  g_RENEW : ∃ t, mg "RENEW" = some (.int (3) t)
  g_LEAVE : ∃ t, mg "LEAVE" = some (.int (4) t)
  g_RANK : ∃ t, mg "RANK" = some (.int (5) t)
  g_TAKE : ∃ t, mg "TAKE" = some (.int (6) t)
  g_KEEP : ∃ t, mg "KEEP" = some (.int (7) t)
  g_LOSE : ∃ t, mg "LOSE" = some (.int (8) t)
  g_STOP : ∃ t, mg "STOP" = some (.int (9) t)
  g_STOPPED : ∃ t, mg "STOPPED" = some (.int (-3) t)
  g_UNFIT : ∃ t, mg "UNFIT" = some (.int (-2) t)
  b_sum : mg "sum" = none
  b_len : mg "len" = none
  b_range : mg "range" = none
  b_max : mg "max" = none
  b_list : mg "list" = none
  b_enumerate : mg "enumerate" = none
  b_zip : mg "zip" = none
  b_all : mg "all" = none
/-! ### calls -/
structure Ok (P : Program) (w : World) (K : PySem.W.Frag) (mg : Str → Option Value) (base : Heap) (x : Str) (k : Nat) (ps : List Str) (sp : Sp) : Prop where
  ex : ∃ (f : Addr) (fd : FuncData), FnOk P w K mg base CX0 k f fd ps sp ∧ mg x = some (.ref f) ∧ PySem.W.keepIn K (.ref f) = true ∧ Binds K fd ps []
structure MkOk (P : Program) (w : World) (K : PySem.W.Frag) (mg : Str → Option Value) (base : Heap) (x : Str) (C : Addr) (k : Nat) (ps : List Str) (sp : Sp) : Prop where
  ex : ∃ (f : Addr) (fd : FuncData), Mk K C f ∧ FnOk P w K mg base CX0 k f fd ps sp ∧ Binds K fd ps []
  gl : mg x = some (.ref C)
section
variable {X : Cx} {j k : Nat} {C : Addr} {ps : List Str} {sp : Sp} {x : Str} {p pos : Pos} {e : Expr} {es : List Expr} {t : TA}
theorem pe_gint {n : Int} (hg : Gl X x) (h : ∃ t, X.mg x = some (.int n t)) (hd : (x == ("__debug__" : Str)) = false := by decide) : PE X (.Name x pos) (tC (.int n)) := by
  obtain ⟨t, h⟩ := h
  exact pe_glob hg h ⟨_, rfl⟩ hd
theorem pe_ok (O : Ok X.prog X.w X.K X.mg X.base x k ps sp) (hr : Room j X.A) (hj : k ≤ j) (hg : Gl X x)
    (ha : PA X (e :: es) t) (hdb : (x == ("__debug__" : Str)) = false := by decide) (he : starEach (e :: es) X.env = (false, eval e X.env) :: starEach es X.env := by rfl) (hpl : (backTo pos (starEach es X.env)).any (·.1) = false := by rfl) :
    PE X (.Call (.Name x p) (e :: es) [] pos) (tCall sp [] E0 t) := by
  obtain ⟨f, fd, F, hm, hk, hb⟩ := O.ex
  exact pe_call F (hr.mono hj) hg hm hk hb .nil pass0 ha hdb he hpl
theorem pe_ok0 (O : Ok X.prog X.w X.K X.mg X.base x k ps sp) (hr : Room j X.A) (hj : k ≤ j) (hg : Gl X x) (hdb : (x == ("__debug__" : Str)) = false := by decide) :
    PE X (.Call (.Name x p) [] [] pos) (tCall sp [] E0 tNil) := by
  obtain ⟨f, fd, F, hm, hk, hb⟩ := O.ex
  exact pe_call0 F (hr.mono hj) hg hm hk hb .nil pass0 hdb
theorem pe_mk (M : MkOk X.prog X.w X.K X.mg X.base x C k ps sp) (hr : Room j X.A) (hj : k + 1 ≤ j) (hg : Gl X x)
    (ha : PA X (e :: es) t) (hdb : (x == ("__debug__" : Str)) = false := by decide) (he : starEach (e :: es) X.env = (false, eval e X.env) :: starEach es X.env := by rfl) (hpl : (backTo pos (starEach es X.env)).any (·.1) = false := by rfl) :
    PE X (.Call (.Name x p) (e :: es) [] pos) (tMake C sp [] E0 t) := by
  obtain ⟨f, fd, M', F, hb⟩ := M.ex
  exact pe_make M' F (hr.mono hj) hg M.gl hb .nil pass0 ha hdb he hpl
theorem pe_mk0 (M : MkOk X.prog X.w X.K X.mg X.base x C k ps sp) (hr : Room j X.A) (hj : k + 1 ≤ j) (hg : Gl X x) (hdb : (x == ("__debug__" : Str)) = false := by decide) :
    PE X (.Call (.Name x p) [] [] pos) (tMake C sp [] E0 tNil) := by
  obtain ⟨f, fd, M', F, hb⟩ := M.ex
  exact pe_make0 M' F (hr.mono hj) hg M.gl hb .nil pass0 hdb
end
end Hfs
namespace Hfs
open PySem PySem.Spec PyProof.Rows L2
/-! ### owners of what may change; what stands as it was -/
abbrev vn (k : Nat) : V := .int (k : Int)
def vOpt : Option Nat → V
  | none => .int (-1)
  | some v => vn v
inductive Tag where
  | free
  | top
  | wd
  | row
  | nds
  | ld
  | nd (i : Nat)
  | wo (i : Nat)
  | vo (i : Nat)
  | gi (i : Nat)
abbrev Lab := Addr → Tag
def Tag.own (i : Nat) : Tag → Prop
  | .nd j => j = i
  | .wo j => j = i
  | .vo j => j = i
  | .gi j => j = i
  | _ => False
def Tag.any : Tag → Prop
  | .free => False
  | .top => False
  | .nds => False
  | _ => True
def Tag.all : Tag → Prop
  | .free => False
  | .top => False
  | _ => True
theorem any_all (t : Tag) (h : t.any) : t.all := by
  cases t <;> first | trivial | exact h.elim
structure Keep (S : Tag → Prop) (lab : Lab) (H : Hp) (lab' : Lab) (H' : Hp) : Prop where
  lb : ∀ b o, H b = some o → lab' b = lab b
  kp : ∀ b o, H b = some o → ¬ S (lab b) → H' b = some o
  al : ∀ b o, H b = some o → ∃ o', H' b = some o'
theorem Keep.refl {S : Tag → Prop} {lab : Lab} {H : Hp} : Keep S lab H lab H := ⟨fun _ _ _ => rfl, fun _ _ h _ => h, fun _ o h => ⟨o, h⟩⟩
theorem Keep.trans {S : Tag → Prop} {lab lab1 lab2 : Lab} {H H1 H2 : Hp} (a : Keep S lab H lab1 H1) (b : Keep S lab1 H1 lab2 H2) : Keep S lab H lab2 H2 := by
  refine ⟨fun x o h => ?_, fun x o h hs => ?_, fun x o h => ?_⟩
  · obtain ⟨o', h'⟩ := a.al x o h
    exact (b.lb x o' h').trans (a.lb x o h)
  · have h1 := a.kp x o h hs
    exact b.kp x o h1 (by rw [a.lb x o h]; exact hs)
  · obtain ⟨o', h'⟩ := a.al x o h
    exact b.al x o' h'
theorem Keep.mono {S S' : Tag → Prop} {lab lab1 : Lab} {H H1 : Hp} (a : Keep S lab H lab1 H1) (h : ∀ t, S t → S' t) : Keep S' lab H lab1 H1 :=
  ⟨a.lb, fun b o e hs => a.kp b o e fun q => hs (h _ q), a.al⟩
theorem own_any {i : Nat} (t : Tag) (h : t.own i) : t.any := by
  cases t <;> first | trivial | exact h.elim
theorem Keep.all {lab lab1 : Lab} {H H1 : Hp} (a : Keep Tag.any lab H lab1 H1) : Keep Tag.all lab H lab1 H1 := a.mono any_all
theorem Keep.any {i : Nat} {lab lab1 : Lab} {H H1 : Hp} (a : Keep (Tag.own i) lab H lab1 H1) : Keep Tag.any lab H lab1 H1 := a.mono own_any
theorem Keep.ofSame {S : Tag → Prop} {lab : Lab} {H H' : Hp} (h : Same H H') : Keep S lab H lab H' := ⟨fun _ _ _ => rfl, fun b o e _ => h b o e, fun b o e => ⟨o, h b o e⟩⟩
/-- all but p as it was -/
def Pres (p : Addr) (H H' : Hp) : Prop := ∀ b o, H b = some o → b ≠ p → H' b = some o
theorem Pres.refl {p : Addr} {H : Hp} : Pres p H H := fun _ _ h _ => h
theorem Pres.trans {p : Addr} {H H1 H2 : Hp} (a : Pres p H H1) (b : Pres p H1 H2) : Pres p H H2 := fun x o h n => b x o (a x o h n) n
theorem Pres.same {p : Addr} {H H1 : Hp} (a : Same H H1) : Pres p H H1 := fun x o h _ => a x o h
theorem Pres.upd {p : Addr} {H : Hp} {o : HO} : Pres p H (upd H p o) := fun b o' h n => by rw [upd_ne n]; exact h
theorem Same.alloc {H : Hp} {q : Addr} {o : HO} (h : H q = none) : Same H (upd H q o) := fun b o' e => by
  rw [upd_ne (ne_of_none e h)]
  exact e
/-- one object changed: its label is in S -/
theorem Keep.pres {S : Tag → Prop} {lab : Lab} {H H' : Hp} {p : Addr} (u : Pres p H H') (hs : S (lab p)) (hp : ∃ o, H' p = some o) : Keep S lab H lab H' := by
  refine ⟨fun _ _ _ => rfl, fun b o h n => u b o h fun q => n (by rw [q]; exact hs), fun b o h => ?_⟩
  by_cases q : b = p
  · rw [q]
    exact hp
  · exact ⟨o, u b o h q⟩
def relab (lab : Lab) (q : Addr) (t : Tag) : Lab := fun b => if b = q then t else lab b
theorem relab_same {lab : Lab} {q : Addr} {t : Tag} : relab lab q t q = t := if_pos rfl
theorem relab_ne {lab : Lab} {q b : Addr} {t : Tag} (h : b ≠ q) : relab lab q t b = lab b := if_neg h
theorem Keep.relab {S : Tag → Prop} {lab : Lab} {H : Hp} {q : Addr} {t : Tag} (h : H q = none) : Keep S lab H (relab lab q t) H :=
  ⟨fun b o e => relab_ne (ne_of_none e h), fun b o e _ => e, fun b o e => ⟨o, e⟩⟩
/-! ### a node, a letter, a world in the heap -/
variable (c : Cs)
def PromV (lab : Lab) (H : Hp) (v : V) : Option Ag03.Promise → Prop
  | none => v = .non
  | some q => ∃ a dx, v = .ref a ∧ lab a = .free ∧ H a = some (.ins c.CP dx (fP (vn q.to_) (vn q.term) (vn q.until_)))
def WoV (lab : Lab) (H : Hp) (i : Nat) (v : V) : Option (List Nat) → Prop
  | none => v = .non
  | some l => ∃ a, v = .ref a ∧ lab a = .wo i ∧ H a = some (.lst (l.map vn))
abbrev nodeF (n : Ag03.Node) (pv wv : V) (va ga : Addr) : List (Str × V) :=
  fN (.bl n.up) (vn n.clock) (vn n.term) (vOpt n.voted) (vn n.rank) (vn n.role) pv (vn n.still) wv (.ref va) (vn n.round) (vn n.sent) (.ref ga) (vn n.holds)
structure NodeAt (lab : Lab) (H : Hp) (i : Nat) (p : Addr) (n : Ag03.Node) : Prop where
  lb : lab p = .nd i
  ex : ∃ dx pv wv va ga, H p = some (.ins c.CN dx (nodeF n pv wv va ga)) ∧ PromV c lab H pv n.promise ∧ WoV lab H i wv n.would ∧
    (lab va = .vo i ∧ H va = some (.lst (n.votes.map vn))) ∧ (lab ga = .gi i ∧ H ga = some (.lst (n.given.map vn)))
def LetAt (lab : Lab) (H : Hp) (a : Addr) (x : Ag03.Letter) : Prop :=
  ∃ dx, lab a = .free ∧ H a = some (.ins c.CL dx (fL (vn x.kind) (vn x.to_) (vn x.from_) (vn x.term) (vn x.num) (.bl x.yes)))
structure Lets (lab : Lab) (H : Hp) (ls : List Addr) (l : List Ag03.Letter) : Prop where
  len : ls.length = l.length
  at_ : ∀ (k : Nat) (a : Addr) (x : Ag03.Letter), ls[k]? = some a → l[k]? = some x → LetAt c lab H a x
def LedAt (lab : Lab) (H : Hp) (a : Addr) (x : Nat × Nat) : Prop := lab a = .free ∧ H a = some (.tup [vn x.1, vn x.2])
structure Leds (lab : Lab) (H : Hp) (ts : List Addr) (l : List (Nat × Nat)) : Prop where
  len : ts.length = l.length
  at_ : ∀ (k : Nat) (a : Addr) (x : Nat × Nat), ts[k]? = some a → l[k]? = some x → LedAt lab H a x
abbrev worldF (s : Ag03.State) (wl nl rl ll : Addr) : List (Str × V) :=
  fW (vn s.wrong) (vn s.long) (vn (Ag03.span s)) (.ref wl) (vn s.now) (.ref nl) (.ref rl) (.ref ll)
structure WorldAt (lab : Lab) (H : Hp) (w : Addr) (ns : List Addr) (s : Ag03.State) (dw wl nl rl : Addr) (ls : List Addr) (ll : Addr) (ts : List Addr) : Prop where
  ob : H w = some (.ins c.CW dw (worldF s wl nl rl ll))
  lw : lab w = .wd
  lwl : lab wl = .free
  wl : H wl = some (.lst (s.weights.map vn))
  lnl : lab nl = .nds
  nl : H nl = some (.lst (ns.map V.ref))
  lrl : lab rl = .row
  rl : H rl = some (.lst (ls.map V.ref))
  lets : Lets c lab H ls s.letters
  lll : lab ll = .ld
  ll : H ll = some (.lst (ts.map V.ref))
  leds : Leds lab H ts s.led
structure Rep (lab : Lab) (H : Hp) (w : Addr) (ns : List Addr) (s : Ag03.State) : Prop where
  inv : WInv s
  len : ns.length = s.nodes.length
  wd : ∃ dw wl nl rl ls ll ts, WorldAt c lab H w ns s dw wl nl rl ls ll ts
  nd : ∀ (i : Nat) (p : Addr), ns[i]? = some p → NodeAt c lab H i p (Ag03.node s i)
variable {c}
section
variable {S : Tag → Prop} {lab lab' : Lab} {H H' : Hp}
theorem PromV.keep (k : Keep S lab H lab' H') (hs : ¬ S .free) {v : V} {o : Option Ag03.Promise} (h : PromV c lab H v o) : PromV c lab' H' v o := by
  cases o with
  | none => exact h
  | some q =>
    obtain ⟨a, dx, e, l, h⟩ := h
    exact ⟨a, dx, e, (k.lb _ _ h).trans l, k.kp _ _ h (by rw [l]; exact hs)⟩
theorem WoV.keep (k : Keep S lab H lab' H') {i : Nat} (hs : ¬ S (.wo i)) {v : V} {o : Option (List Nat)} (h : WoV lab H i v o) : WoV lab' H' i v o := by
  cases o with
  | none => exact h
  | some q =>
    obtain ⟨a, e, l, h⟩ := h
    exact ⟨a, e, (k.lb _ _ h).trans l, k.kp _ _ h (by rw [l]; exact hs)⟩
theorem NodeAt.keep (k : Keep S lab H lab' H') {i : Nat} {p : Addr} {n : Ag03.Node} (h0 : ¬ S .free) (h1 : ¬ S (.nd i)) (h2 : ¬ S (.wo i)) (h3 : ¬ S (.vo i)) (h4 : ¬ S (.gi i)) (N : NodeAt c lab H i p n) : NodeAt c lab' H' i p n := by
  obtain ⟨l, dx, pv, wv, va, ga, a1, a2, a3, ⟨a4, a5⟩, a6, a7⟩ := N
  exact ⟨(k.lb _ _ a1).trans l, dx, pv, wv, va, ga, k.kp _ _ a1 (by rw [l]; exact h1), a2.keep k h0, a3.keep k h2, ⟨(k.lb _ _ a5).trans a4, k.kp _ _ a5 (by rw [a4]; exact h3)⟩, (k.lb _ _ a7).trans a6, k.kp _ _ a7 (by rw [a6]; exact h4)⟩
theorem LetAt.keep (k : Keep S lab H lab' H') (hs : ¬ S .free) {a : Addr} {x : Ag03.Letter} (h : LetAt c lab H a x) : LetAt c lab' H' a x := by
  obtain ⟨dx, l, h⟩ := h
  exact ⟨dx, (k.lb _ _ h).trans l, k.kp _ _ h (by rw [l]; exact hs)⟩
theorem Lets.keep (k : Keep S lab H lab' H') (hs : ¬ S .free) {ls : List Addr} {l : List Ag03.Letter} (h : Lets c lab H ls l) : Lets c lab' H' ls l :=
  ⟨h.len, fun i a x e1 e2 => (h.at_ i a x e1 e2).keep k hs⟩
theorem Leds.keep (k : Keep S lab H lab' H') (hs : ¬ S .free) {ts : List Addr} {l : List (Nat × Nat)} (h : Leds lab H ts l) : Leds lab' H' ts l :=
  ⟨h.len, fun i a x e1 e2 => have q := h.at_ i a x e1 e2; ⟨(k.lb _ _ q.2).trans q.1, k.kp _ _ q.2 (by rw [q.1]; exact hs)⟩⟩
theorem WorldAt.keep {w : Addr} {ns : List Addr} {s : Ag03.State} {dw wl nl rl : Addr} {ls : List Addr} {ll : Addr} {ts : List Addr} (k : Keep S lab H lab' H') (h0 : ¬ S .free) (h1 : ¬ S .wd) (h2 : ¬ S .nds) (h3 : ¬ S .row) (h4 : ¬ S .ld) (W : WorldAt c lab H w ns s dw wl nl rl ls ll ts) : WorldAt c lab' H' w ns s dw wl nl rl ls ll ts :=
  ⟨k.kp _ _ W.ob (by rw [W.lw]; exact h1), (k.lb _ _ W.ob).trans W.lw, (k.lb _ _ W.wl).trans W.lwl, k.kp _ _ W.wl (by rw [W.lwl]; exact h0), (k.lb _ _ W.nl).trans W.lnl, k.kp _ _ W.nl (by rw [W.lnl]; exact h2), (k.lb _ _ W.rl).trans W.lrl, k.kp _ _ W.rl (by rw [W.lrl]; exact h3), W.lets.keep k h0, (k.lb _ _ W.ll).trans W.lll, k.kp _ _ W.ll (by rw [W.lll]; exact h4), W.leds.keep k h0⟩
theorem Rep.lt {w : Addr} {ns : List Addr} {s : Ag03.State} (R : Rep c lab H w ns s) {i : Nat} {p : Addr} (h : ns[i]? = some p) : i < s.nodes.length := by
  rw [← R.len]
  exact (List.getElem?_eq_some_iff.mp h).1
theorem Rep.at_ {w : Addr} {ns : List Addr} {s : Ag03.State} (R : Rep c lab H w ns s) {i : Nat} (h : i < s.nodes.length) : ∃ p, ns[i]? = some p := by
  rw [← R.len] at h
  exact ⟨_, List.getElem?_eq_getElem h⟩
/-- a node changed, with the lists that it owns -/
theorem Rep.close {w : Addr} {ns : List Addr} {s : Ag03.State} (R : Rep c lab H w ns s) {i : Nat} {p : Addr} {n : Ag03.Node} (hp : ns[i]? = some p) (k : Keep (Tag.own i) lab H lab' H') (N : NodeAt c lab' H' i p n) (ok : NodeOk s.nodes.length n) : Rep c lab' H' w ns (Ag03.setNode s i n) := by
  obtain ⟨dw, wl, nl, rl, ls, ll, ts, W⟩ := R.wd
  have hi := R.lt hp
  refine ⟨R.inv.gset ok, by rw [set_len]; exact R.len, ⟨dw, wl, nl, rl, ls, ll, ts, ?_⟩, fun j q hq => ?_⟩
  · obtain ⟨w1, w2, w3, w4, w5, w6, w7, w8, w9, w10, w11, w12⟩ := W.keep k id id id id id
    exact ⟨w1, w2, w3, w4, w5, w6, w7, w8, w9, w10, w11, w12⟩
  · by_cases e : j = i
    · subst e
      have : q = p := Option.some.inj (hq.symm.trans hp)
      subst this
      rw [node_set hi]
      exact N
    · have e2 : Ag03.node (Ag03.setNode s i n) j = Ag03.node s j := by
        unfold Ag03.node Ag03.setNode
        dsimp only
        rw [List.getD_eq_getElem?_getD, List.getElem?_set_ne (fun q => e q.symm), ← List.getD_eq_getElem?_getD]
      rw [e2]
      exact (R.nd j q hq).keep k id e e e e
/-- the row changed -/
theorem Rep.rowed {w : Addr} {ns : List Addr} {s : Ag03.State} (R : Rep c lab H w ns s) {dw wl nl rl : Addr} {ls ls' : List Addr} {ll : Addr} {ts : List Addr} {l : List Ag03.Letter} (W : WorldAt c lab H w ns s dw wl nl rl ls ll ts) (k : Keep (fun t => t = .row) lab H lab H') (hr : H' rl = some (.lst (ls'.map V.ref))) (hl : Lets c lab H' ls' l) (I : WInv { s with letters := l }) : Rep c lab H' w ns { s with letters := l } := by
  refine ⟨I, R.len, ⟨dw, wl, nl, rl, ls', ll, ts, ?_⟩, fun j q hq => ?_⟩
  · exact ⟨k.kp _ _ W.ob (by rw [W.lw]; exact fun q => nomatch q), W.lw, W.lwl, k.kp _ _ W.wl (by rw [W.lwl]; exact fun q => nomatch q), W.lnl, k.kp _ _ W.nl (by rw [W.lnl]; exact fun q => nomatch q), W.lrl, hr, hl, W.lll, k.kp _ _ W.ll (by rw [W.lll]; exact fun q => nomatch q), W.leds.keep k (fun q => nomatch q)⟩
  · exact (R.nd j q hq).keep k (fun q => nomatch q) (fun q => nomatch q) (fun q => nomatch q) (fun q => nomatch q) (fun q => nomatch q)
/-- who led changed -/
theorem Rep.leded {w : Addr} {ns : List Addr} {s : Ag03.State} (R : Rep c lab H w ns s) {dw wl nl rl : Addr} {ls : List Addr} {ll : Addr} {ts ts' : List Addr} {l : List (Nat × Nat)} (W : WorldAt c lab H w ns s dw wl nl rl ls ll ts) (k : Keep (fun t => t = .ld) lab H lab H') (hr : H' ll = some (.lst (ts'.map V.ref))) (hl : Leds lab H' ts' l) : Rep c lab H' w ns { s with led := l } := by
  refine ⟨R.inv.gled l, R.len, ⟨dw, wl, nl, rl, ls, ll, ts', ?_⟩, fun j q hq => ?_⟩
  · exact ⟨k.kp _ _ W.ob (by rw [W.lw]; exact fun q => nomatch q), W.lw, W.lwl, k.kp _ _ W.wl (by rw [W.lwl]; exact fun q => nomatch q), W.lnl, k.kp _ _ W.nl (by rw [W.lnl]; exact fun q => nomatch q), W.lrl, k.kp _ _ W.rl (by rw [W.lrl]; exact fun q => nomatch q), W.lets.keep k (fun q => nomatch q), W.lll, hr, hl⟩
  · exact (R.nd j q hq).keep k (fun q => nomatch q) (fun q => nomatch q) (fun q => nomatch q) (fun q => nomatch q) (fun q => nomatch q)
/-- a node that began anew, in its place -/
theorem Rep.anew {w : Addr} {ns : List Addr} {s : Ag03.State} {i : Nat} {p : Addr} {n : Ag03.Node} (R : Rep c lab H w ns s) {dw wl nl rl : Addr} {ls : List Addr} {ll : Addr} {ts : List Addr} (W : WorldAt c lab H w ns s dw wl nl rl ls ll ts) (hi : i < s.nodes.length) (k : Keep (fun t => t = .nds) lab H lab H') (hr : H' nl = some (.lst ((ns.set i p).map V.ref))) (N : NodeAt c lab H' i p n) (ok : NodeOk s.nodes.length n) : Rep c lab H' w (ns.set i p) (Ag03.setNode s i n) := by
  refine ⟨R.inv.gset ok, by rw [set_len, List.length_set]; exact R.len, ⟨dw, wl, nl, rl, ls, ll, ts, ?_⟩, fun j q hq => ?_⟩
  · exact ⟨k.kp _ _ W.ob (by rw [W.lw]; exact fun q => nomatch q), W.lw, W.lwl, k.kp _ _ W.wl (by rw [W.lwl]; exact fun q => nomatch q), W.lnl, hr, W.lrl, k.kp _ _ W.rl (by rw [W.lrl]; exact fun q => nomatch q), W.lets.keep k (fun q => nomatch q), W.lll, k.kp _ _ W.ll (by rw [W.lll]; exact fun q => nomatch q), W.leds.keep k (fun q => nomatch q)⟩
  · by_cases e : j = i
    · subst e
      rw [List.getElem?_set_self (by rw [R.len]; exact hi)] at hq
      cases hq
      rw [node_set hi]
      exact N
    · rw [List.getElem?_set_ne (fun q => e q.symm)] at hq
      have e2 : Ag03.node (Ag03.setNode s i n) j = Ag03.node s j := by
        unfold Ag03.node Ag03.setNode
        dsimp only
        rw [List.getD_eq_getElem?_getD, List.getElem?_set_ne (fun q => e q.symm), ← List.getD_eq_getElem?_getD]
      rw [e2]
      exact (R.nd j q hq).keep k (fun q => nomatch q) (fun q => nomatch q) (fun q => nomatch q) (fun q => nomatch q) (fun q => nomatch q)
/-- what bears no owner's label changed, or something new -/
theorem Rep.keep {w : Addr} {ns : List Addr} {s : Ag03.State} (R : Rep c lab H w ns s) (k : Keep (fun t => t = .top) lab H lab' H') : Rep c lab' H' w ns s := by
  obtain ⟨dw, wl, nl, rl, ls, ll, ts, W⟩ := R.wd
  have f : ¬ (Tag.free = Tag.top) := fun q => nomatch q
  refine ⟨R.inv, R.len, ⟨dw, wl, nl, rl, ls, ll, ts, W.keep k f (fun q => nomatch q) (fun q => nomatch q) (fun q => nomatch q) (fun q => nomatch q)⟩, fun j q hq => ?_⟩
  · exact (R.nd j q hq).keep k f (fun q => nomatch q) (fun q => nomatch q) (fun q => nomatch q) (fun q => nomatch q)
theorem Rep.same {w : Addr} {ns : List Addr} {s : Ag03.State} (R : Rep c lab H w ns s) (k : Same H H') : Rep c lab H' w ns s := R.keep (.ofSame k)
/-! ### a node shut again after its fields and lists were changed -/
def LstN (lab : Lab) (H H' : Hp) (t : Tag) (a : Addr) (l : List Nat) : Prop := (H a = none ∨ lab a = t) ∧ H' a = some (.lst (l.map vn))
def PromN (c : Cs) (lab : Lab) (H H' : Hp) (v : V) : Option Ag03.Promise → Prop
  | none => v = .non
  | some q => ∃ a dx, v = .ref a ∧ (H a = none ∨ lab a = .free) ∧ H' a = some (.ins c.CP dx (fP (vn q.to_) (vn q.term) (vn q.until_)))
def WoN (lab : Lab) (H H' : Hp) (i : Nat) (v : V) : Option (List Nat) → Prop
  | none => v = .non
  | some l => ∃ a, v = .ref a ∧ LstN lab H H' (.wo i) a l
theorem Pres.free {p q : Addr} {H G : Hp} (u : Pres p H G) (h : G q = none) (n : q ≠ p) : H q = none := by
  cases e : H q with
  | none => rfl
  | some o =>
    rw [u _ _ e n] at h
    cases h
theorem LstN.old {t : Tag} {a p : Addr} {l : List Nat} (la : lab a = t) (h : H a = some (.lst (l.map vn))) (u : Pres p H H') (lp : lab p ≠ t) : LstN lab H H' t a l :=
  ⟨.inr la, u _ _ h fun q => lp (by rw [← q]; exact la)⟩
theorem PromN.old {p : Addr} {v : V} {o : Option Ag03.Promise} (h : PromV c lab H v o) (u : Pres p H H') (lp : lab p ≠ .free) : PromN c lab H H' v o := by
  cases o with
  | none => exact h
  | some q =>
    obtain ⟨a, dx, e, la, h⟩ := h
    exact ⟨a, dx, e, .inr la, u _ _ h fun q => lp (by rw [← q]; exact la)⟩
theorem WoN.old {p : Addr} {i : Nat} {v : V} {o : Option (List Nat)} (h : WoV lab H i v o) (u : Pres p H H') (lp : lab p ≠ .wo i) : WoN lab H H' i v o := by
  cases o with
  | none => exact h
  | some l =>
    obtain ⟨a, e, la, h⟩ := h
    exact ⟨a, e, .old la h u lp⟩
theorem Rep.shut {w : Addr} {ns : List Addr} {s : Ag03.State} {i : Nat} {p dx : Addr} {n : Ag03.Node} {pr wv : V} {va ga : Addr} {G : Prop} (R : Rep c lab H w ns s) (hp : ns[i]? = some p) (u : Pres p H H') (hN : H' p = some (.ins c.CN dx (nodeF n pr wv va ga)))
    (hP : PromN c lab H H' pr n.promise) (hW : WoN lab H H' i wv n.would) (hV : LstN lab H H' (.vo i) va n.votes) (hG : LstN lab H H' (.gi i) ga n.given) (d1 : va ≠ ga) (d2 : wv ≠ .ref va) (d3 : wv ≠ .ref ga) (ok : NodeOk s.nodes.length n)
    (k : ∀ lab', Rep c lab' H' w ns (Ag03.setNode s i n) → Keep Tag.any lab H lab' H' → G) : G := by
  have lp : lab p = .nd i := (R.nd i p hp).lb
  obtain ⟨_, dx0, pr0, wv0, va0, ga0, hN0, _⟩ := R.nd i p hp
  let lab' : Lab := fun b => if (H b).isSome = true then lab b else if b = va then .vo i else if b = ga then .gi i else if wv = .ref b then .wo i else .free
  have lo : ∀ b o, H b = some o → lab' b = lab b := fun b o h => by
    show (if (H b).isSome = true then lab b else _) = lab b
    rw [h]
    exact if_pos rfl
  have ln : ∀ b, H b = none → lab' b = if b = va then .vo i else if b = ga then .gi i else if wv = .ref b then .wo i else .free := fun b h => by
    show (if (H b).isSome = true then lab b else _) = _
    rw [h]
    exact if_neg (fun q => nomatch q)
  have both : ∀ (b : Addr) (t : Tag), (H b = none ∨ lab b = t) → (H b = none → lab' b = t) → lab' b = t := fun b t h1 h2 => by
    cases e : H b with
    | none => exact h2 e
    | some o =>
      rcases h1 with h1 | h1
      · rw [h1] at e
        cases e
      · exact (lo b o e).trans h1
  have K1 : Keep (Tag.own i) lab H lab' H' := by
    refine ⟨lo, fun b o h hs => u b o h fun q => hs (by rw [q, lp]; rfl), fun b o h => ?_⟩
    by_cases q : b = p
    · rw [q]
      exact ⟨_, hN⟩
    · exact ⟨o, u b o h q⟩
  refine k lab' (R.close hp K1 ⟨(lo _ _ hN0).trans lp, dx, pr, wv, va, ga, hN, ?_, ?_, ⟨both _ _ hV.1 fun e => ?_, hV.2⟩, both _ _ hG.1 fun e => ?_, hG.2⟩ ok) K1.any
  · cases eo : n.promise with
    | none => rw [eo] at hP; exact hP
    | some q =>
      rw [eo] at hP
      obtain ⟨a, dx', e1, e2, e3⟩ := hP
      refine ⟨a, dx', e1, both _ _ e2 fun e => ?_, e3⟩
      have x1 : a ≠ va := fun z => by rw [z, hV.2] at e3; cases e3
      have x2 : a ≠ ga := fun z => by rw [z, hG.2] at e3; cases e3
      have x3 : wv ≠ .ref a := fun z => by
        cases ew : n.would with
        | none => rw [ew] at hW; have hW : wv = .non := hW; rw [hW] at z; cases z
        | some l =>
          rw [ew] at hW
          obtain ⟨b, eb, hb⟩ := hW
          rw [eb] at z
          cases z
          rw [hb.2] at e3
          cases e3
      rw [ln a e, if_neg x1, if_neg x2, if_neg x3]
  · cases eo : n.would with
    | none => rw [eo] at hW; exact hW
    | some l =>
      rw [eo] at hW
      obtain ⟨b, eb, hb⟩ := hW
      refine ⟨b, eb, both _ _ hb.1 fun e => ?_, hb.2⟩
      have x1 : b ≠ va := fun z => d2 (by rw [eb, z])
      have x2 : b ≠ ga := fun z => d3 (by rw [eb, z])
      rw [ln b e, if_neg x1, if_neg x2, if_pos eb]
  · rw [ln va e, if_pos rfl]
  · rw [ln ga e, if_neg d1.symm, if_pos rfl]
/-- what the labels tell: a node's lists are not one -/
theorem NodeAt.apart {i : Nat} {p : Addr} {n : Ag03.Node} (N : NodeAt c lab H i p n) : ∃ dx pv wv va ga, H p = some (.ins c.CN dx (nodeF n pv wv va ga)) ∧ PromV c lab H pv n.promise ∧ WoV lab H i wv n.would ∧
    lab va = .vo i ∧ H va = some (.lst (n.votes.map vn)) ∧ lab ga = .gi i ∧ H ga = some (.lst (n.given.map vn)) ∧ va ≠ ga ∧ wv ≠ .ref va ∧ wv ≠ .ref ga := by
  obtain ⟨lb, dx, pv, wv, va, ga, a1, a2, a3, ⟨a4, a5⟩, a6, a7⟩ := N
  refine ⟨dx, pv, wv, va, ga, a1, a2, a3, a4, a5, a6, a7, fun e => ?_, fun e => ?_, fun e => ?_⟩
  · rw [e, a6] at a4; cases a4
  · cases ew : n.would with
    | none => rw [ew] at a3; have a3 : wv = .non := a3; rw [a3] at e; cases e
    | some l =>
      rw [ew] at a3
      obtain ⟨b, eb, lb', _⟩ := a3
      rw [eb] at e
      cases e
      rw [a4] at lb'
      cases lb'
  · cases ew : n.would with
    | none => rw [ew] at a3; have a3 : wv = .non := a3; rw [a3] at e; cases e
    | some l =>
      rw [ew] at a3
      obtain ⟨b, eb, lb', _⟩ := a3
      rw [eb] at e
      cases e
      rw [a6] at lb'
      cases lb'
theorem Keep.alloc {a : Addr} {t : Tag} (na : H a = none) (sa : Same H H') : Keep S lab H (Hfs.relab lab a t) H' := (Keep.relab na).trans (.ofSame sa)
theorem Rep.alloc {w : Addr} {ns : List Addr} {s : Ag03.State} {a : Addr} {t : Tag} (R : Rep c lab H w ns s) (na : H a = none) (sa : Same H H') : Rep c (Hfs.relab lab a t) H' w ns s := R.keep (.alloc na sa)
/-- a list that the node owns has grown -/
theorem Rep.grow {w : Addr} {ns : List Addr} {s : Ag03.State} {i : Nat} {p a dx : Addr} {n : Ag03.Node} {pr wv : V} {va ga : Addr} (R : Rep c lab H w ns s) (hp : ns[i]? = some p) (hN : H p = some (.ins c.CN dx (nodeF n pr wv va ga))) (u : Pres a H H') (oa : (lab a).own i) (na : p ≠ a) (ha : ∃ o, H' a = some o)
    (hP : PromV c lab H pr n.promise) (hW : WoV lab H' i wv n.would) (lv : lab va = .vo i) (hV : H' va = some (.lst (n.votes.map vn))) (lg : lab ga = .gi i) (hG : H' ga = some (.lst (n.given.map vn))) (ok : NodeOk s.nodes.length n) : Rep c lab H' w ns (Ag03.setNode s i n) ∧ Keep Tag.any lab H lab H' := by
  have K1 : Keep (Tag.own i) lab H lab H' := .pres u oa ha
  exact ⟨R.close hp K1 ⟨(R.nd i p hp).lb, dx, pr, wv, va, ga, u _ _ hN na, hP.keep K1 id, hW, ⟨lv, hV⟩, lg, hG⟩ ok, K1.any⟩
end
end Hfs
namespace Hfs
open PySem PySem.Spec PyProof.Rows L2
section
variable {K : PySem.W.Frag} {mg : Str → Option Value} {c : Cs} {σ : L2.St} {H : Hp} {Q : VK} {QT : Bool → Hp → Prop} {QA : List V → Hp → Prop} {nx : L2.St → Hp → Prop} {rt : VK} {bk ct : L2.St → Hp → Prop} {ta tb tv : TE} {tt uu : TT} {t u : TS} {tas : TA} {i : Nat} {v x y : V} {f : Str} {p q dx : Addr}
theorem cxK {CX : CXT} {P : Program} {w : World} {base : Heap} {N : List Str} {qual : Str} {sc : Scope} {fa : Addr} {cd : Value} {A : Around} {outer : List Env} {s : Shared} {E : XK} : (cxOf CX P w K mg base N qual sc fa cd A outer s H E).K = K := rfl
/-! ### readings, one rule a form -/
theorem rd_var (h : σ[i]? = some (some v)) (k : Q v H) : tVar i σ H Q := ⟨v, h, k⟩
theorem rd_c (k : Q v H) : tC v σ H Q := k
theorem rd_seq (k : t ⟨u ⟨nx, rt, bk, ct⟩, rt, bk, ct⟩ σ H) : tSeq t u ⟨nx, rt, bk, ct⟩ σ H := k
theorem rd_next (k : nx σ H) : tNext ⟨nx, rt, bk, ct⟩ σ H := k
theorem rd_asg (k : ta σ H fun x H1 => nx (σ.set i (some x)) H1) : tAsg ta (gName i) ⟨nx, rt, bk, ct⟩ σ H := k
theorem rd_ret (k : ta σ H rt) : tRet ta ⟨nx, rt, bk, ct⟩ σ H := k
theorem rd_retN (k : rt .non H) : tRetN ⟨nx, rt, bk, ct⟩ σ H := k
theorem rd_drop (k : ta σ H fun _ H1 => nx σ H1) : tDrop ta ⟨nx, rt, bk, ct⟩ σ H := k
theorem rd_ifS (k : tt σ H fun b H1 => if b = true then t ⟨nx, rt, bk, ct⟩ σ H1 else u ⟨nx, rt, bk, ct⟩ σ H1) : tIfS tt t u ⟨nx, rt, bk, ct⟩ σ H := k
theorem rd_test (k : ta σ H fun x H' => ∃ k, x = .bl k ∧ QT k H') : tTest ta σ H QT := k
theorem rd_tB (k : ta σ H fun x H' => ∃ k, x = .bl k ∧ QT k H') : tB ta σ H QT := k
theorem rd_not (k : tt σ H fun b H1 => QT (!b) H1) : tNot tt σ H QT := k
theorem rd_and (k : tt σ H fun b H1 => if b = true then uu σ H1 QT else QT false H1) : tAnd tt uu σ H QT := k
theorem rd_or (k : tt σ H fun b H1 => if b = true then QT true H1 else uu σ H1 QT) : tOr tt uu σ H QT := k
theorem rd_andV (k : ta σ H fun x H1 => ∃ b, x = .bl b ∧ if b = true then tb σ H1 Q else Q (.bl false) H1) : tAndV ta tb σ H Q := k
theorem rd_orV (k : ta σ H fun x H1 => ∃ b, x = .bl b ∧ if b = true then Q (.bl true) H1 else tb σ H1 Q) : tOrV ta tb σ H Q := k
theorem rd_notV (k : ta σ H fun x H1 => ∃ b, x = .bl b ∧ Q (.bl (!b)) H1) : tNotV ta σ H Q := k
theorem rd_if (k : tt σ H fun b H1 => if b = true then ta σ H1 Q else tb σ H1 Q) : tIf tt ta tb σ H Q := k
theorem rd_op {r : R2} (k : ta σ H fun x H1 => tb σ H1 fun y H2 => r x y H2 Q) : tOp r ta tb σ H Q := k
theorem rd_I0 {g : Int → Int → V} {a b : Int} (k : Q (g a b) H) : rI0 g (.int a) (.int b) H Q := ⟨a, b, rfl, rfl, k⟩
theorem rd_eqI {a b : Int} (k : Q (.bl (decide (a = b))) H) : rEq (.int a) (.int b) H Q := by
  refine ⟨rfl, ?_⟩
  have e : decide (V.int a = V.int b) = decide (a = b) := decide_eq_decide.mpr ⟨fun h => V.int.inj h, fun h => congrArg _ h⟩
  rw [e]
  exact k
theorem rd_neI {a b : Int} (k : Q (.bl (!decide (a = b))) H) : rNe (.int a) (.int b) H Q := by
  refine ⟨rfl, ?_⟩
  have e : decide (V.int a = V.int b) = decide (a = b) := decide_eq_decide.mpr ⟨fun h => V.int.inj h, fun h => congrArg _ h⟩
  rw [e]
  exact k
theorem rd_eqB {a b : Bool} (k : Q (.bl (decide (a = b))) H) : rEq (.bl a) (.bl b) H Q := by
  refine ⟨rfl, ?_⟩
  have e : decide (V.bl a = V.bl b) = decide (a = b) := decide_eq_decide.mpr ⟨fun h => V.bl.inj h, fun h => congrArg _ h⟩
  rw [e]
  exact k
theorem rd_nil (k : QA [] H) : tNil σ H QA := k
theorem rd_cons (k : ta σ H fun x H1 => tas σ H1 fun xs H2 => QA (x :: xs) H2) : tCons ta tas σ H QA := k
theorem rd_call {sp : Sp} (k : tas σ H fun vs H1 => sp vs H1 Q E0) : tCall sp [] E0 tas σ H Q := by
  show tas σ H fun vs H1 => sp (vs ++ []) H1 Q E0
  have e : (fun vs H1 => sp (vs ++ []) H1 Q E0) = fun vs H1 => sp vs H1 Q E0 := by
    funext vs H1
    rw [List.append_nil]
  rw [e]
  exact k
theorem rd_cb {r : List V → Hp → VK → Prop} (k : tas σ H fun vs H1 => r vs H1 Q) : tCB r tas σ H Q := k
/-- a field is read -/
def FldR (K : PySem.W.Frag) (f : Str) (x : V) (H1 : Hp) (Q : VK) : Prop := ∃ a C dx fs v, x = .ref a ∧ H1 a = some (.ins C dx fs) ∧ Cls K C ∧ NoAttr K C f ∧ fs.lookup f = some v ∧ Q v H1
theorem rd_fld (k : ta σ H fun x H1 => FldR K f x H1 Q) : tFld K ta f σ H Q := k
theorem rd_fN (T : Txt K mg c) {fs : List (Str × V)} (hp : H p = some (.ins c.CN dx fs)) (hl : fs.lookup f = some v) (hf : f ∈ fldsN) (k : Q v H) : FldR K f (.ref p) H Q := ⟨p, _, dx, fs, v, rfl, hp, T.cN, T.noN f hf, hl, k⟩
theorem rd_fW (T : Txt K mg c) {fs : List (Str × V)} (hp : H p = some (.ins c.CW dx fs)) (hl : fs.lookup f = some v) (hf : f ∈ fldsW) (k : Q v H) : FldR K f (.ref p) H Q := ⟨p, _, dx, fs, v, rfl, hp, T.cW, T.noW f hf, hl, k⟩
theorem rd_fL (T : Txt K mg c) {fs : List (Str × V)} (hp : H p = some (.ins c.CL dx fs)) (hl : fs.lookup f = some v) (hf : f ∈ fldsL) (k : Q v H) : FldR K f (.ref p) H Q := ⟨p, _, dx, fs, v, rfl, hp, T.cL, T.noL f hf, hl, k⟩
theorem rd_fP (T : Txt K mg c) {fs : List (Str × V)} (hp : H p = some (.ins c.CP dx fs)) (hl : fs.lookup f = some v) (hf : f ∈ fldsP) (k : Q v H) : FldR K f (.ref p) H Q := ⟨p, _, dx, fs, v, rfl, hp, T.cP, T.noP f hf, hl, k⟩
/-- a field is stored -/
def StR (K : PySem.W.Frag) (f : Str) (y x : V) (H2 : Hp) (n : Hp → Prop) : Prop := ∃ a C dx fs, x = .ref a ∧ H2 a = some (.ins C dx fs) ∧ Cls K C ∧ NoAttr K C f ∧ fs.length < 1000 ∧ n (upd H2 a (.ins C dx (putF f y fs)))
theorem rd_sfld (k : tv σ H fun y H1 => ta σ H1 fun x H2 => StR K f y x H2 (nx σ)) : sFld K ta tv f ⟨nx, rt, bk, ct⟩ σ H := k
theorem rd_stN (T : Txt K mg c) {n : Hp → Prop} {x0 x1 x2 x3 x4 x5 x6 x7 x8 x9 x10 x11 x12 x13 y0 y1 y2 y3 y4 y5 y6 y7 y8 y9 y10 y11 y12 y13 : V} (hp : H p = some (.ins c.CN dx (fN x0 x1 x2 x3 x4 x5 x6 x7 x8 x9 x10 x11 x12 x13)))
    (hl : putF f y (fN x0 x1 x2 x3 x4 x5 x6 x7 x8 x9 x10 x11 x12 x13) = fN y0 y1 y2 y3 y4 y5 y6 y7 y8 y9 y10 y11 y12 y13) (hf : f ∈ fldsN)
    (k : ∀ H' : Hp, H' p = some (.ins c.CN dx (fN y0 y1 y2 y3 y4 y5 y6 y7 y8 y9 y10 y11 y12 y13)) → Pres p H H' → n H') : StR K f y (.ref p) H n := by
  refine ⟨p, _, dx, _, rfl, hp, T.cN, T.noN f hf, (by show 14 < 1000; decide), ?_⟩
  rw [hl]
  exact k _ upd_same .upd
theorem rd_stW (T : Txt K mg c) {n : Hp → Prop} {x0 x1 x2 x3 x4 x5 x6 x7 y0 y1 y2 y3 y4 y5 y6 y7 : V} (hp : H p = some (.ins c.CW dx (fW x0 x1 x2 x3 x4 x5 x6 x7)))
    (hl : putF f y (fW x0 x1 x2 x3 x4 x5 x6 x7) = fW y0 y1 y2 y3 y4 y5 y6 y7) (hf : f ∈ fldsW)
    (k : ∀ H' : Hp, H' p = some (.ins c.CW dx (fW y0 y1 y2 y3 y4 y5 y6 y7)) → Pres p H H' → n H') : StR K f y (.ref p) H n := by
  refine ⟨p, _, dx, _, rfl, hp, T.cW, T.noW f hf, (by show 8 < 1000; decide), ?_⟩
  rw [hl]
  exact k _ upd_same .upd
/-- a new list -/
def LstR (xs : List V) (H1 : Hp) (Q : VK) : Prop := xs.length ≤ sizeLine ∧ ∀ p, H1 p = none → Q (.ref p) (upd H1 p (.lst xs))
theorem rd_lst (k : tas σ H fun xs H1 => LstR xs H1 Q) : tLst tas σ H Q := k
theorem rd_lstR {xs : List V} (h : xs.length ≤ sizeLine) (k : ∀ p H', H p = none → H' p = some (.lst xs) → Same H H' → Q (.ref p) H') : LstR xs H Q := ⟨h, fun p hp => k p _ hp upd_same (Same.alloc hp)⟩
/-- a new object -/
def MakeR (C : Addr) (sp : Sp) (vs : List V) (H1 : Hp) (Q : VK) : Prop := ∀ x dx, H1 x = none → H1 dx = none → dx ≠ x → sp (.ref x :: vs) (upd (upd H1 dx (.own x)) x (.ins C dx [])) (fun v H2 => v = .non ∧ Q (.ref x) H2) E0
theorem rd_make {C : Addr} {sp : Sp} (k : tas σ H fun vs H1 => MakeR C sp vs H1 Q) : tMake C sp [] E0 tas σ H Q := by
  show tas σ H fun vs H1 => ∀ x dx, H1 x = none → H1 dx = none → dx ≠ x → sp (.ref x :: (vs ++ [])) (upd (upd H1 dx (.own x)) x (.ins C dx [])) (fun v H2 => v = .non ∧ Q (.ref x) H2) E0
  have e : (fun (vs : List V) (H1 : Hp) => ∀ x dx, H1 x = none → H1 dx = none → dx ≠ x → sp (.ref x :: (vs ++ [])) (upd (upd H1 dx (.own x)) x (.ins C dx [])) (fun v H2 => v = .non ∧ Q (.ref x) H2) E0) = fun vs H1 => MakeR C sp vs H1 Q := by
    funext vs H1
    rw [List.append_nil]
    rfl
  rw [e]
  exact k
theorem rd_bl {P : Bool → Prop} {b : Bool} (k : P b) : ∃ b', V.bl b = .bl b' ∧ P b' := ⟨b, rfl, k⟩
theorem ite_dec {P A B : Prop} [Decidable P] (h1 : P → A) (h2 : ¬ P → B) : if decide P = true then A else B := by
  by_cases h : P
  · rw [if_pos (decide_eq_true h)]; exact h1 h
  · rw [if_neg (fun q => h (of_decide_eq_true q))]; exact h2 h
theorem ite_ndec {P A B : Prop} [Decidable P] (h1 : ¬ P → A) (h2 : P → B) : if (!decide P) = true then A else B := by
  by_cases h : P
  · rw [decide_eq_true h]; exact iteF (h2 h)
  · rw [decide_eq_false h]; exact iteT (h1 h)
theorem ite_rn {a : Addr} {A B : Prop} (h : B) : if decide (V.ref a = V.non) = true then A else B := ite_dec (fun q => nomatch q) fun _ => h
theorem ite_nn {A B : Prop} (h : A) : if decide (V.non = V.non) = true then A else B := ite_dec (fun _ => h) fun q => absurd rfl q
theorem ite_nrn {a : Addr} {A B : Prop} (h : A) : if (!decide (V.ref a = V.non)) = true then A else B := ite_ndec (fun _ => h) fun q => nomatch q
theorem ite_nnn {A B : Prop} (h : B) : if (!decide (V.non = V.non)) = true then A else B := ite_ndec (fun q => absurd rfl q) fun _ => h
theorem ite_b {b : Bool} {A B : Prop} (h1 : b = true → A) (h2 : b = false → B) : if b = true then A else B := by
  cases b
  · exact iteF (h2 rfl)
  · exact iteT (h1 rfl)
theorem ite_nb {b : Bool} {A B : Prop} (h1 : b = false → A) (h2 : b = true → B) : if (!b) = true then A else B := by
  cases b
  · exact iteT (h1 rfl)
  · exact iteF (h2 rfl)
theorem ite_and {a b : Bool} (hb : ∀ Q' : VK, Q' (.bl b) H → tb σ H Q') (k : Q (.bl (a && b)) H) : if a = true then tb σ H Q else Q (.bl false) H := by
  cases a
  · exact iteF k
  · exact iteT (hb Q k)
theorem ite_or {a b : Bool} (hb : ∀ Q' : VK, Q' (.bl b) H → tb σ H Q') (k : Q (.bl (a || b)) H) : if a = true then Q (.bl true) H else tb σ H Q := by
  cases a
  · exact iteF (hb Q k)
  · exact iteT k
theorem rd_ixL {xs : List V} {n : Nat} (hp : H p = some (.lst xs)) (hx : xs[n]? = some v) (k : Q v H) : rIxL K (.ref p) (.int (n : Int)) H Q := ⟨p, xs, n, v, rfl, rfl, SqL.of hp, atI_nat hx, k⟩
/-! ### lists -/
theorem rd_bm {TT : String} {r : V → List V → Hp → VK → Prop} (k : ta σ H fun x H1 => tyV K TT x H1 ∧ tas σ H1 fun xs H2 => r x xs H2 Q) : tBM K TT r ta tas σ H Q := k
theorem tyL {xs : List V} (h : H p = some (.lst xs)) : tyV K "list" (.ref p) H := Or.inl ⟨rfl, _, SqL.of h⟩
theorem rd_len {xs : List V} {R : List V → Prop} (h : H p = some (.lst xs)) (k : R xs) : ∃ a ys, [V.ref p] = [V.ref a] ∧ (SqL K H a ys ∨ SqT K H a ys) ∧ R ys := ⟨p, xs, rfl, .inl (SqL.of h), k⟩
theorem rd_app {xs : List V} (h : H p = some (.lst xs)) (hl : xs.length < sizeLine) (k : ∀ H' : Hp, H' p = some (.lst (xs ++ [y])) → Pres p H H' → Q .non H') : rAppend (.ref p) [y] H Q := ⟨p, xs, y, rfl, rfl, h, hl, k _ upd_same .upd⟩
theorem rd_sum {ns : List Int} (h : H p = some (.lst (ns.map V.int))) (k : Q (.int ns.sum) H) : rSum K [.ref p] H Q := ⟨p, ns, rfl, SqL.of h, k⟩
theorem rd_max2 {a b : Int} {R : V → Hp → Prop} (k : R (.int (if b > a then b else a)) H) : ∃ i j, [V.int a, V.int b] = [V.int i, V.int j] ∧ R (.int (if j > i then j else i)) H := ⟨a, b, rfl, k⟩
def ForR (J : It) (g : TG) (tb : TS) (D : Ends) (σ : L2.St) (H1 : Hp) : Prop := ∃ W : Nat → Nat → L2.St → Hp → Prop, (∃ m, W 0 m σ H1) ∧ ∀ i m σ H, W i m σ H →
  (J.stop i H ∧ D.nx σ H) ∨ (J.go i H ∧ ∃ N : L2.St → Hp → Prop, (∀ σ' H', N σ' H' → ∃ m', m' < m ∧ W (i + 1) m' σ' H') ∧ ∀ x H', J.yld i H x H' → g x σ H' fun σ2 H2 => tb { D with nx := N, ct := N, bk := D.nx } σ2 H2)
theorem rd_for {wi : TI} {g : TG} {tb : TS} {D : Ends} (k : wi σ H fun J H1 => ForR J g tb D σ H1) : tFor wi g tb D σ H := k
theorem rd_rng1 {R : It → Hp → Prop} (k : tas σ H fun vs H1 => ∃ j : Int, vs = [.int j] ∧ -(2 ^ 62) ≤ j ∧ j < 2 ^ 62 ∧ R (Itr 0 j.toNat) H1) : iRng1 tas σ H R := k
theorem rd_gname {QS : L2.St → Hp → Prop} (k : QS (σ.set i (some v)) H) : gName i v σ H QS := k
theorem map_vn (l : List Nat) : l.map vn = (l.map fun (k : Nat) => (k : Int)).map V.int := by
  rw [List.map_map]
  rfl
theorem sum_cast (l : List Nat) : (l.map fun (k : Nat) => (k : Int)).sum = ((l.sum : Nat) : Int) := by
  induction l with
  | nil => rfl
  | cons a l ih => rw [List.map_cons, List.sum_cons, List.sum_cons, ih]; omega
/-! ### comprehensions over a list -/
theorem rd_ilist {R : It → Hp → Prop} (k : ta σ H fun x H1 => ∃ a, x = .ref a ∧ (∃ xs, SqL K H1 a xs) ∧ R (Itl K a) H1) : iList K ta σ H R := k
theorem rd_ilistR {xs : List V} {R : Addr → Prop} (h : H p = some (.lst xs)) (k : R p) : ∃ a, V.ref p = .ref a ∧ (∃ xs, SqL K H a xs) ∧ R a := ⟨p, rfl, ⟨xs, SqL.of h⟩, k⟩
def LcR (J : It) (g : TG) (tt : TT) (te : TE) (vs : List Nat) (σ : L2.St) (H1 : Hp) (Q : VK) : Prop := ∀ D, H1 D = none → ∃ W : Nat → Nat → Hp → Prop, (∃ m, W 0 m (upd H1 D (.lst []))) ∧ ∀ i m H, W i m H →
  (J.stop i H ∧ Q (.ref D) H) ∨ (J.go i H ∧ ∃ Nx : Hp → Prop, (∀ H', Nx H' → ∃ m', m' < m ∧ W (i + 1) m' H') ∧ ∀ x H', J.yld i H x H' → g x (wipe σ vs) H' fun σ2 H2 => wipe σ2 vs = wipe σ vs ∧ tt σ2 H2 fun b H3 =>
    if b = true then te σ2 H3 fun y H4 => ∃ acc, H4 D = some (.lst acc) ∧ acc.length < sizeLine ∧ Nx (upd H4 D (.lst (acc ++ [y]))) else Nx H3)
theorem rd_lc {wi : TI} {g : TG} {te : TE} {vs : List Nat} (k : wi σ H fun J H1 => LcR J g tt te vs σ H1 Q) : tLc wi g tt te vs σ H Q := k
theorem rd_yes (k : QT true H) : tYes σ H QT := k
theorem take_snoc {α : Type} : ∀ {l : List α} {i : Nat} {x : α}, l[i]? = some x → l.take (i + 1) = l.take i ++ [x]
  | [], i, x, h => by simp at h
  | a :: l, 0, x, h => by
    have e : a = x := Option.some.inj h
    subst e
    rfl
  | a :: l, i + 1, x, h => by
    have ih := take_snoc (l := l) (i := i) (x := x) h
    show a :: l.take (i + 1) = a :: l.take i ++ [x]
    rw [ih]
    rfl
/-- a comprehension whose element changes nothing -/
theorem rd_lcM {te : TE} {vs : List Nat} {j : Nat} {xs ys : List V} (hA : H p = some (.lst xs)) (hlen : ys.length = xs.length) (hsz : xs.length < 1000) (hw : ∀ x : V, wipe ((wipe σ vs).set j (some x)) vs = wipe σ vs)
    (st : ∀ (i : Nat) (x y : V) (H' : Hp), xs[i]? = some x → ys[i]? = some y → Same H H' → ∀ QQ : VK, QQ y H' → te ((wipe σ vs).set j (some x)) H' QQ)
    (k : ∀ (D : Addr) (H' : Hp), H D = none → H' D = some (.lst ys) → Same H H' → Q (.ref D) H') : LcR (Itl K p) (gName j) tYes te vs σ H Q := by
  intro D hD
  refine lc_list (K := K) (a := p) (xs := xs) (fun i H' => Same H H' ∧ H' D = some (.lst (ys.take i))) ⟨Same.alloc hD, upd_same⟩ (fun i H' _ h => SqL.of (h.1 _ _ hA)) ?_ ?_
  · intro i x H' hx ⟨s1, d1⟩
    refine ⟨hw x, ?_⟩
    refine rd_yes (iteT ?_)
    have hi : i < ys.length := by
      rw [hlen]
      exact (List.getElem?_eq_some_iff.mp hx).1
    have hy : ys[i]? = some ys[i] := List.getElem?_eq_getElem hi
    refine st i x ys[i] H' hx hy s1 _ ⟨_, d1, ?_, ?_, ?_⟩
    · rw [List.length_take]
      exact Nat.lt_of_le_of_lt (Nat.min_le_right _ _) (small1000 (by omega))
    · intro b o e
      rw [upd_ne (ne_of_none e hD)]
      exact s1 b o e
    · rw [upd_same, take_snoc hy]
  · intro H' ⟨s1, d1⟩
    rw [← hlen, List.take_length] at d1
    exact k D H' hD d1 s1
theorem in_vn (m : Nat) (l : List Nat) : inV (vn m) (l.map vn) = l.contains m := by
  unfold inV
  induction l with
  | nil => rfl
  | cons a l ih =>
    rw [List.map_cons, List.any_cons, ih, List.contains_cons]
    have e : eqV (vn a) (vn m) = (m == a) := by
      show ((a : Int) == (m : Int)) = (m == a)
      rw [Bool.eq_iff_iff]
      simp
      omega
    rw [e]
theorem flat_vn (l : List Nat) : (l.map vn).all flatV = true := by
  rw [List.all_map]
  exact List.all_eq_true.mpr fun _ _ => rfl
theorem rd_in {m : Nat} {l : List Nat} (h : H p = some (.lst (l.map vn))) (k : Q (.bl (l.contains m)) H) : rIn K false (vn m) (.ref p) H Q := by
  refine ⟨p, _, rfl, .inl (SqL.of h), rfl, flat_vn l, ?_⟩
  show Q (.bl (inV (vn m) (l.map vn))) H
  rw [in_vn]
  exact k
theorem rd_eqVn {o : Option Nat} (k : Q (.bl (o == none)) H) : rEq (vOpt o) (.int (-1)) H Q := by
  cases o with
  | none => exact ⟨rfl, k⟩
  | some v =>
    refine rd_eqI ?_
    rw [decide_eq_false (by omega)]
    exact k
theorem rd_eqVs {o : Option Nat} {m : Nat} (k : Q (.bl (o == some m)) H) : rEq (vOpt o) (.int (m : Int)) H Q := by
  cases o with
  | none =>
    refine rd_eqI ?_
    rw [decide_eq_false (by omega)]
    exact k
  | some v =>
    refine rd_eqI ?_
    have e : decide ((v : Int) = (m : Int)) = (some v == some m) := by
      rw [Bool.eq_iff_iff]
      simp
      omega
    rw [e]
    exact k
theorem rd_chain {r r' : R2} {tc : TE} (k : ta σ H fun x H1 => tb σ H1 fun y H2 => r x y H2 fun z H3 => ∃ k, z = .bl k ∧ (if k = true then tc σ H3 fun w' H4 => r' y w' H4 Q else Q (.bl false) H3)) : tChain r r' ta tb tc σ H Q := k
/-! ### tuples, more of lists -/
def TupR (xs : List V) (H1 : Hp) (Q : VK) : Prop := xs.length ≤ sizeLine ∧ ∀ p, H1 p = none → Q (.ref p) (upd H1 p (.tup xs))
theorem rd_tup (k : tas σ H fun xs H1 => TupR xs H1 Q) : tTup tas σ H Q := k
theorem rd_tupR {xs : List V} (h : xs.length ≤ sizeLine) (k : ∀ p H', H p = none → H' p = some (.tup xs) → Same H H' → Q (.ref p) H') : TupR xs H Q := ⟨h, fun p hp => k p _ hp upd_same (Same.alloc hp)⟩
theorem rd_asgG {g : TG} (k : ta σ H fun x H1 => g x σ H1 nx) : tAsg ta g ⟨nx, rt, bk, ct⟩ σ H := k
theorem rd_gsub {ts : TSet} {QS : L2.St → Hp → Prop} (k : ta σ H fun o H1 => tb σ H1 fun i H2 => ts o i v H2 fun H3 => QS σ H3) : gSub ta tb ts v σ H QS := k
theorem rd_setL {xs : List V} {n : Nat} {R : Hp → Prop} (h : H p = some (.lst xs)) (hn : n < xs.length) (k : ∀ H' : Hp, H' p = some (.lst (xs.set n v)) → Pres p H H' → R H') : rSetL (.ref p) (.int (n : Int)) v H R := by
  refine ⟨p, xs, n, n, rfl, rfl, h, ?_, k _ upd_same .upd⟩
  unfold ixN
  rw [if_pos (by omega), if_pos (by omega)]
  rfl
theorem rd_cat {xs zs : List V} (h1 : H p = some (.lst xs)) (h2 : H q = some (.lst zs)) (hl : xs.length + zs.length ≤ sizeLine) (k : ∀ r H', H r = none → H' r = some (.lst (xs ++ zs)) → Same H H' → Q (.ref r) H') : rCat (.ref p) (.ref q) H Q :=
  ⟨p, q, xs, zs, rfl, rfl, h1, h2, hl, fun r hr => k r _ hr upd_same (Same.alloc hr)⟩
theorem rd_ext {xs zs : List V} (h1 : H p = some (.lst xs)) (h2 : H q = some (.lst zs)) (hl : xs.length + zs.length ≤ sizeLine) (k : ∀ H' : Hp, H' p = some (.lst (xs ++ zs)) → Pres p H H' → Q .non H') : rExtend (.ref p) [.ref q] H Q :=
  ⟨p, q, xs, zs, rfl, rfl, h1, h2, hl, k _ upd_same .upd⟩
theorem rd_ixS {xs : List V} {n : Nat} (hp : SqL K H p xs) (hx : xs[n]? = some v) (k : Q v H) : rIxL K (.ref p) (.int (n : Int)) H Q := ⟨p, xs, n, v, rfl, rfl, hp, atI_nat hx, k⟩
theorem rd_ixT {xs : List V} {n : Nat} (hp : SqT K H p xs) (hx : xs[n]? = some v) (k : Q v H) : rIxT K (.ref p) (.int (n : Int)) H Q := ⟨p, xs, n, v, rfl, rfl, hp, atI_nat hx, k⟩
theorem rd_ix0 {xs : List V} (hp : H p = some (.lst (v :: xs))) (k : Q v H) : rIxL K (.ref p) (.int 0) H Q := ⟨p, _, 0, v, rfl, rfl, SqL.of hp, atI_nat (j := 0) rfl, k⟩
theorem rd_ix1 {xs : List V} (hp : H p = some (.lst (x :: v :: xs))) (k : Q v H) : rIxL K (.ref p) (.int 1) H Q := ⟨p, _, 1, v, rfl, rfl, SqL.of hp, atI_nat (j := 1) rfl, k⟩
theorem rd_ix2 {xs : List V} (hp : H p = some (.lst (x :: y :: v :: xs))) (k : Q v H) : rIxL K (.ref p) (.int 2) H Q := ⟨p, _, 2, v, rfl, rfl, SqL.of hp, atI_nat (j := 2) rfl, k⟩
theorem rd_sl {r : V → Option Int → Option Int → Hp → VK → Prop} {tl th : TO} (k : ta σ H fun x H1 => tl σ H1 fun l H2 => th σ H2 fun u H3 => r x l u H3 Q) : tSl r ta tl th σ H Q := k
theorem rd_nopart {QO : Option Int → Hp → Prop} (k : QO none H) : tNoPart σ H QO := k
theorem rd_part {QO : Option Int → Hp → Prop} (k : ta σ H fun x H1 => ∃ i, x = .int i ∧ QO (some i) H1) : tPart ta σ H QO := k
theorem rd_pint {P : Int → Prop} {i : Int} (k : P i) : ∃ i', V.int i = .int i' ∧ P i' := ⟨i, rfl, k⟩
theorem rd_slL {xs : List V} {lo hi : Option Int} (hp : SqL K H p xs) (k : ∀ r H', H r = none → H' r = some (.lst (cutV xs lo hi)) → Same H H' → Q (.ref r) H') : rSlL K (.ref p) lo hi H Q := ⟨p, xs, rfl, hp, fun r hr => k r _ hr upd_same (Same.alloc hr)⟩
theorem rd_enum {R : It → Hp → Prop} (k : tas σ H fun vs H1 => ∃ a xs, vs = [.ref a] ∧ SqL K H1 a xs ∧ R (Ite K a) H1) : iEnum K tas σ H R := k
theorem rd_lenS {xs : List V} {R : List V → Prop} (h : SqL K H p xs) (k : R xs) : ∃ a ys, [V.ref p] = [V.ref a] ∧ (SqL K H a ys ∨ SqT K H a ys) ∧ R ys := ⟨p, xs, rfl, .inl h, k⟩
theorem ite_decT {P A B : Prop} [Decidable P] (h : P) (k : A) : if decide P = true then A else B := by
  rw [if_pos (decide_eq_true h)]
  exact k
theorem ite_decF {P A B : Prop} [Decidable P] (h : ¬ P) (k : B) : if decide P = true then A else B := by
  rw [if_neg (fun q => h (of_decide_eq_true q))]
  exact k
theorem ite_bit {b : Bool} (k : Q (vn (Ag03.bit b)) H) : if b = true then tC (.int 1) σ H Q else tC (.int 0) σ H Q := by
  cases b
  · exact iteF k
  · exact iteT k
theorem none_of {G : Hp} (s : Same H G) (h : G p = none) : H p = none := by
  cases e : H p with
  | none => rfl
  | some o => rw [s _ _ e] at h; cases h
theorem Same.thru {G G' : Hp} (s : Same H G) (u : Pres p G G') (h : H p = none) : Same H G' := fun b o e => u b o (s b o e) (ne_of_none e h)
theorem keep_none {S : Tag → Prop} {lab lab' : Lab} {H' : Hp} (k : Keep S lab H lab' H') (h : H' p = none) : H p = none := by
  cases e : H p with
  | none => rfl
  | some o =>
    obtain ⟨o', e'⟩ := k.al _ _ e
    rw [e'] at h
    cases h
theorem SqL.kept {S : Tag → Prop} {lab lab' : Lab} {H' : Hp} {a : Addr} {xs : List V} (h : SqL K H a xs) (k : Keep S lab H lab' H') (hs : ¬ S (lab a)) : SqL K H' a xs := by
  rcases h with (h | ⟨o, h⟩) | h
  · exact .inl (.inl (k.kp _ _ h hs))
  · exact .inl (.inr ⟨o, k.kp _ _ h hs⟩)
  · exact .inr h
theorem SqL.lasts {H' : Hp} {a : Addr} {xs : List V} (h : SqL K H a xs) (s : Same H H') : SqL K H' a xs := by
  rcases h with (h | ⟨o, h⟩) | h
  · exact .inl (.inl (s _ _ h))
  · exact .inl (.inr ⟨o, s _ _ h⟩)
  · exact .inr h
theorem nums_vn (l : List Nat) : (Ag03.nums l).map V.int = l.map vn := by
  unfold Ag03.nums
  rw [List.map_map]
  rfl
theorem map_set {α β : Type} (f : α → β) : ∀ (l : List α) (i : Nat) (a : α), (l.map f).set i (f a) = (l.set i a).map f
  | [], _, _ => rfl
  | _ :: _, 0, _ => rfl
  | b :: l, i + 1, a => by
    show f b :: (l.map f).set i (f a) = f b :: (l.set i a).map f
    rw [map_set f l i a]
theorem map_erase {α β : Type} (f : α → β) : ∀ (l : List α) (k : Nat), (l.map f).eraseIdx k = (l.eraseIdx k).map f
  | [], _ => rfl
  | _ :: _, 0 => rfl
  | a :: l, k + 1 => by
    show f a :: (l.map f).eraseIdx k = f a :: (l.eraseIdx k).map f
    rw [map_erase f l k]
end
end Hfs
namespace Hfs
open PySem PySem.Spec PyProof.Rows L2
/-! ### the promises -/
def sp_Promise_init (c : Cs) : Sp := fun vs H Q _ => ∃ (p dx : Addr) (x0 x1 x2 : V), vs = [.ref p, x0, x1, x2] ∧ H p = some (.ins c.CP dx []) ∧
  ∀ H' : Hp, H' p = some (.ins c.CP dx (fP x0 x1 x2)) → Pres p H H' → Q .non H'
def sp_Letter_init (c : Cs) : Sp := fun vs H Q _ => ∃ (p dx : Addr) (x0 x1 x2 x3 x4 x5 : V), vs = [.ref p, x0, x1, x2, x3, x4, x5] ∧ H p = some (.ins c.CL dx []) ∧
  ∀ H' : Hp, H' p = some (.ins c.CL dx (fL x0 x1 x2 x3 x4 x5)) → Pres p H H' → Q .non H'
abbrev fNew (va ga : Addr) : List (Str × V) := nodeF Ag03.fresh .non .non va ga
def sp_Node_init (c : Cs) : Sp := fun vs H Q _ => ∃ (p dx : Addr), vs = [.ref p] ∧ H p = some (.ins c.CN dx []) ∧
  ∀ (H' : Hp) (va ga : Addr), H' p = some (.ins c.CN dx (fNew va ga)) → H va = none → H ga = none → va ≠ ga → H' va = some (.lst []) → H' ga = some (.lst []) → Pres p H H' → Q .non H'
def sp_span_of (c : Cs) : Sp := fun vs H Q _ => ∃ (w l : Nat), vs = [vn w, vn l] ∧ w ≤ 999 ∧ l ≤ 2000 ∧ Q (vn (l * (1000 - w) / (1000 + w))) H
/-- a def that hands back one number, as the specification's function does -/
def Out (c : Cs) (lab : Lab) (H : Hp) (w : Addr) (ns : List Addr) (r : Ag03.State × List Int) (Q : VK) : Prop :=
  ∀ (v : Int) (lab' : Lab) (H' : Hp), r.2 = [v] → Rep c lab' H' w ns r.1 → Keep Tag.any lab H lab' H' → Q (.int v) H'
/-- a def that hands back nothing -/
def Then (c : Cs) (lab : Lab) (H : Hp) (w : Addr) (ns : List Addr) (s' : Ag03.State) (Q : Hp → Prop) : Prop :=
  ∀ (lab' : Lab) (H' : Hp), Rep c lab' H' w ns s' → Keep Tag.any lab H lab' H' → Q H'
/-- few have led so far -/
def Lo (s : Ag03.State) : Prop := s.led.length ≤ 100
def sp_holds_now (c : Cs) : Sp := fun vs H Q _ => ∃ (lab : Lab) (i : Nat) (p : Addr) (n : Ag03.Node), vs = [.ref p] ∧ NodeAt c lab H i p n ∧ Q (.bl (Ag03.holding n)) H
def sp_is_most (c : Cs) : Sp := fun vs H Q _ => ∃ (lab : Lab) (w : Addr) (ns : List Addr) (s : Ag03.State) (a : Addr) (l : List Nat), vs = [.ref w, .ref a] ∧ Rep c lab H w ns s ∧ H a = some (.lst (l.map vn)) ∧ Mem s.nodes.length l ∧
  ∀ H' : Hp, Same H H' → Q (.bl (Ag03.most s l)) H'
def sp_is_bound (c : Cs) : Sp := fun vs H Q _ => ∃ (lab : Lab) (i : Nat) (p : Addr) (n : Ag03.Node) (x : Nat), vs = [.ref p, vn x] ∧ NodeAt c lab H i p n ∧ Q (.bl (Ag03.bound n x)) H
def sp_hear_of_term (c : Cs) : Sp := fun vs H Q _ => ∃ (lab : Lab) (w : Addr) (ns : List Addr) (s : Ag03.State) (i : Nat) (p : Addr) (t : Nat), vs = [.ref p, vn t] ∧ Rep c lab H w ns s ∧ ns[i]? = some p ∧
  Then c lab H w ns (Ag03.setNode s i (Ag03.hear (Ag03.node s i) t)) (Q .non)
def sp_send (c : Cs) : Sp := fun vs H Q _ => ∃ (lab : Lab) (w : Addr) (ns : List Addr) (s : Ag03.State) (a : Addr) (x : Ag03.Letter), vs = [.ref w, .ref a] ∧ Rep c lab H w ns s ∧ LetAt c lab H a x ∧ LetOk s.nodes.length x ∧
  Then c lab H w ns (Ag03.send s [x]) (Q .non)
def sp_send_to_others (c : Cs) : Sp := fun vs H Q _ => ∃ (lab : Lab) (w : Addr) (ns : List Addr) (s : Ag03.State) (i k t m : Nat) (y : Int), vs = [.ref w, vn i, vn k, vn t, vn m, .int y] ∧ Rep c lab H w ns s ∧ i < s.nodes.length ∧ k ≤ 6 ∧
  Then c lab H w ns (Ag03.send s ((Ag03.others s i).map fun (j : Nat) => ⟨k, j, i, t, m, decide ((j : Int) = y)⟩)) (Q .non)
def sp_begin_wish (c : Cs) : Sp := fun vs H Q _ => ∃ (lab : Lab) (w : Addr) (ns : List Addr) (s : Ag03.State) (i : Nat), vs = [.ref w, vn i] ∧ Rep c lab H w ns s ∧ i < s.nodes.length ∧ Lo s ∧
  Out c lab H w ns (Ag03.wish s i) Q
def sp_ask_if_most_would (c : Cs) : Sp := fun vs H Q _ => ∃ (lab : Lab) (w : Addr) (ns : List Addr) (s : Ag03.State) (i : Nat) (l : List Nat), vs = [.ref w, vn i] ∧ Rep c lab H w ns s ∧ i < s.nodes.length ∧ Lo s ∧ (Ag03.node s i).would = some l ∧
  Out c lab H w ns (if Ag03.most s l = true then Ag03.ask s i else (s, [2])) Q
def sp_ask (c : Cs) : Sp := fun vs H Q _ => ∃ (lab : Lab) (w : Addr) (ns : List Addr) (s : Ag03.State) (i : Nat), vs = [.ref w, vn i] ∧ Rep c lab H w ns s ∧ i < s.nodes.length ∧ Lo s ∧
  Out c lab H w ns (Ag03.ask s i) Q
def sp_lead (c : Cs) : Sp := fun vs H Q _ => ∃ (lab : Lab) (w : Addr) (ns : List Addr) (s : Ag03.State) (i : Nat), vs = [.ref w, vn i] ∧ Rep c lab H w ns s ∧ i < s.nodes.length ∧ Lo s ∧
  Then c lab H w ns (Ag03.lead s i) (Q (.int 4))
def sp_promise_to (c : Cs) : Sp := fun vs H Q _ => ∃ (lab : Lab) (w : Addr) (ns : List Addr) (s : Ag03.State) (i : Nat) (p : Addr) (x t : Nat), vs = [.ref w, .ref p, vn x, vn t] ∧ Rep c lab H w ns s ∧ ns[i]? = some p ∧
  Then c lab H w ns (Ag03.setNode s i (Ag03.promised s (Ag03.node s i) x t)) (Q .non)
def sp_begin_round (c : Cs) : Sp := fun vs H Q _ => ∃ (lab : Lab) (w : Addr) (ns : List Addr) (s : Ag03.State) (i : Nat), vs = [.ref w, vn i] ∧ Rep c lab H w ns s ∧ i < s.nodes.length ∧
  Then c lab H w ns (Ag03.renew s i) (Q .non)
def sp_hold_if_most_gave (c : Cs) : Sp := fun vs H Q _ => ∃ (lab : Lab) (w : Addr) (ns : List Addr) (s : Ag03.State) (i : Nat) (p : Addr), vs = [.ref w, .ref p] ∧ Rep c lab H w ns s ∧ ns[i]? = some p ∧
  Then c lab H w ns (Ag03.setNode s i (Ag03.held s (Ag03.node s i))) (Q .non)
def sp_let_go (c : Cs) : Sp := fun vs H Q _ => ∃ (lab : Lab) (w : Addr) (ns : List Addr) (s : Ag03.State) (i j : Nat), vs = [.ref w, vn i, vn j] ∧ Rep c lab H w ns s ∧ i < s.nodes.length ∧
  Then c lab H w ns (Ag03.leave s i j) (Q .non)
def sp_reply (c : Cs) : Sp := fun vs H Q _ => ∃ (lab : Lab) (w : Addr) (ns : List Addr) (s : Ag03.State) (a : Addr) (x : Ag03.Letter) (k t m : Nat) (y : Bool), vs = [.ref w, .ref a, vn k, vn t, vn m, .bl y] ∧ Rep c lab H w ns s ∧ LetAt c lab H a x ∧ LetOk s.nodes.length x ∧ k ≤ 6 ∧
  Then c lab H w ns (Ag03.send s [⟨k, x.from_, x.to_, t, m, y⟩]) (Q (.int 1))
/-- a letter of one kind handed over to a node that runs -/
def spGet (kind : Nat) (c : Cs) : Sp := fun vs H Q _ => ∃ (lab : Lab) (w : Addr) (ns : List Addr) (s : Ag03.State) (a : Addr) (x : Ag03.Letter), vs = [.ref w, .ref a] ∧ Rep c lab H w ns s ∧ LetAt c lab H a x ∧ LetOk s.nodes.length x ∧ Lo s ∧ x.kind = kind ∧ (Ag03.node s x.to_).up = true ∧
  Out c lab H w ns (Ag03.hand s x) Q
abbrev sp_get_would_you := spGet 0
abbrev sp_get_would := spGet 1
abbrev sp_get_vote := spGet 2
abbrev sp_get_voted := spGet 3
abbrev sp_get_promise := spGet 4
abbrev sp_get_promised := spGet 5
abbrev sp_get_free := spGet 6
def sp_hand_over (c : Cs) : Sp := fun vs H Q _ => ∃ (lab : Lab) (w : Addr) (ns : List Addr) (s : Ag03.State) (a : Addr) (x : Ag03.Letter), vs = [.ref w, .ref a] ∧ Rep c lab H w ns s ∧ LetAt c lab H a x ∧ LetOk s.nodes.length x ∧ Lo s ∧
  Out c lab H w ns (Ag03.hand s x) Q
/-! ### the world's own calls -/
def world0 (w l : Nat) (ps : List Nat) : Ag03.State := ⟨ps, w, l, 0, ps.map fun _ => Ag03.fresh, [], []⟩
def Ext (p : Addr) (lab : Lab) (H : Hp) (lab' : Lab) (H' : Hp) : Prop := ∀ b o, H b = some o → b ≠ p → lab' b = lab b ∧ H' b = some o
def sp_World_init (c : Cs) : Sp := fun vs H Q _ => ∃ (lab : Lab) (p dx wl : Addr) (w l : Nat) (ps : List Nat), vs = [.ref p, vn w, vn l, .ref wl] ∧ H p = some (.ins c.CW dx []) ∧ H wl = some (.lst (ps.map vn)) ∧ lab wl = .free ∧ WInv (world0 w l ps) ∧
  ∀ (lab' : Lab) (H' : Hp) (ns : List Addr), Rep c lab' H' p ns (world0 w l ps) → Ext p lab H lab' H' → Q .non H'
def sp_clock_may_go (c : Cs) : Sp := fun vs H Q _ => ∃ (lab : Lab) (w : Addr) (ns : List Addr) (s : Ag03.State) (d a : Nat), vs = [.ref w, vn d, vn a] ∧ Rep c lab H w ns s ∧ d ≤ 2000 ∧ a ≤ 3000 ∧ Q (.bl (Ag03.fair s.wrong d a)) H
def refusal (s : Ag03.State) (i : Nat) (b : Bool) : Int := if s.nodes.length ≤ i then -1 else if (Ag03.node s i).up = false then -3 else if decide ((Ag03.node s i).role = 2) = b then 0 else -2
def sp_refusal_of (c : Cs) : Sp := fun vs H Q _ => ∃ (lab : Lab) (w : Addr) (ns : List Addr) (s : Ag03.State) (i : Nat) (b : Bool), vs = [.ref w, vn i, .bl b] ∧ Rep c lab H w ns s ∧ Q (.int (refusal s i b)) H
/-- a call of the world: one number, as the specification's step -/
def StepI (c : Cs) (lab : Lab) (H : Hp) (w : Addr) (ns : List Addr) (s : Ag03.State) (x : Ag03.Call) (Q : VK) : Prop :=
  ∀ (v : Int) (s' : Ag03.State) (lab' : Lab) (H' : Hp), Ag03.step (some s) x = (some s', [v]) → Rep c lab' H' w ns s' → Keep Tag.any lab H lab' H' → Q (.int v) H'
def sp_wish (c : Cs) : Sp := fun vs H Q _ => ∃ (lab : Lab) (w : Addr) (ns : List Addr) (s : Ag03.State) (i : Nat), vs = [.ref w, vn i] ∧ Rep c lab H w ns s ∧ Lo s ∧ StepI c lab H w ns s (.wish i) Q
def sp_renew (c : Cs) : Sp := fun vs H Q _ => ∃ (lab : Lab) (w : Addr) (ns : List Addr) (s : Ag03.State) (i : Nat), vs = [.ref w, vn i] ∧ Rep c lab H w ns s ∧ StepI c lab H w ns s (.renew i) Q
def sp_leave (c : Cs) : Sp := fun vs H Q _ => ∃ (lab : Lab) (w : Addr) (ns : List Addr) (s : Ag03.State) (i j : Nat), vs = [.ref w, vn i, vn j] ∧ Rep c lab H w ns s ∧ StepI c lab H w ns s (.leave i j) Q
def sp_raise_rank (c : Cs) : Sp := fun vs H Q _ => ∃ (lab : Lab) (w : Addr) (ns : List Addr) (s : Ag03.State) (i r : Nat), vs = [.ref w, vn i, vn r] ∧ Rep c lab H w ns s ∧ StepI c lab H w ns s (.rank i r) Q
def sp_take (c : Cs) : Sp := fun vs H Q _ => ∃ (lab : Lab) (w : Addr) (ns : List Addr) (s : Ag03.State) (k : Nat), vs = [.ref w, vn k] ∧ Rep c lab H w ns s ∧ k ≤ 200 ∧ Lo s ∧ StepI c lab H w ns s (.take k) Q
def sp_keep (c : Cs) : Sp := fun vs H Q _ => ∃ (lab : Lab) (w : Addr) (ns : List Addr) (s : Ag03.State) (k : Nat), vs = [.ref w, vn k] ∧ Rep c lab H w ns s ∧ Lo s ∧ StepI c lab H w ns s (.keep k) Q
def sp_elapse (c : Cs) : Sp := fun vs H Q _ => ∃ (lab : Lab) (w : Addr) (ns : List Addr) (s : Ag03.State) (d : Nat) (a : Addr) (l : List Nat), vs = [.ref w, vn d, .ref a] ∧ Rep c lab H w ns s ∧ H a = some (.lst (l.map vn)) ∧ lab a = .free ∧ d ≤ 2000 ∧ (∀ x ∈ l, x ≤ 3000) ∧ l.length ≤ 10 ∧ StepI c lab H w ns s (.pass d l) Q
def beginOk (w l : Nat) (p : List Nat) : Bool := !decide (p.isEmpty = true ∨ (5 < p.length ∨ (p.any (fun (n : Nat) => decide (9 < n)) = true ∨ (Ag03.sum p = 0 ∨ (200 < w ∨ (1000 < l ∨ l * (1000 - w) / (1000 + w) = 0))))))
def sp_begin_is_right (c : Cs) : Sp := fun vs H Q _ => ∃ (w l : Nat) (a : Addr) (p : List Nat), vs = [vn w, vn l, .ref a] ∧ H a = some (.lst (p.map vn)) ∧ w ≤ 999 ∧ l ≤ 2000 ∧ p.length ≤ 10 ∧ Q (.bl (beginOk w l p)) H
/-! ### calls that may put a node in another's place, what is told, the loop -/
def StepN (c : Cs) (lab : Lab) (H : Hp) (w : Addr) (s : Ag03.State) (x : Ag03.Call) (Q : VK) : Prop :=
  ∀ (v : Int) (s' : Ag03.State) (ns' : List Addr) (lab' : Lab) (H' : Hp), Ag03.step (some s) x = (some s', [v]) → Rep c lab' H' w ns' s' → Keep Tag.all lab H lab' H' → Q (.int v) H'
theorem StepN.of {c : Cs} {lab : Lab} {H : Hp} {w : Addr} {ns : List Addr} {s : Ag03.State} {x : Ag03.Call} {Q : VK} (k : StepN c lab H w s x Q) : StepI c lab H w ns s x Q := fun v s' lab' H' e R K => k v s' ns lab' H' e R K.all
def anewOf (s : Ag03.State) (i : Nat) : Ag03.Node := { Ag03.fresh with clock := (Ag03.node s i).clock, term := (Ag03.node s i).term, voted := (Ag03.node s i).voted, rank := (Ag03.node s i).rank, still := (Ag03.node s i).clock + s.long }
def sp_begin_anew (c : Cs) : Sp := fun vs H Q _ => ∃ (lab : Lab) (w : Addr) (ns : List Addr) (s : Ag03.State) (i : Nat), vs = [.ref w, vn i] ∧ Rep c lab H w ns s ∧ i < s.nodes.length ∧
  ∀ (ns' : List Addr) (lab' : Lab) (H' : Hp), Rep c lab' H' w ns' (Ag03.setNode s i (anewOf s i)) → Keep Tag.all lab H lab' H' → Q .non H'
def sp_lose (c : Cs) : Sp := fun vs H Q _ => ∃ (lab : Lab) (w : Addr) (ns : List Addr) (s : Ag03.State) (k : Nat), vs = [.ref w, vn k] ∧ Rep c lab H w ns s ∧ k ≤ 200 ∧ StepI c lab H w ns s (.lose k) Q
def sp_stop (c : Cs) : Sp := fun vs H Q _ => ∃ (lab : Lab) (w : Addr) (ns : List Addr) (s : Ag03.State) (i : Nat), vs = [.ref w, vn i] ∧ Rep c lab H w ns s ∧ StepI c lab H w ns s (.halt_ i) Q
def sp_start (c : Cs) : Sp := fun vs H Q _ => ∃ (lab : Lab) (w : Addr) (ns : List Addr) (s : Ag03.State) (i : Nat), vs = [.ref w, vn i] ∧ Rep c lab H w ns s ∧ StepN c lab H w s (.start i) Q
/-- a new list of numbers, all else as it was -/
def Tells (H : Hp) (Q : VK) (l : List Int) : Prop := ∀ (p : Addr) (H' : Hp), H p = none → H' p = some (.lst (l.map V.int)) → Same H H' → Q (.ref p) H'
def sp_with_length (c : Cs) : Sp := fun vs H Q _ => ∃ (a : Addr) (l : List Nat), vs = [.ref a] ∧ H a = some (.lst (l.map vn)) ∧ l.length ≤ 1000 ∧ Tells H Q (Ag03.row l)
def sp_report_letters (c : Cs) : Sp := fun vs H Q _ => ∃ (lab : Lab) (w : Addr) (ns : List Addr) (s : Ag03.State), vs = [.ref w] ∧ Rep c lab H w ns s ∧
  Tells H Q (Ag03.nums (s.letters.length :: s.letters.flatMap fun (x : Ag03.Letter) => [x.kind, x.to_, x.from_, x.term, x.num, Ag03.bit x.yes]))
def nodeTold (n : Ag03.Node) : List Int := Ag03.nums [Ag03.bit n.up, n.clock, n.term] ++ (Ag03.votedOf n.voted ++ (Ag03.nums [n.rank, n.role] ++ (Ag03.promiseOf n.promise ++ ((n.still : Int) :: (Ag03.wouldOf n.would ++ (Ag03.row n.votes ++ (Ag03.nums [n.round, n.sent] ++ (Ag03.row n.given ++ [(n.holds : Int)]))))))))
def sp_report_node (c : Cs) : Sp := fun vs H Q _ => ∃ (lab : Lab) (i : Nat) (p : Addr) (n : Ag03.Node) (k : Nat), vs = [.ref p] ∧ NodeAt c lab H i p n ∧ NodeOk k n ∧ k ≤ 5 ∧ Tells H Q (nodeTold n)
def sp_report_promise (c : Cs) : Sp := fun vs H Q _ => ∃ (lab : Lab) (i : Nat) (p : Addr) (n : Ag03.Node), vs = [.ref p] ∧ NodeAt c lab H i p n ∧ Tells H Q (Ag03.promiseOf n.promise)
def sp_report_holding (c : Cs) : Sp := fun vs H Q _ => ∃ (lab : Lab) (w : Addr) (ns : List Addr) (s : Ag03.State), vs = [.ref w] ∧ Rep c lab H w ns s ∧
  Tells H Q (Ag03.nums (s.now :: (Ag03.holders s).length :: Ag03.holders s))
def sp_report_led (c : Cs) : Sp := fun vs H Q _ => ∃ (lab : Lab) (w : Addr) (ns : List Addr) (s : Ag03.State), vs = [.ref w] ∧ Rep c lab H w ns s ∧ Lo s ∧
  Tells H Q (Ag03.nums (s.led.length :: s.led.flatMap fun (x : Nat × Nat) => [x.1, x.2]))
def carried : Ag03.Call → Prop
  | .begin_ _ _ _ => False
  | .letters => False
  | .node _ => False
  | .holds => False
  | .led => False
  | _ => True
def inWorld : Ag03.Call → Prop
  | .begin_ _ _ _ => False
  | _ => True
def sp_carry_out (c : Cs) : Sp := fun vs H Q _ => ∃ (lab : Lab) (w : Addr) (ns : List Addr) (s : Ag03.State) (a : Addr) (x : Ag03.Call), vs = [.ref w, .ref a] ∧ Rep c lab H w ns s ∧ Lo s ∧ H a = some (.lst ((enc x).map V.int)) ∧ bnd x ∧ carried x ∧ StepN c lab H w s x Q
def sp_answer_in (c : Cs) : Sp := fun vs H Q _ => ∃ (lab : Lab) (w : Addr) (ns : List Addr) (s : Ag03.State) (a : Addr) (x : Ag03.Call), vs = [.ref w, .ref a] ∧ Rep c lab H w ns s ∧ Lo s ∧ H a = some (.lst ((enc x).map V.int)) ∧ bnd x ∧ inWorld x ∧
  ∀ (p : Addr) (s' : Ag03.State) (ans : List Int) (ns' : List Addr) (lab' : Lab) (H' : Hp), Ag03.step (some s) x = (some s', ans) → Rep c lab' H' w ns' s' → Keep Tag.all lab H lab' H' → H p = none → H' p = some (.lst (ans.map V.int)) → Q (.ref p) H'
def sp_end_of_call (K : PySem.W.Frag) : Sp := fun vs H Q _ => ∃ (a : Addr) (pre post : List Int) (x : Ag03.Call), vs = [.ref a, vn pre.length] ∧ SqL K H a ((pre ++ enc x ++ post).map V.int) ∧ Q (vn (pre.length + (enc x).length)) H
def sp_answers (K : PySem.W.Frag) : Sp := fun vs H Q _ => ∃ (a : Addr) (ns : List Int), vs = [.ref a] ∧ SqL K H a (ns.map V.int) ∧ PyAg03.answers_asked ns = true ∧ ∀ (H' : Hp) (p : Addr), H' p = some (.lst ((PyAg03.answers ns).map V.int)) → Q (.ref p) H'
/-! ### new objects -/
section
variable {c : Cs} {H : Hp} {Q : VK}
theorem rd_mkP {x0 x1 x2 : V} (k : ∀ p dx H', H p = none → H' p = some (.ins c.CP dx (fP x0 x1 x2)) → Same H H' → Q (.ref p) H') : MakeR c.CP (sp_Promise_init c) [x0, x1, x2] H Q := by
  intro x dx hx hdx ne
  refine ⟨x, dx, x0, x1, x2, rfl, upd_same, fun H' e u => ⟨rfl, k x dx H' hx e fun b o h => ?_⟩⟩
  exact u b o (by rw [upd_ne (ne_of_none h hx), upd_ne (ne_of_none h hdx)]; exact h) (ne_of_none h hx)
theorem rd_mkL {x0 x1 x2 x3 x4 x5 : V} (k : ∀ p dx H', H p = none → H' p = some (.ins c.CL dx (fL x0 x1 x2 x3 x4 x5)) → Same H H' → Q (.ref p) H') : MakeR c.CL (sp_Letter_init c) [x0, x1, x2, x3, x4, x5] H Q := by
  intro x dx hx hdx ne
  refine ⟨x, dx, x0, x1, x2, x3, x4, x5, rfl, upd_same, fun H' e u => ⟨rfl, k x dx H' hx e fun b o h => ?_⟩⟩
  exact u b o (by rw [upd_ne (ne_of_none h hx), upd_ne (ne_of_none h hdx)]; exact h) (ne_of_none h hx)
end
end Hfs
namespace Hfs
open PySem PySem.Spec PyProof.Rows L2
set_option hygiene false in
local macro_rules | `(tactic| walk_at "rd") => `(tactic| repeat (first
  | (with_reducible refine rd_seq ?_) | (with_reducible refine rd_next ?_) | (with_reducible refine rd_asg ?_) | (with_reducible refine rd_ret ?_) | (with_reducible refine rd_retN ?_) | (with_reducible refine rd_drop ?_)
  | (with_reducible refine rd_ifS ?_) | (with_reducible refine rd_test ?_) | (with_reducible refine rd_tB ?_) | (with_reducible refine rd_not ?_) | (with_reducible refine rd_and ?_) | (with_reducible refine rd_or ?_)
  | (with_reducible refine rd_andV ?_) | (with_reducible refine rd_orV ?_) | (with_reducible refine rd_notV ?_) | (with_reducible refine rd_if ?_) | (with_reducible refine rd_op ?_) | (with_reducible refine rd_I0 ?_)
  | (with_reducible refine rd_eqI ?_) | (with_reducible refine rd_neI ?_) | (with_reducible refine rd_eqB ?_) | (with_reducible refine rd_nil ?_) | (with_reducible refine rd_cons ?_) | (with_reducible refine rd_call ?_)
  | (with_reducible refine rd_cb ?_) | (with_reducible refine rd_fld ?_) | (with_reducible refine rd_sfld ?_) | (with_reducible refine rd_lst ?_) | (with_reducible refine rd_make ?_) | (with_reducible refine rd_c ?_)
  | (with_reducible refine rd_bm ?_) | (with_reducible refine rd_for ?_) | (with_reducible refine rd_rng1 ?_) | (with_reducible refine rd_gname ?_)
  | ((with_reducible refine' And.intro (tyL ?h1) ?_); (case h1 => assumption))
  | ((with_reducible refine' rd_len ?h1 ?_); (case h1 => assumption))
  | (refine ⟨_, _, (rfl : [V.int _, V.int _] = [V.int _, V.int _]), ?_⟩) | (with_reducible refine rd_ilist ?_) | (with_reducible refine rd_lc ?_) | (with_reducible refine rd_yes ?_) | (with_reducible refine rd_chain ?_)
  | ((with_reducible refine' rd_ilistR ?h1 ?_); (case h1 => assumption))
  | ((with_reducible refine' rd_in ?h1 ?_); (case h1 => assumption)) | (with_reducible refine rd_eqVn ?_) | (with_reducible refine rd_eqVs ?_)
  | (with_reducible refine rd_bl ?_) | (with_reducible refine And.intro (rfl : V.non = V.non) ?_) | (with_reducible refine iteT ?_) | (with_reducible refine iteF ?_)
  | (with_reducible refine ite_rn ?_) | (with_reducible refine ite_nn ?_) | (with_reducible refine ite_nrn ?_) | (with_reducible refine ite_nnn ?_)
  | ((with_reducible refine' rd_var ?h1 ?_); (case h1 => rfl))
  | ((with_reducible refine' rd_fN T ?h1 ?h2 ?h3 ?_); (case h1 => assumption); (case h2 => rfl); (case h3 => decide +kernel))
  | ((with_reducible refine' rd_fW T ?h1 ?h2 ?h3 ?_); (case h1 => assumption); (case h2 => rfl); (case h3 => decide +kernel))
  | ((with_reducible refine' rd_fL T ?h1 ?h2 ?h3 ?_); (case h1 => assumption); (case h2 => rfl); (case h3 => decide +kernel))
  | ((with_reducible refine' rd_fP T ?h1 ?h2 ?h3 ?_); (case h1 => assumption); (case h2 => rfl); (case h3 => decide +kernel))
  | ((with_reducible refine' rd_ixL ?h1 ?h2 ?_); (case h1 => assumption); (case h2 => assumption))
  | ((with_reducible refine' rd_stN T ?h1 ?h2 ?h3 ?_); (case h1 => assumption); (case h2 => rfl); (case h3 => decide +kernel))
  | ((with_reducible refine' rd_stW T ?h1 ?h2 ?h3 ?_); (case h1 => assumption); (case h2 => rfl); (case h3 => decide +kernel))
  | ((with_reducible refine' rd_lstR ?h1 ?_); (case h1 => first | (show 0 ≤ sizeLine; decide +kernel) | (show 1 ≤ sizeLine; decide +kernel) | (show 2 ≤ sizeLine; decide +kernel) | (show 3 ≤ sizeLine; decide +kernel) | (show 4 ≤ sizeLine; decide +kernel) | (show 5 ≤ sizeLine; decide +kernel) | (show 6 ≤ sizeLine; decide +kernel)))
  | (with_reducible refine rd_tup ?_) | ((with_reducible refine' rd_tupR ?h1 ?_); (case h1 => (show 2 ≤ sizeLine; decide +kernel)))
  | (with_reducible refine rd_asgG ?_) | (with_reducible refine rd_gsub ?_) | (with_reducible refine rd_sl ?_) | (with_reducible refine rd_nopart ?_) | (with_reducible refine rd_part ?_) | (with_reducible refine rd_pint ?_) | (with_reducible refine rd_enum ?_)
  | ((with_reducible refine' rd_ix0 ?h1 ?_); (case h1 => assumption)) | ((with_reducible refine' rd_ix1 ?h1 ?_); (case h1 => assumption)) | ((with_reducible refine' rd_ix2 ?h1 ?_); (case h1 => assumption))
  | (with_reducible refine ite_bit ?_)))
set_option hygiene false in
local macro_rules | `(tactic| walk_at "go") => `(tactic| ((try simp only [cxK]); walk_at "rd"))
set_option hygiene false in
local macro_rules | `(tactic| walk_at "lit") => `(tactic| ((repeat (walk_at "rd"; first | (refine ite_decF (by decide) ?_) | (refine ite_decT (by decide) ?_))); walk_at "rd"))
theorem putF_len0 (f : Str) (y : V) : ∀ fs : List (Str × V), (putF f y fs).length ≤ fs.length + 1
  | [] => Nat.le_refl _
  | (g, x) :: r => by
    show (if g = f then (g, y) :: r else (g, x) :: putF f y r).length ≤ _
    split
    · exact Nat.le_succ _
    · exact Nat.succ_le_succ (putF_len0 f y r)
section
variable {P : Program} {w : World} {K : PySem.W.Frag} {mg : Str → Option Value} {base : Heap} {c : Cs}
theorem rd_stI {H : Hp} {C p dx : Addr} {f : Str} {y : V} {fs : List (Str × V)} {m : Nat} {n : Hp → Prop} (hp : H p = some (.ins C dx fs)) (hl : fs.length ≤ m) (cl : Cls K C) (no : NoAttr K C f) (hm : m < 1000)
    (k : ∀ H' : Hp, H' p = some (.ins C dx (putF f y fs)) → (putF f y fs).length ≤ m + 1 → Pres p H H' → n H') : StR K f y (.ref p) H n :=
  ⟨p, C, dx, fs, rfl, hp, cl, no, Nat.lt_of_le_of_lt hl hm, k _ upd_same (Nat.le_trans (putF_len0 f y fs) (Nat.succ_le_succ hl)) .upd⟩
theorem ok_Promise_init {f : Addr} {fd : FuncData} (F : Fun K "__init__" "Promise.__init__" s_Promise_init f fd) (T : Txt K mg c)  : FnOk P w K mg base CX0 1 f fd ["self", "whom", "term", "until"] (sp_Promise_init c) := by
  refine F.ok sc_Promise_init (fun vs H Q E h => ?_) (fun cdv A outer s H vs Q E hr h => ?_)
  · obtain ⟨p, dx, x0, x1, x2, rfl, _⟩ := h
    rfl
  · obtain ⟨p, dx, x0, x1, x2, rfl, hp, k⟩ := h
    refine ⟨_, (pss_cons (ps_fld (pv 0) (pv 1) rfl)
    (pss_cons (ps_fld (pv 0) (pv 2) rfl)
    (pss_one (ps_fld (pv 0) (pv 3) rfl)))), ?_⟩
    walk_at "go"
    refine rd_stI hp (m := 0) (Nat.le_refl _) T.cP (T.noP _ (by decide +kernel)) (by decide) (fun H1 h1 l1 u1 => ?_)
    walk_at "rd"
    refine rd_stI h1 l1 T.cP (T.noP _ (by decide +kernel)) (by decide) (fun H2 h2 l2 u2 => ?_)
    walk_at "rd"
    refine rd_stI h2 l2 T.cP (T.noP _ (by decide +kernel)) (by decide) (fun H3 h3 l3 u3 => ?_)
    exact k H3 h3 ((u1.trans u2).trans u3)
theorem ok_Letter_init {f : Addr} {fd : FuncData} (F : Fun K "__init__" "Letter.__init__" s_Letter_init f fd) (T : Txt K mg c)  : FnOk P w K mg base CX0 1 f fd ["self", "kind", "whom", "sender", "term", "number", "yes"] (sp_Letter_init c) := by
  refine F.ok sc_Letter_init (fun vs H Q E h => ?_) (fun cdv A outer s H vs Q E hr h => ?_)
  · obtain ⟨p, dx, x0, x1, x2, x3, x4, x5, rfl, _⟩ := h
    rfl
  · obtain ⟨p, dx, x0, x1, x2, x3, x4, x5, rfl, hp, k⟩ := h
    refine ⟨_, (pss_cons (ps_fld (pv 0) (pv 1) rfl)
    (pss_cons (ps_fld (pv 0) (pv 2) rfl)
    (pss_cons (ps_fld (pv 0) (pv 3) rfl)
    (pss_cons (ps_fld (pv 0) (pv 4) rfl)
    (pss_cons (ps_fld (pv 0) (pv 5) rfl)
    (pss_one (ps_fld (pv 0) (pv 6) rfl))))))), ?_⟩
    walk_at "go"
    refine rd_stI hp (m := 0) (Nat.le_refl _) T.cL (T.noL _ (by decide +kernel)) (by decide) (fun H1 h1 l1 u1 => ?_)
    walk_at "rd"
    refine rd_stI h1 l1 T.cL (T.noL _ (by decide +kernel)) (by decide) (fun H2 h2 l2 u2 => ?_)
    walk_at "rd"
    refine rd_stI h2 l2 T.cL (T.noL _ (by decide +kernel)) (by decide) (fun H3 h3 l3 u3 => ?_)
    walk_at "rd"
    refine rd_stI h3 l3 T.cL (T.noL _ (by decide +kernel)) (by decide) (fun H4 h4 l4 u4 => ?_)
    walk_at "rd"
    refine rd_stI h4 l4 T.cL (T.noL _ (by decide +kernel)) (by decide) (fun H5 h5 l5 u5 => ?_)
    walk_at "rd"
    refine rd_stI h5 l5 T.cL (T.noL _ (by decide +kernel)) (by decide) (fun H6 h6 l6 u6 => ?_)
    exact k H6 h6 (((((u1.trans u2).trans u3).trans u4).trans u5).trans u6)
theorem ok_Node_init {f : Addr} {fd : FuncData} (F : Fun K "__init__" "Node.__init__" s_Node_init f fd) (T : Txt K mg c)  : FnOk P w K mg base CX0 1 f fd ["self"] (sp_Node_init c) := by
  refine F.ok sc_Node_init (fun vs H Q E h => ?_) (fun cdv A outer s H vs Q E hr h => ?_)
  · obtain ⟨p, dx, rfl, _⟩ := h
    rfl
  · obtain ⟨p, dx, rfl, hp, k⟩ := h
    refine ⟨_, (pss_cons (ps_fld (pv 0) pe_bl rfl)
    (pss_cons (ps_fld (pv 0) pe_int rfl)
    (pss_cons (ps_fld (pv 0) pe_int rfl)
    (pss_cons (ps_fld (pv 0) (pe_gint rfl T.g_NOBODY) rfl)
    (pss_cons (ps_fld (pv 0) pe_int rfl)
    (pss_cons (ps_fld (pv 0) (pe_gint rfl T.g_FOLLOWS) rfl)
    (pss_cons (ps_fld (pv 0) pe_non rfl)
    (pss_cons (ps_fld (pv 0) pe_int rfl)
    (pss_cons (ps_fld (pv 0) pe_non rfl)
    (pss_cons (ps_fld (pv 0) (pe_lst pa_nil) rfl)
    (pss_cons (ps_fld (pv 0) pe_int rfl)
    (pss_cons (ps_fld (pv 0) pe_int rfl)
    (pss_cons (ps_fld (pv 0) (pe_lst pa_nil) rfl)
    (pss_one (ps_fld (pv 0) pe_int rfl))))))))))))))), ?_⟩
    walk_at "go"
    refine rd_stI hp (m := 0) (Nat.le_refl _) T.cN (T.noN _ (by decide +kernel)) (by decide) (fun H1 h1 l1 u1 => ?_)
    walk_at "rd"
    refine rd_stI h1 l1 T.cN (T.noN _ (by decide +kernel)) (by decide) (fun H2 h2 l2 u2 => ?_)
    walk_at "rd"
    refine rd_stI h2 l2 T.cN (T.noN _ (by decide +kernel)) (by decide) (fun H3 h3 l3 u3 => ?_)
    walk_at "rd"
    refine rd_stI h3 l3 T.cN (T.noN _ (by decide +kernel)) (by decide) (fun H4 h4 l4 u4 => ?_)
    walk_at "rd"
    refine rd_stI h4 l4 T.cN (T.noN _ (by decide +kernel)) (by decide) (fun H5 h5 l5 u5 => ?_)
    walk_at "rd"
    refine rd_stI h5 l5 T.cN (T.noN _ (by decide +kernel)) (by decide) (fun H6 h6 l6 u6 => ?_)
    walk_at "rd"
    refine rd_stI h6 l6 T.cN (T.noN _ (by decide +kernel)) (by decide) (fun H7 h7 l7 u7 => ?_)
    walk_at "rd"
    refine rd_stI h7 l7 T.cN (T.noN _ (by decide +kernel)) (by decide) (fun H8 h8 l8 u8 => ?_)
    walk_at "rd"
    refine rd_stI h8 l8 T.cN (T.noN _ (by decide +kernel)) (by decide) (fun H9 h9 l9 u9 => ?_)
    walk_at "rd"
    intro va G1 na ha sa
    walk_at "rd"
    refine rd_stI (sa _ _ h9) l9 T.cN (T.noN _ (by decide +kernel)) (by decide) (fun H10 h10 l10 u10 => ?_)
    walk_at "rd"
    refine rd_stI h10 l10 T.cN (T.noN _ (by decide +kernel)) (by decide) (fun H11 h11 l11 u11 => ?_)
    walk_at "rd"
    refine rd_stI h11 l11 T.cN (T.noN _ (by decide +kernel)) (by decide) (fun H12 h12 l12 u12 => ?_)
    walk_at "rd"
    intro ga G2 nb hb sb
    walk_at "rd"
    refine rd_stI (sb _ _ h12) l12 T.cN (T.noN _ (by decide +kernel)) (by decide) (fun H13 h13 l13 u13 => ?_)
    walk_at "rd"
    refine rd_stI h13 l13 T.cN (T.noN _ (by decide +kernel)) (by decide) (fun H14 h14 l14 u14 => ?_)
    have ua : Pres p H H9 := (((((((u1.trans u2).trans u3).trans u4).trans u5).trans u6).trans u7).trans u8).trans u9
    have ub : Pres p G1 H12 := (u10.trans u11).trans u12
    have uc : Pres p G2 H14 := u13.trans u14
    have n1 : va ≠ p := fun q => by rw [q, h9] at na; cases na
    have n2 : ga ≠ p := fun q => by rw [q, h12] at nb; cases nb
    have ha2 : H12 va = some (.lst []) := ub _ _ ha n1
    have n3 : va ≠ ga := ne_of_none ha2 nb
    refine k H14 va ga h14 ?_ ?_ n3 (uc _ _ (sb _ _ ha2) n1) (uc _ _ hb n2) (((ua.trans (.same sa)).trans ub).trans ((Pres.same sb).trans uc))
    · cases e : H va with
      | none => rfl
      | some o => rw [ua _ _ e n1] at na; cases na
    · cases e : H ga with
      | none => rfl
      | some o => rw [ub _ _ (sa _ _ (ua _ _ e n2)) n2] at nb; cases nb
theorem ok_is_bound {f : Addr} {fd : FuncData} (F : Fun K "is_bound" "is_bound" s_is_bound f fd) (T : Txt K mg c)  : FnOk P w K mg base CX0 1 f fd ["node", "against"] (sp_is_bound c) := by
  refine F.ok sc_is_bound (fun vs H Q E h => ?_) (fun cdv A outer s H vs Q E hr h => ?_)
  · obtain ⟨lab, i, p, n, x, rfl, _⟩ := h
    rfl
  · obtain ⟨lab, i, p, n, x, rfl, ⟨lb, dx, pr, wv, va, ga, hN, hP, _⟩, k⟩ := h
    refine ⟨_, (pss_cons (ps_if (pt_cmpR op_lt (pe_fld (pv 0) rfl) (pe_fld (pv 0) rfl) (nomark _))
    (pss_one (ps_ret pe_bl))
    pss_nil)
    (pss_cons (ps_if (pt_cmpR op_isN (pe_fld (pv 0) rfl) pe_non (nomark _))
    (pss_one (ps_ret pe_bl))
    pss_nil)
    (pss_one (ps_ret (pe_and (pe_cmpR op_ne (pe_fld (pe_fld (pv 0) rfl) rfl) (pv 1) (nomark _)) (pe_one (pe_cmpR op_lt (pe_fld (pv 0) rfl) (pe_fld (pe_fld (pv 0) rfl) rfl) (nomark _)))))))), ?_⟩
    walk_at "go"
    unfold Ag03.bound at k
    refine ite_dec (fun h => ?_) (fun h => ?_)
    · walk_at "rd"
      rw [decide_eq_true (show n.clock < n.still by omega)] at k
      exact k
    · walk_at "rd"
      rw [decide_eq_false (show ¬ n.clock < n.still by omega), Bool.false_or] at k
      cases e : n.promise with
      | none =>
        rw [e] at hP k
        have hP : pr = .non := hP
        subst hP
        walk_at "rd"
        exact k
      | some q =>
        rw [e] at hP k
        obtain ⟨a, dx', rfl, _, hq⟩ := hP
        dsimp only at k
        walk_at "rd"
        refine ite_ndec (fun h1 => ?_) (fun h1 => ?_)
        · walk_at "rd"
          have e1 : (q.to_ != x) = true := bne_iff_ne.mpr fun z => h1 (by rw [z])
          rw [e1, Bool.true_and] at k
          have e2 : decide (n.clock < q.until_) = decide ((n.clock : Int) < (q.until_ : Int)) := decide_eq_decide.mpr (by omega)
          rw [e2] at k
          exact k
        · have e1 : (q.to_ != x) = false := by
            have : q.to_ = x := by omega
            simp [this]
          rw [e1, Bool.false_and] at k
          exact k
theorem ok_span_of {f : Addr} {fd : FuncData} (F : Fun K "span_of" "span_of" s_span_of f fd) (T : Txt K mg c)  : FnOk P w K mg base CX0 1 f fd ["wrong", "long"] (sp_span_of c) := by
  refine F.ok sc_span_of (fun vs H Q E h => ?_) (fun cdv A outer s H vs Q E hr h => ?_)
  · obtain ⟨w, l, rfl, _⟩ := h
    rfl
  · obtain ⟨w, l, rfl, hw, hl, k⟩ := h
    refine ⟨_, (pss_one (ps_ret (pe_op op_fdiv (pe_op op_mul (pv 1) (pe_op op_sub pe_int (pv 0))) (pe_op op_add pe_int (pv 0))))), ?_⟩
    walk_at "go"
    refine ⟨_, _, rfl, rfl, .inl ⟨by omega, by omega⟩, ?_⟩
    walk_at "rd"
    refine ⟨_, _, rfl, rfl, ⟨by omega, by omega⟩, ?_⟩
    have e : ((l * (1000 - w) / (1000 + w) : Nat) : Int) = (l : Int) * (1000 - (w : Int)) / (1000 + (w : Int)) := by
      rw [Int.natCast_ediv, Int.natCast_mul, Int.natCast_sub (by omega)]
      rfl
    show Q (V.int (_ / _)) H
    rw [← e]
    exact k
end
end Hfs
namespace Hfs
open PySem PySem.Spec PyProof.Rows L2
set_option hygiene false in
local macro_rules | `(tactic| walk_at "rd") => `(tactic| repeat (first
  | (with_reducible refine rd_seq ?_) | (with_reducible refine rd_next ?_) | (with_reducible refine rd_asg ?_) | (with_reducible refine rd_ret ?_) | (with_reducible refine rd_retN ?_) | (with_reducible refine rd_drop ?_)
  | (with_reducible refine rd_ifS ?_) | (with_reducible refine rd_test ?_) | (with_reducible refine rd_tB ?_) | (with_reducible refine rd_not ?_) | (with_reducible refine rd_and ?_) | (with_reducible refine rd_or ?_)
  | (with_reducible refine rd_andV ?_) | (with_reducible refine rd_orV ?_) | (with_reducible refine rd_notV ?_) | (with_reducible refine rd_if ?_) | (with_reducible refine rd_op ?_) | (with_reducible refine rd_I0 ?_)
  | (with_reducible refine rd_eqI ?_) | (with_reducible refine rd_neI ?_) | (with_reducible refine rd_eqB ?_) | (with_reducible refine rd_nil ?_) | (with_reducible refine rd_cons ?_) | (with_reducible refine rd_call ?_)
  | (with_reducible refine rd_cb ?_) | (with_reducible refine rd_fld ?_) | (with_reducible refine rd_sfld ?_) | (with_reducible refine rd_lst ?_) | (with_reducible refine rd_make ?_) | (with_reducible refine rd_c ?_)
  | (with_reducible refine rd_bm ?_) | (with_reducible refine rd_for ?_) | (with_reducible refine rd_rng1 ?_) | (with_reducible refine rd_gname ?_)
  | ((with_reducible refine' And.intro (tyL ?h1) ?_); (case h1 => assumption))
  | ((with_reducible refine' rd_len ?h1 ?_); (case h1 => assumption))
  | (refine ⟨_, _, (rfl : [V.int _, V.int _] = [V.int _, V.int _]), ?_⟩) | (with_reducible refine rd_ilist ?_) | (with_reducible refine rd_lc ?_) | (with_reducible refine rd_yes ?_) | (with_reducible refine rd_chain ?_)
  | ((with_reducible refine' rd_ilistR ?h1 ?_); (case h1 => assumption))
  | ((with_reducible refine' rd_in ?h1 ?_); (case h1 => assumption)) | (with_reducible refine rd_eqVn ?_) | (with_reducible refine rd_eqVs ?_)
  | (with_reducible refine rd_bl ?_) | (with_reducible refine And.intro (rfl : V.non = V.non) ?_) | (with_reducible refine iteT ?_) | (with_reducible refine iteF ?_)
  | (with_reducible refine ite_rn ?_) | (with_reducible refine ite_nn ?_) | (with_reducible refine ite_nrn ?_) | (with_reducible refine ite_nnn ?_)
  | ((with_reducible refine' rd_var ?h1 ?_); (case h1 => rfl))
  | ((with_reducible refine' rd_fN T ?h1 ?h2 ?h3 ?_); (case h1 => assumption); (case h2 => rfl); (case h3 => decide +kernel))
  | ((with_reducible refine' rd_fW T ?h1 ?h2 ?h3 ?_); (case h1 => assumption); (case h2 => rfl); (case h3 => decide +kernel))
  | ((with_reducible refine' rd_fL T ?h1 ?h2 ?h3 ?_); (case h1 => assumption); (case h2 => rfl); (case h3 => decide +kernel))
  | ((with_reducible refine' rd_fP T ?h1 ?h2 ?h3 ?_); (case h1 => assumption); (case h2 => rfl); (case h3 => decide +kernel))
  | ((with_reducible refine' rd_ixL ?h1 ?h2 ?_); (case h1 => assumption); (case h2 => assumption))
  | ((with_reducible refine' rd_stN T ?h1 ?h2 ?h3 ?_); (case h1 => assumption); (case h2 => rfl); (case h3 => decide +kernel))
  | ((with_reducible refine' rd_stW T ?h1 ?h2 ?h3 ?_); (case h1 => assumption); (case h2 => rfl); (case h3 => decide +kernel))
  | ((with_reducible refine' rd_lstR ?h1 ?_); (case h1 => first | (show 0 ≤ sizeLine; decide +kernel) | (show 1 ≤ sizeLine; decide +kernel) | (show 2 ≤ sizeLine; decide +kernel) | (show 3 ≤ sizeLine; decide +kernel) | (show 4 ≤ sizeLine; decide +kernel) | (show 5 ≤ sizeLine; decide +kernel) | (show 6 ≤ sizeLine; decide +kernel)))
  | (with_reducible refine rd_tup ?_) | ((with_reducible refine' rd_tupR ?h1 ?_); (case h1 => (show 2 ≤ sizeLine; decide +kernel)))
  | (with_reducible refine rd_asgG ?_) | (with_reducible refine rd_gsub ?_) | (with_reducible refine rd_sl ?_) | (with_reducible refine rd_nopart ?_) | (with_reducible refine rd_part ?_) | (with_reducible refine rd_pint ?_) | (with_reducible refine rd_enum ?_)
  | ((with_reducible refine' rd_ix0 ?h1 ?_); (case h1 => assumption)) | ((with_reducible refine' rd_ix1 ?h1 ?_); (case h1 => assumption)) | ((with_reducible refine' rd_ix2 ?h1 ?_); (case h1 => assumption))
  | (with_reducible refine ite_bit ?_)))
set_option hygiene false in
local macro_rules | `(tactic| walk_at "go") => `(tactic| ((try simp only [cxK]); walk_at "rd"))
set_option hygiene false in
local macro_rules | `(tactic| walk_at "lit") => `(tactic| ((repeat (walk_at "rd"; first | (refine ite_decF (by decide) ?_) | (refine ite_decT (by decide) ?_))); walk_at "rd"))
section
variable {P : Program} {w : World} {K : PySem.W.Frag} {mg : Str → Option Value} {base : Heap} {c : Cs}
theorem ok_is_most {f : Addr} {fd : FuncData} (F : Fun K "is_most" "is_most" s_is_most f fd) (T : Txt K mg c)  : FnOk P w K mg base CX0 1 f fd ["world", "members"] (sp_is_most c) := by
  refine F.ok sc_is_most (fun vs H Q E h => ?_) (fun cdv A outer s H vs Q E hr h => ?_)
  · obtain ⟨lab, w, ns, s, a, l, rfl, _⟩ := h
    rfl
  · obtain ⟨lab, w, ns, s, a, l, rfl, R, hA, hM, k⟩ := h
    obtain ⟨dw, wl, nl, rl, ls, ll, ts, W⟩ := R.wd
    have hW := W.ob
    refine ⟨_, (pss_cons (ps_set (i := 2) sc_is_most.nd rfl (Or.inl rfl) (pe_callB (cr_sum rfl) (by rfl) T.b_sum (by decide +kernel) (pa_cons (pe_lc (own := [("member", 3)]) (g := (gName 3)) (tt := tYes) (te := (tOp (rIxL K) (tFld K (tVar 0) "weights") (tVar 3))) rfl sc_is_most.nd (pi_list (pv 1)) (blkOk_by (own := [("member", 3)]) (N := N_is_most) (sc := defScope s_is_most) (by decide +kernel)) (fun _ _ _ _ _ => (pg_name (i := 3) sc_is_most.nd rfl (Or.inl rfl))) (fun _ _ _ _ _ => pts_nil) (fun _ _ _ _ _ => (pe_ix ix_list (pe_fld (pv 0) rfl) (pv 3) (fun _ _ => rfl)))) pa_nil)))
    (pss_one (ps_ret (pe_cmpR op_gt (pe_op op_mul pe_int (pv 2)) (pe_callB (cr_sum rfl) (by rfl) T.b_sum (by decide +kernel) (pa_cons (pe_fld (pv 0) rfl) pa_nil)) (nomark _))))), ?_⟩
    walk_at "go"
    have I := R.inv
    have hlt : ∀ (i : Nat) (x : V), (l.map vn)[i]? = some x → ∃ m, l[i]? = some m ∧ x = vn m ∧ m < s.nodes.length := fun i x hx => by
      rw [List.getElem?_map] at hx
      cases e : l[i]? with
      | none => rw [e] at hx; cases hx
      | some m => rw [e] at hx; cases hx; exact ⟨m, rfl, rfl, hM.lt m (List.mem_of_getElem? e)⟩
    refine rd_lcM (ys := (l.map fun i => s.weights.getD i 0).map vn) hA (by simp) ?_ (fun _ => rfl) ?_ ?_
    · rw [List.length_map]
      have := hM.len
      have := I.five
      omega
    · intro i x y H' hx hy s1 QQ kk
      obtain ⟨m, hm, rfl, lm⟩ := hlt i x hx
      have hW' := s1 _ _ hW
      have hwl := s1 _ _ W.wl
      walk_at "rd"
      refine rd_ixL (n := m) (v := vn (s.weights.getD m 0)) hwl ?_ ?_
      · have hm' : m < s.weights.length := by rw [I.wl]; exact lm
        rw [List.getElem?_map, List.getElem?_eq_getElem hm', List.getD_eq_getElem?_getD, List.getElem?_eq_getElem hm']
        rfl
      · have e : y = vn (s.weights.getD m 0) := by
          rw [List.getElem?_map, List.getElem?_map, hm] at hy
          exact (Option.some.inj hy).symm
        rw [← e]
        exact kk
    · intro D H' hD hd s1
      rw [map_vn] at hd
      have hW' := s1 _ _ hW
      have hwl := s1 _ _ W.wl
      rw [map_vn] at hwl
      walk_at "rd"
      refine rd_sum hd ?_
      walk_at "rd"
      refine ⟨_, _, rfl, rfl, .inl ⟨by decide, by decide⟩, ?_⟩
      walk_at "rd"
      refine rd_sum hwl ?_
      walk_at "rd"
      rw [sum_cast, sum_cast]
      have e : decide (((s.weights.sum : Nat) : Int) < 2 * (((l.map fun i => s.weights.getD i 0).sum : Nat) : Int)) = Ag03.most s l := by
        unfold Ag03.most
        rw [sum_eq, weigh_eq s hM.nd hM.lt]
        exact decide_eq_decide.mpr (by omega)
      rw [e]
      exact k H' s1
theorem ok_hear_of_term {f : Addr} {fd : FuncData} (F : Fun K "hear_of_term" "hear_of_term" s_hear_of_term f fd) (T : Txt K mg c)  : FnOk P w K mg base CX0 1 f fd ["node", "term"] (sp_hear_of_term c) := by
  refine F.ok sc_hear_of_term (fun vs H Q E h => ?_) (fun cdv A outer s H vs Q E hr h => ?_)
  · obtain ⟨lab, w, ns, s, i, p, t, rfl, _⟩ := h
    rfl
  · obtain ⟨lab, w, ns, s, i, p, t, rfl, R, hp, k⟩ := h
    obtain ⟨dx, pr, wv, va, ga, hN, hP, hW, lv, hV, lg, hG, d1, d2, d3⟩ := (R.nd i p hp).apart
    have lp := (R.nd i p hp).lb
    refine ⟨_, (pss_one (ps_if (pt_cmpR op_gt (pv 1) (pe_fld (pv 0) rfl) (nomark _))
    (pss_cons (ps_fld (pv 0) (pv 1) rfl)
    (pss_cons (ps_fld (pv 0) (pe_gint rfl T.g_NOBODY) rfl)
    (pss_cons (ps_fld (pv 0) (pe_gint rfl T.g_FOLLOWS) rfl)
    (pss_cons (ps_fld (pv 0) pe_non rfl)
    (pss_cons (ps_fld (pv 0) (pe_lst pa_nil) rfl)
    (pss_cons (ps_fld (pv 0) (pe_lst pa_nil) rfl)
    (pss_one (ps_fld (pv 0) pe_int rfl))))))))
    pss_nil)), ?_⟩
    walk_at "go"
    unfold Ag03.hear at k
    refine ite_dec (fun h => ?_) (fun h => ?_)
    · rw [if_pos (show (Ag03.node s i).term < t by omega)] at k
      walk_at "rd"
      intro H1 h1 u1
      walk_at "rd"
      intro H2 h2 u2
      walk_at "rd"
      intro H3 h3 u3
      walk_at "rd"
      intro H4 h4 u4
      walk_at "rd"
      intro qv G1 nv hv sv
      have h4' := sv _ _ h4
      walk_at "rd"
      intro H5 h5 u5
      walk_at "rd"
      intro qg G2 ng hg sg
      have h5' := sg _ _ h5
      walk_at "rd"
      intro H6 h6 u6
      walk_at "rd"
      intro H7 h7 u7
      have n1 : qv ≠ p := fun q => by rw [q, h4] at nv; cases nv
      have n2 : qg ≠ p := fun q => by rw [q, h5] at ng; cases ng
      have ua : Pres p H H4 := ((u1.trans u2).trans u3).trans u4
      have ub : Pres p H H5 := (ua.trans (.same sv)).trans u5
      have uc : Pres p H H7 := ((ub.trans (.same sg)).trans u6).trans u7
      have hv5 := u5 _ _ hv n1
      refine R.shut hp uc (n := { Ag03.node s i with term := t, voted := none, role := 0, would := none, votes := [], given := [], holds := 0 }) (pr := pr) (wv := .non) h7 (.old hP uc (by rw [lp]; exact fun q => nomatch q)) rfl ⟨.inl (ua.free nv n1), u7 _ _ (u6 _ _ (sg _ _ hv5) n1) n1⟩ ⟨.inl (ub.free ng n2), u7 _ _ (u6 _ _ hg n2) n2⟩ (ne_of_none hv5 ng) (fun q => nomatch q) (fun q => nomatch q) ⟨(fun l h => none_ne h), Mem.nil, Mem.nil⟩ (fun lab' R' K' => k lab' H7 R' K')
    · rw [if_neg (show ¬ (Ag03.node s i).term < t by omega), set_self] at k
      exact k lab H R .refl
theorem ok_send {f : Addr} {fd : FuncData} (F : Fun K "send" "send" s_send f fd) (T : Txt K mg c)  : FnOk P w K mg base CX0 1 f fd ["world", "letter"] (sp_send c) := by
  refine F.ok sc_send (fun vs H Q E h => ?_) (fun cdv A outer s H vs Q E hr h => ?_)
  · obtain ⟨lab, w, ns, s, a, x, rfl, _⟩ := h
    rfl
  · obtain ⟨lab, w, ns, s, a, x, rfl, R, hA, hM, k⟩ := h
    obtain ⟨dw, wl, nl, rl, ls, ll, ts, W⟩ := R.wd
    have hW := W.ob
    have hL := W.rl
    have hlen : (ls.map V.ref).length = s.letters.length := by rw [List.length_map]; exact W.lets.len
    have I := R.inv
    refine ⟨_, (pss_one (ps_if (pt_cmpR op_lt (pe_callB call_len_seq (by rfl) T.b_len PySem.boot_len (pa_cons (pe_fld (pv 0) rfl) pa_nil)) (pe_gint rfl T.g_ROOM) (nomark _))
    (pss_one (ps_expr (pe_bm PySem.F.plainAttrs_list PySem.F.slot_list_append PySem.F.type_list_append mt_append (pe_fld (pv 0) rfl) (pa_cons (pv 1) pa_nil))))
    pss_nil)), ?_⟩
    walk_at "go"
    refine ite_dec (fun h => ?_) (fun h => ?_)
    · have hl : s.letters.length < 100 := by rw [hlen] at h; omega
      rw [send_one_room hl] at k
      walk_at "rd"
      refine rd_app hL (by rw [hlen]; exact small1000 (by omega)) (fun H' h' u => ?_)
      have kp : Keep (fun t => t = .row) lab H lab H' := .pres u W.lrl ⟨_, h'⟩
      have hA' := hA.keep kp (fun q => nomatch q)
      refine k lab H' (R.rowed (ls' := ls ++ [a]) W kp (by rw [List.map_append]; exact h') ?_ ?_) (kp.mono fun t q => by rw [q]; exact trivial)
      · refine ⟨by rw [List.length_append, List.length_append, W.lets.len]; rfl, fun j b y e1 e2 => ?_⟩
        by_cases q : j < ls.length
        · rw [List.getElem?_append_left q] at e1
          rw [List.getElem?_append_left (by rw [← W.lets.len]; exact q)] at e2
          exact (W.lets.at_ j b y e1 e2).keep kp (fun q => nomatch q)
        · rw [List.getElem?_append_right (by omega)] at e1
          rw [List.getElem?_append_right (by rw [← W.lets.len]; omega), ← W.lets.len] at e2
          cases ej : j - ls.length with
          | zero =>
            rw [ej] at e1 e2
            cases e1
            cases e2
            exact hA'
          | succ m => rw [ej] at e1; cases e1
      · have J := I.send1 hM
        rw [send_one_room hl] at J
        exact J
    · walk_at "rd"
      rw [send_one_full (by rw [hlen] at h; omega), List.take_of_length_le I.room] at k
      exact k lab H R .refl
end
end Hfs
namespace Hfs
open PySem PySem.Spec PyProof.Rows L2
set_option hygiene false in
local macro_rules | `(tactic| walk_at "rd") => `(tactic| repeat (first
  | (with_reducible refine rd_seq ?_) | (with_reducible refine rd_next ?_) | (with_reducible refine rd_asg ?_) | (with_reducible refine rd_ret ?_) | (with_reducible refine rd_retN ?_) | (with_reducible refine rd_drop ?_)
  | (with_reducible refine rd_ifS ?_) | (with_reducible refine rd_test ?_) | (with_reducible refine rd_tB ?_) | (with_reducible refine rd_not ?_) | (with_reducible refine rd_and ?_) | (with_reducible refine rd_or ?_)
  | (with_reducible refine rd_andV ?_) | (with_reducible refine rd_orV ?_) | (with_reducible refine rd_notV ?_) | (with_reducible refine rd_if ?_) | (with_reducible refine rd_op ?_) | (with_reducible refine rd_I0 ?_)
  | (with_reducible refine rd_eqI ?_) | (with_reducible refine rd_neI ?_) | (with_reducible refine rd_eqB ?_) | (with_reducible refine rd_nil ?_) | (with_reducible refine rd_cons ?_) | (with_reducible refine rd_call ?_)
  | (with_reducible refine rd_cb ?_) | (with_reducible refine rd_fld ?_) | (with_reducible refine rd_sfld ?_) | (with_reducible refine rd_lst ?_) | (with_reducible refine rd_make ?_) | (with_reducible refine rd_c ?_)
  | (with_reducible refine rd_bm ?_) | (with_reducible refine rd_for ?_) | (with_reducible refine rd_rng1 ?_) | (with_reducible refine rd_gname ?_)
  | ((with_reducible refine' And.intro (tyL ?h1) ?_); (case h1 => assumption))
  | ((with_reducible refine' rd_len ?h1 ?_); (case h1 => assumption))
  | (refine ⟨_, _, (rfl : [V.int _, V.int _] = [V.int _, V.int _]), ?_⟩) | (with_reducible refine rd_ilist ?_) | (with_reducible refine rd_lc ?_) | (with_reducible refine rd_yes ?_) | (with_reducible refine rd_chain ?_)
  | ((with_reducible refine' rd_ilistR ?h1 ?_); (case h1 => assumption))
  | ((with_reducible refine' rd_in ?h1 ?_); (case h1 => assumption)) | (with_reducible refine rd_eqVn ?_) | (with_reducible refine rd_eqVs ?_)
  | (with_reducible refine rd_bl ?_) | (with_reducible refine And.intro (rfl : V.non = V.non) ?_) | (with_reducible refine iteT ?_) | (with_reducible refine iteF ?_)
  | (with_reducible refine ite_rn ?_) | (with_reducible refine ite_nn ?_) | (with_reducible refine ite_nrn ?_) | (with_reducible refine ite_nnn ?_)
  | ((with_reducible refine' rd_var ?h1 ?_); (case h1 => rfl))
  | ((with_reducible refine' rd_fN T ?h1 ?h2 ?h3 ?_); (case h1 => assumption); (case h2 => rfl); (case h3 => decide +kernel))
  | ((with_reducible refine' rd_fW T ?h1 ?h2 ?h3 ?_); (case h1 => assumption); (case h2 => rfl); (case h3 => decide +kernel))
  | ((with_reducible refine' rd_fL T ?h1 ?h2 ?h3 ?_); (case h1 => assumption); (case h2 => rfl); (case h3 => decide +kernel))
  | ((with_reducible refine' rd_fP T ?h1 ?h2 ?h3 ?_); (case h1 => assumption); (case h2 => rfl); (case h3 => decide +kernel))
  | ((with_reducible refine' rd_ixL ?h1 ?h2 ?_); (case h1 => assumption); (case h2 => assumption))
  | ((with_reducible refine' rd_stN T ?h1 ?h2 ?h3 ?_); (case h1 => assumption); (case h2 => rfl); (case h3 => decide +kernel))
  | ((with_reducible refine' rd_stW T ?h1 ?h2 ?h3 ?_); (case h1 => assumption); (case h2 => rfl); (case h3 => decide +kernel))
  | ((with_reducible refine' rd_lstR ?h1 ?_); (case h1 => first | (show 0 ≤ sizeLine; decide +kernel) | (show 1 ≤ sizeLine; decide +kernel) | (show 2 ≤ sizeLine; decide +kernel) | (show 3 ≤ sizeLine; decide +kernel) | (show 4 ≤ sizeLine; decide +kernel) | (show 5 ≤ sizeLine; decide +kernel) | (show 6 ≤ sizeLine; decide +kernel)))
  | (with_reducible refine rd_tup ?_) | ((with_reducible refine' rd_tupR ?h1 ?_); (case h1 => (show 2 ≤ sizeLine; decide +kernel)))
  | (with_reducible refine rd_asgG ?_) | (with_reducible refine rd_gsub ?_) | (with_reducible refine rd_sl ?_) | (with_reducible refine rd_nopart ?_) | (with_reducible refine rd_part ?_) | (with_reducible refine rd_pint ?_) | (with_reducible refine rd_enum ?_)
  | ((with_reducible refine' rd_ix0 ?h1 ?_); (case h1 => assumption)) | ((with_reducible refine' rd_ix1 ?h1 ?_); (case h1 => assumption)) | ((with_reducible refine' rd_ix2 ?h1 ?_); (case h1 => assumption))
  | (with_reducible refine ite_bit ?_)))
set_option hygiene false in
local macro_rules | `(tactic| walk_at "go") => `(tactic| ((try simp only [cxK]); walk_at "rd"))
set_option hygiene false in
local macro_rules | `(tactic| walk_at "lit") => `(tactic| ((repeat (walk_at "rd"; first | (refine ite_decF (by decide) ?_) | (refine ite_decT (by decide) ?_))); walk_at "rd"))
section
variable {P : Program} {w : World} {K : PySem.W.Frag} {mg : Str → Option Value} {base : Heap} {c : Cs}
theorem ok_send_to_others {f : Addr} {fd : FuncData} (F : Fun K "send_to_others" "send_to_others" s_send_to_others f fd) (T : Txt K mg c) (O_send : Ok P w K mg base "send" 1 ["world", "letter"] (sp_send c)) (M_Letter : MkOk P w K mg base "Letter" c.CL 1 ["self", "kind", "whom", "sender", "term", "number", "yes"] (sp_Letter_init c)) : FnOk P w K mg base CX0 3 f fd ["world", "sender", "kind", "term", "number", "yes_to"] (sp_send_to_others c) := by
  refine F.ok sc_send_to_others (fun vs H Q E h => ?_) (fun cdv A outer s H vs Q E hr h => ?_)
  · obtain ⟨lab, w, ns, s, i, k, t, m, y, rfl, _⟩ := h
    rfl
  · obtain ⟨lab, w, ns, s, i, kk, t, m, y, rfl, R, hi, hk, k⟩ := h
    obtain ⟨dw, wl, nl, rl, ls, ll, ts, W⟩ := R.wd
    have hW := W.ob
    have hL := W.nl
    have I := R.inv
    refine ⟨_, (pss_one (ps_for PassesOwn.never rfl (pi_range1 (by rfl) T.b_range (pa_cons (pe_callB call_len_seq (by rfl) T.b_len PySem.boot_len (pa_cons (pe_fld (pv 0) rfl) pa_nil)) pa_nil)) (pg_name (i := 6) sc_send_to_others.nd rfl (Or.inl rfl))
    (pss_one (ps_if (pt_cmpR op_ne (pv 6) (pv 1) (nomark _))
    (pss_one (ps_expr (pe_ok O_send hr (by decide) rfl (pa_cons (pv 0) (pa_cons (pe_mk M_Letter hr (by decide) rfl (pa_cons (pv 2) (pa_cons (pv 6) (pa_cons (pv 1) (pa_cons (pv 3) (pa_cons (pv 4) (pa_cons (pe_cmpR op_eq (pv 6) (pv 5) (nomark _)) pa_nil))))))) pa_nil)))))
    pss_nil)))), ?_⟩
    walk_at "go"
    have hlen : (ns.map V.ref).length = s.nodes.length := by rw [List.length_map]; exact R.len
    rw [hlen]
    have h5 := I.five
    refine ⟨_, rfl, by omega, by omega, ?_⟩
    let g : Nat → Ag03.Letter := fun (j : Nat) => ⟨kk, j, i, t, m, decide ((j : Int) = y)⟩
    refine for_range (lo := 0) (n := s.nodes.length) (fun j σ H' => ∃ (v : Option V) (lab' : Lab), σ = [some (.ref w), some (vn i), some (vn kk), some (vn t), some (vn m), some (.int y), v] ∧ Rep c lab' H' w ns (Ag03.send s (((List.range j).filter fun (a : Nat) => a != i).map g)) ∧ Keep Tag.any lab H lab' H')
      ⟨none, lab, rfl, by rw [List.range_zero, List.filter_nil, List.map_nil, send_nil I.room]; exact R, .refl⟩ ?_ ?_
    · rintro j σ H' hj ⟨v, lab', rfl, R', K'⟩
      rw [Int.zero_add]
      have er : (List.range (j + 1)).filter (fun (a : Nat) => a != i) = (List.range j).filter (fun (a : Nat) => a != i) ++ (if j = i then [] else [j]) := by
        rw [List.range_succ, List.filter_append, List.filter_cons, List.filter_nil]
        by_cases q : j = i
        · rw [if_pos q, if_neg (by rw [q]; simp)]
        · rw [if_neg q, if_pos (by simpa using q)]
      walk_at "rd"
      refine ite_ndec (fun q => ?_) (fun q => ?_)
      · have q' : ¬ j = i := fun z => q (by rw [z])
        walk_at "rd"
        refine rd_mkL fun a dx H1 na ha sa => ?_
        walk_at "rd"
        refine ⟨relab lab' a .free, w, ns, _, a, g j, rfl, R'.alloc na sa, ⟨dx, relab_same, ha⟩, ⟨hk, hj, hi⟩, fun lab2 H2 R2 K2 => ?_⟩
        walk_at "rd"
        refine ⟨some (vn j), lab2, rfl, ?_, (K'.trans (.alloc na sa)).trans K2⟩
        rw [er, if_neg q', List.map_append, ← send_app]
        exact R2
      · have q' : j = i := by omega
        walk_at "rd"
        refine ⟨some (vn j), lab', rfl, ?_, K'⟩
        rw [er, if_pos q', List.append_nil]
        exact R'
    · rintro σ H' ⟨v, lab', rfl, R', K'⟩
      walk_at "rd"
      exact k lab' H' R' K'
theorem ok_reply {f : Addr} {fd : FuncData} (F : Fun K "reply" "reply" s_reply f fd) (T : Txt K mg c) (O_send : Ok P w K mg base "send" 1 ["world", "letter"] (sp_send c)) (M_Letter : MkOk P w K mg base "Letter" c.CL 1 ["self", "kind", "whom", "sender", "term", "number", "yes"] (sp_Letter_init c)) : FnOk P w K mg base CX0 3 f fd ["world", "letter", "kind", "term", "number", "yes"] (sp_reply c) := by
  refine F.ok sc_reply (fun vs H Q E h => ?_) (fun cdv A outer s H vs Q E hr h => ?_)
  · obtain ⟨lab, w, ns, s, a, x, k, t, m, y, rfl, _⟩ := h
    rfl
  · obtain ⟨lab, w, ns, s, a, x, kk, t, m, y, rfl, R, ⟨dl, la, hA⟩, hM, hk, k⟩ := h
    refine ⟨_, (pss_cons (ps_expr (pe_ok O_send hr (by decide) rfl (pa_cons (pv 0) (pa_cons (pe_mk M_Letter hr (by decide) rfl (pa_cons (pv 2) (pa_cons (pe_fld (pv 1) rfl) (pa_cons (pe_fld (pv 1) rfl) (pa_cons (pv 3) (pa_cons (pv 4) (pa_cons (pv 5) pa_nil))))))) pa_nil))))
    (pss_one (ps_ret (pe_gint rfl T.g_ANSWERED)))), ?_⟩
    walk_at "go"
    refine rd_mkL fun b dx H1 na ha sa => ?_
    walk_at "rd"
    refine ⟨relab lab b .free, w, ns, _, b, ⟨kk, x.from_, x.to_, t, m, y⟩, rfl, R.alloc na sa, ⟨dx, relab_same, ha⟩, ⟨hk, hM.from_, hM.to_⟩, fun lab2 H2 R2 K2 => ?_⟩
    walk_at "rd"
    exact k lab2 H2 R2 ((Keep.alloc na sa).trans K2)
theorem ok_ask_if_most_would {f : Addr} {fd : FuncData} (F : Fun K "ask_if_most_would" "ask_if_most_would" s_ask_if_most_would f fd) (T : Txt K mg c) (O_is_most : Ok P w K mg base "is_most" 1 ["world", "members"] (sp_is_most c)) (O_ask : Ok P w K mg base "ask" 4 ["world", "place"] (sp_ask c)) : FnOk P w K mg base CX0 5 f fd ["world", "place"] (sp_ask_if_most_would c) := by
  refine F.ok sc_ask_if_most_would (fun vs H Q E h => ?_) (fun cdv A outer s H vs Q E hr h => ?_)
  · obtain ⟨lab, w, ns, s, i, l, rfl, _⟩ := h
    rfl
  · obtain ⟨lab, w, ns, s, i, l, rfl, R, hi, hlo, hl, k⟩ := h
    obtain ⟨dw, wl, nl, rl, ls, ll, ts, W⟩ := R.wd
    have hW := W.ob
    have hL := W.nl
    obtain ⟨p, hp⟩ := R.at_ hi
    have hp' : (ns.map V.ref)[i]? = some (.ref p) := by rw [List.getElem?_map, hp]; rfl
    obtain ⟨dx, pr, wv, va, ga, hN, hP, hWo, lv, hV, lg, hG, d1, d2, d3⟩ := (R.nd i p hp).apart
    rw [hl] at hWo
    obtain ⟨wa, rfl, lw, hwa⟩ := hWo
    refine ⟨_, (pss_cons (ps_if (pt_val (pe_ok O_is_most hr (by decide) rfl (pa_cons (pv 0) (pa_cons (pe_fld (pe_ix ix_list (pe_fld (pv 0) rfl) (pv 1) (fun _ _ => rfl)) rfl) pa_nil))))
    (pss_one (ps_ret (pe_ok O_ask hr (by decide) rfl (pa_cons (pv 0) (pa_cons (pv 1) pa_nil)))))
    pss_nil)
    (pss_one (ps_ret (pe_gint rfl T.g_NOT_MOST_YET)))), ?_⟩
    walk_at "go"
    refine ⟨lab, w, ns, s, wa, l, rfl, R, hwa, (R.inv.gnode hi).would l hl, fun H' sm => ?_⟩
    walk_at "rd"
    refine ite_b (fun e => ?_) (fun e => ?_)
    · rw [e, if_pos rfl] at k
      walk_at "rd"
      refine ⟨lab, w, ns, s, i, rfl, R.same sm, hi, hlo, fun v lab' H2 e2 R2 K2 => ?_⟩
      exact k v lab' H2 e2 R2 ((Keep.ofSame sm).trans K2)
    · rw [e, if_neg Bool.false_ne_true] at k
      walk_at "rd"
      exact k 2 lab H' rfl (R.same sm) (.ofSame sm)
end
end Hfs
namespace Hfs
open PySem PySem.Spec PyProof.Rows L2
set_option hygiene false in
local macro_rules | `(tactic| walk_at "rd") => `(tactic| repeat (first
  | (with_reducible refine rd_seq ?_) | (with_reducible refine rd_next ?_) | (with_reducible refine rd_asg ?_) | (with_reducible refine rd_ret ?_) | (with_reducible refine rd_retN ?_) | (with_reducible refine rd_drop ?_)
  | (with_reducible refine rd_ifS ?_) | (with_reducible refine rd_test ?_) | (with_reducible refine rd_tB ?_) | (with_reducible refine rd_not ?_) | (with_reducible refine rd_and ?_) | (with_reducible refine rd_or ?_)
  | (with_reducible refine rd_andV ?_) | (with_reducible refine rd_orV ?_) | (with_reducible refine rd_notV ?_) | (with_reducible refine rd_if ?_) | (with_reducible refine rd_op ?_) | (with_reducible refine rd_I0 ?_)
  | (with_reducible refine rd_eqI ?_) | (with_reducible refine rd_neI ?_) | (with_reducible refine rd_eqB ?_) | (with_reducible refine rd_nil ?_) | (with_reducible refine rd_cons ?_) | (with_reducible refine rd_call ?_)
  | (with_reducible refine rd_cb ?_) | (with_reducible refine rd_fld ?_) | (with_reducible refine rd_sfld ?_) | (with_reducible refine rd_lst ?_) | (with_reducible refine rd_make ?_) | (with_reducible refine rd_c ?_)
  | (with_reducible refine rd_bm ?_) | (with_reducible refine rd_for ?_) | (with_reducible refine rd_rng1 ?_) | (with_reducible refine rd_gname ?_)
  | ((with_reducible refine' And.intro (tyL ?h1) ?_); (case h1 => assumption))
  | ((with_reducible refine' rd_len ?h1 ?_); (case h1 => assumption))
  | (refine ⟨_, _, (rfl : [V.int _, V.int _] = [V.int _, V.int _]), ?_⟩) | (with_reducible refine rd_ilist ?_) | (with_reducible refine rd_lc ?_) | (with_reducible refine rd_yes ?_) | (with_reducible refine rd_chain ?_)
  | ((with_reducible refine' rd_ilistR ?h1 ?_); (case h1 => assumption))
  | ((with_reducible refine' rd_in ?h1 ?_); (case h1 => assumption)) | (with_reducible refine rd_eqVn ?_) | (with_reducible refine rd_eqVs ?_)
  | (with_reducible refine rd_bl ?_) | (with_reducible refine And.intro (rfl : V.non = V.non) ?_) | (with_reducible refine iteT ?_) | (with_reducible refine iteF ?_)
  | (with_reducible refine ite_rn ?_) | (with_reducible refine ite_nn ?_) | (with_reducible refine ite_nrn ?_) | (with_reducible refine ite_nnn ?_)
  | ((with_reducible refine' rd_var ?h1 ?_); (case h1 => rfl))
  | ((with_reducible refine' rd_fN T ?h1 ?h2 ?h3 ?_); (case h1 => assumption); (case h2 => rfl); (case h3 => decide +kernel))
  | ((with_reducible refine' rd_fW T ?h1 ?h2 ?h3 ?_); (case h1 => assumption); (case h2 => rfl); (case h3 => decide +kernel))
  | ((with_reducible refine' rd_fL T ?h1 ?h2 ?h3 ?_); (case h1 => assumption); (case h2 => rfl); (case h3 => decide +kernel))
  | ((with_reducible refine' rd_fP T ?h1 ?h2 ?h3 ?_); (case h1 => assumption); (case h2 => rfl); (case h3 => decide +kernel))
  | ((with_reducible refine' rd_ixL ?h1 ?h2 ?_); (case h1 => assumption); (case h2 => assumption))
  | ((with_reducible refine' rd_stN T ?h1 ?h2 ?h3 ?_); (case h1 => assumption); (case h2 => rfl); (case h3 => decide +kernel))
  | ((with_reducible refine' rd_stW T ?h1 ?h2 ?h3 ?_); (case h1 => assumption); (case h2 => rfl); (case h3 => decide +kernel))
  | ((with_reducible refine' rd_lstR ?h1 ?_); (case h1 => first | (show 0 ≤ sizeLine; decide +kernel) | (show 1 ≤ sizeLine; decide +kernel) | (show 2 ≤ sizeLine; decide +kernel) | (show 3 ≤ sizeLine; decide +kernel) | (show 4 ≤ sizeLine; decide +kernel) | (show 5 ≤ sizeLine; decide +kernel) | (show 6 ≤ sizeLine; decide +kernel)))
  | (with_reducible refine rd_tup ?_) | ((with_reducible refine' rd_tupR ?h1 ?_); (case h1 => (show 2 ≤ sizeLine; decide +kernel)))
  | (with_reducible refine rd_asgG ?_) | (with_reducible refine rd_gsub ?_) | (with_reducible refine rd_sl ?_) | (with_reducible refine rd_nopart ?_) | (with_reducible refine rd_part ?_) | (with_reducible refine rd_pint ?_) | (with_reducible refine rd_enum ?_)
  | ((with_reducible refine' rd_ix0 ?h1 ?_); (case h1 => assumption)) | ((with_reducible refine' rd_ix1 ?h1 ?_); (case h1 => assumption)) | ((with_reducible refine' rd_ix2 ?h1 ?_); (case h1 => assumption))
  | (with_reducible refine ite_bit ?_)))
set_option hygiene false in
local macro_rules | `(tactic| walk_at "go") => `(tactic| ((try simp only [cxK]); walk_at "rd"))
set_option hygiene false in
local macro_rules | `(tactic| walk_at "lit") => `(tactic| ((repeat (walk_at "rd"; first | (refine ite_decF (by decide) ?_) | (refine ite_decT (by decide) ?_))); walk_at "rd"))
section
variable {P : Program} {w : World} {K : PySem.W.Frag} {mg : Str → Option Value} {base : Heap} {c : Cs}
theorem rd_ifl {σ : L2.St} {H : Hp} {Q : VK} {b : Bool} {v : V} {i : Nat} (hv : σ[i]? = some (some v)) (k : ∀ p H', H p = none → H' p = some (.lst (if b = true then [] else [v])) → Same H H' → Q (.ref p) H') : if b = true then tLst tNil σ H Q else tLst (tCons (tVar i) tNil) σ H Q := by
  cases b
  · refine iteF (rd_lst (rd_cons (rd_var hv (rd_nil (rd_lstR (by show 1 ≤ sizeLine; decide +kernel) k)))))
  · refine iteT (rd_lst (rd_nil (rd_lstR (by show 0 ≤ sizeLine; decide +kernel) k)))
theorem ok_begin_wish {f : Addr} {fd : FuncData} (F : Fun K "begin_wish" "begin_wish" s_begin_wish f fd) (T : Txt K mg c) (O_send_to_others : Ok P w K mg base "send_to_others" 3 ["world", "sender", "kind", "term", "number", "yes_to"] (sp_send_to_others c)) (O_ask_if_most_would : Ok P w K mg base "ask_if_most_would" 5 ["world", "place"] (sp_ask_if_most_would c)) (O_is_bound : Ok P w K mg base "is_bound" 1 ["node", "against"] (sp_is_bound c)) : FnOk P w K mg base CX0 6 f fd ["world", "place"] (sp_begin_wish c) := by
  refine F.ok sc_begin_wish (fun vs H Q E h => ?_) (fun cdv A outer s H vs Q E hr h => ?_)
  · obtain ⟨lab, w, ns, s, i, rfl, _⟩ := h
    rfl
  · obtain ⟨lab, w, ns, s, i, rfl, R, hi, hlo, k⟩ := h
    obtain ⟨dw, wl, nl, rl, ls, ll, ts, W⟩ := R.wd
    have hW := W.ob
    have hL := W.nl
    obtain ⟨p, hp⟩ := R.at_ hi
    have hp' : (ns.map V.ref)[i]? = some (.ref p) := by rw [List.getElem?_map, hp]; rfl
    obtain ⟨dx, pr, wv, va, ga, hN, hP, hWo, lv, hV, lg, hG, d1, d2, d3⟩ := (R.nd i p hp).apart
    have lp := (R.nd i p hp).lb
    have N := R.inv.gnode hi
    refine ⟨_, (pss_cons (ps_set (i := 2) sc_begin_wish.nd rfl (Or.inl rfl) (pe_ix ix_list (pe_fld (pv 0) rfl) (pv 1) (fun _ _ => rfl)))
    (pss_cons (ps_fld (pv 2) (pe_ifExp (pt_val (pe_ok O_is_bound hr (by decide) rfl (pa_cons (pv 2) (pa_cons (pv 1) pa_nil)))) (pe_lst pa_nil) (pe_lst (pa_cons (pv 1) pa_nil))) rfl)
    (pss_cons (ps_expr (pe_ok O_send_to_others hr (by decide) rfl (pa_cons (pv 0) (pa_cons (pv 1) (pa_cons (pe_gint rfl T.g_WOULD_YOU) (pa_cons (pe_op op_add (pe_fld (pv 2) rfl) pe_int) (pa_cons (pe_fld (pv 2) rfl) (pa_cons (pe_gint rfl T.g_NOBODY) pa_nil))))))))
    (pss_one (ps_ret (pe_ok O_ask_if_most_would hr (by decide) rfl (pa_cons (pv 0) (pa_cons (pv 1) pa_nil)))))))), ?_⟩
    walk_at "go"
    refine ⟨lab, i, p, _, i, rfl, R.nd i p hp, ?_⟩
    walk_at "rd"
    refine rd_ifl (by rfl) fun q H1 nq hq sq => ?_
    have hN1 := sq _ _ hN
    walk_at "rd"
    intro H2 h2 u2
    have eq : (if Ag03.bound (Ag03.node s i) i = true then [] else [vn i]) = (if Ag03.bound (Ag03.node s i) i = true then [] else [i]).map vn := by split <;> rfl
    rw [eq] at hq
    have hl : Mem s.nodes.length (if Ag03.bound (Ag03.node s i) i = true then [] else [i]) := by
      split
      · exact Mem.nil
      · exact Mem.one hi
    have er : Ag03.wish s i = if Ag03.most (Ag03.send (Ag03.setNode s i { Ag03.node s i with would := some (if Ag03.bound (Ag03.node s i) i = true then [] else [i]) }) ((Ag03.others s i).map fun (j : Nat) => ⟨0, j, i, (Ag03.node s i).term + 1, (Ag03.node s i).rank, false⟩)) (if Ag03.bound (Ag03.node s i) i = true then [] else [i]) = true then Ag03.ask (Ag03.send (Ag03.setNode s i { Ag03.node s i with would := some (if Ag03.bound (Ag03.node s i) i = true then [] else [i]) }) ((Ag03.others s i).map fun (j : Nat) => ⟨0, j, i, (Ag03.node s i).term + 1, (Ag03.node s i).rank, false⟩)) i else (Ag03.send (Ag03.setNode s i { Ag03.node s i with would := some (if Ag03.bound (Ag03.node s i) i = true then [] else [i]) }) ((Ag03.others s i).map fun (j : Nat) => ⟨0, j, i, (Ag03.node s i).term + 1, (Ag03.node s i).rank, false⟩), [2]) := rfl
    rw [er] at k
    clear er eq
    generalize (if Ag03.bound (Ag03.node s i) i = true then [] else [i]) = l at k hl hq
    have nqp : q ≠ p := fun z => by rw [z, hN] at nq; cases nq
    have uc : Pres p H H2 := (Pres.same sq).trans u2
    refine R.shut hp uc (n := { Ag03.node s i with would := some l }) (wv := .ref q) h2 (.old hP uc (by rw [lp]; exact fun q => nomatch q)) ⟨q, rfl, .inl nq, u2 _ _ hq nqp⟩ (.old lv hV uc (by rw [lp]; exact fun q => nomatch q)) (.old lg hG uc (by rw [lp]; exact fun q => nomatch q)) d1 (fun z => ne_of_none hV nq (V.ref.inj z).symm) (fun z => ne_of_none hG nq (V.ref.inj z).symm)
      ⟨fun l' e => by cases e; exact hl, N.votes, N.given⟩ fun lab2 R2 K2 => ?_
    walk_at "rd"
    refine ⟨lab2, w, ns, _, i, 0, (Ag03.node s i).term + 1, (Ag03.node s i).rank, -1, rfl, R2, by rw [set_len]; exact hi, by decide, fun lab3 H3 R3 K3 => ?_⟩
    simp only [d_neg, others_set] at R3
    walk_at "rd"
    refine ⟨lab3, w, ns, _, i, l, rfl, R3, by rw [send_nodes, set_len]; exact hi, hlo, by rw [node_send, node_set hi], fun v lab4 H4 e4 R4 K4 => ?_⟩
    exact k v lab4 H4 e4 R4 ((K2.trans K3).trans K4)
theorem ok_promise_to {f : Addr} {fd : FuncData} (F : Fun K "promise_to" "promise_to" s_promise_to f fd) (T : Txt K mg c) (M_Promise : MkOk P w K mg base "Promise" c.CP 1 ["self", "whom", "term", "until"] (sp_Promise_init c)) : FnOk P w K mg base CX0 3 f fd ["world", "node", "whom", "term"] (sp_promise_to c) := by
  refine F.ok sc_promise_to (fun vs H Q E h => ?_) (fun cdv A outer s H vs Q E hr h => ?_)
  · obtain ⟨lab, w, ns, s, i, p, x, t, rfl, _⟩ := h
    rfl
  · obtain ⟨lab, w, ns, s, i, p, x, t, rfl, R, hp, k⟩ := h
    obtain ⟨dw, wl, nl, rl, ls, ll, ts, W⟩ := R.wd
    have hW := W.ob
    obtain ⟨dx, pr, wv, va, ga, hN, hP, hWo, lv, hV, lg, hG, d1, d2, d3⟩ := (R.nd i p hp).apart
    have lp := (R.nd i p hp).lb
    have N := R.inv.gnode (R.lt hp)
    refine ⟨_, (pss_one (ps_fld (pv 1) (pe_mk M_Promise hr (by decide) rfl (pa_cons (pv 2) (pa_cons (pv 3) (pa_cons (pe_op op_add (pe_fld (pv 1) rfl) (pe_fld (pv 0) rfl)) pa_nil)))) rfl)), ?_⟩
    walk_at "go"
    refine rd_mkP fun a da H1 na ha sa => ?_
    have hN1 := sa _ _ hN
    walk_at "rd"
    intro H2 h2 u2
    have nap : a ≠ p := fun z => by rw [z, hN] at na; cases na
    have uc : Pres p H H2 := (Pres.same sa).trans u2
    refine R.shut hp uc (n := Ag03.promised s (Ag03.node s i) x t) (wv := wv) h2 ⟨a, da, rfl, .inl na, u2 _ _ ha nap⟩ (.old hWo uc (by rw [lp]; exact fun q => nomatch q)) (.old lv hV uc (by rw [lp]; exact fun q => nomatch q)) (.old lg hG uc (by rw [lp]; exact fun q => nomatch q)) d1 d2 d3 ⟨N.would, N.votes, N.given⟩ fun lab2 R2 K2 => ?_
    walk_at "rd"
    exact k lab2 H2 R2 K2
theorem ok_hold_if_most_gave {f : Addr} {fd : FuncData} (F : Fun K "hold_if_most_gave" "hold_if_most_gave" s_hold_if_most_gave f fd) (T : Txt K mg c) (O_is_most : Ok P w K mg base "is_most" 1 ["world", "members"] (sp_is_most c)) : FnOk P w K mg base CX0 2 f fd ["world", "node"] (sp_hold_if_most_gave c) := by
  refine F.ok sc_hold_if_most_gave (fun vs H Q E h => ?_) (fun cdv A outer s H vs Q E hr h => ?_)
  · obtain ⟨lab, w, ns, s, i, p, rfl, _⟩ := h
    rfl
  · obtain ⟨lab, w, ns, s, i, p, rfl, R, hp, k⟩ := h
    obtain ⟨dw, wl, nl, rl, ls, ll, ts, W⟩ := R.wd
    have hW := W.ob
    obtain ⟨dx, pr, wv, va, ga, hN, hP, hWo, lv, hV, lg, hG, d1, d2, d3⟩ := (R.nd i p hp).apart
    have lp := (R.nd i p hp).lb
    have N := R.inv.gnode (R.lt hp)
    refine ⟨_, (pss_one (ps_if (pt_val (pe_ok O_is_most hr (by decide) rfl (pa_cons (pv 0) (pa_cons (pe_fld (pv 1) rfl) pa_nil))))
    (pss_one (ps_fld (pv 1) (pe_callB (call_max2 rfl) (by rfl) T.b_max (by decide +kernel) (pa_cons (pe_fld (pv 1) rfl) (pa_cons (pe_op op_add (pe_fld (pv 1) rfl) (pe_fld (pv 0) rfl)) pa_nil))) rfl))
    pss_nil)), ?_⟩
    walk_at "go"
    refine ⟨lab, w, ns, s, ga, _, rfl, R, hG, N.given, fun H1 sm => ?_⟩
    have hW1 := sm _ _ hW
    have hN1 := sm _ _ hN
    walk_at "rd"
    unfold Ag03.held at k
    refine ite_b (fun e => ?_) (fun e => ?_)
    · rw [if_pos e] at k
      walk_at "rd"
      intro H2 h2 u2
      have em : (if ((Ag03.node s i).sent : Int) + (Ag03.span s : Int) > ((Ag03.node s i).holds : Int) then ((Ag03.node s i).sent : Int) + (Ag03.span s : Int) else ((Ag03.node s i).holds : Int)) = ((max (Ag03.node s i).holds ((Ag03.node s i).sent + Ag03.span s) : Nat) : Int) := by
        split <;> omega
      rw [em] at h2
      have uc : Pres p H H2 := (Pres.same sm).trans u2
      refine R.shut hp uc (n := { Ag03.node s i with holds := max (Ag03.node s i).holds ((Ag03.node s i).sent + Ag03.span s) }) (wv := wv) h2 (.old hP uc (by rw [lp]; exact fun q => nomatch q)) (.old hWo uc (by rw [lp]; exact fun q => nomatch q)) (.old lv hV uc (by rw [lp]; exact fun q => nomatch q)) (.old lg hG uc (by rw [lp]; exact fun q => nomatch q)) d1 d2 d3 ⟨N.would, N.votes, N.given⟩ fun lab2 R2 K2 => ?_
      walk_at "rd"
      exact k lab2 H2 R2 K2
    · rw [if_neg (by rw [e]; exact Bool.false_ne_true), set_self] at k
      walk_at "rd"
      exact k lab H1 (R.same sm) (.ofSame sm)
end
end Hfs
namespace Hfs
open PySem PySem.Spec PyProof.Rows L2
set_option hygiene false in
local macro_rules | `(tactic| walk_at "rd") => `(tactic| repeat (first
  | (with_reducible refine rd_seq ?_) | (with_reducible refine rd_next ?_) | (with_reducible refine rd_asg ?_) | (with_reducible refine rd_ret ?_) | (with_reducible refine rd_retN ?_) | (with_reducible refine rd_drop ?_)
  | (with_reducible refine rd_ifS ?_) | (with_reducible refine rd_test ?_) | (with_reducible refine rd_tB ?_) | (with_reducible refine rd_not ?_) | (with_reducible refine rd_and ?_) | (with_reducible refine rd_or ?_)
  | (with_reducible refine rd_andV ?_) | (with_reducible refine rd_orV ?_) | (with_reducible refine rd_notV ?_) | (with_reducible refine rd_if ?_) | (with_reducible refine rd_op ?_) | (with_reducible refine rd_I0 ?_)
  | (with_reducible refine rd_eqI ?_) | (with_reducible refine rd_neI ?_) | (with_reducible refine rd_eqB ?_) | (with_reducible refine rd_nil ?_) | (with_reducible refine rd_cons ?_) | (with_reducible refine rd_call ?_)
  | (with_reducible refine rd_cb ?_) | (with_reducible refine rd_fld ?_) | (with_reducible refine rd_sfld ?_) | (with_reducible refine rd_lst ?_) | (with_reducible refine rd_make ?_) | (with_reducible refine rd_c ?_)
  | (with_reducible refine rd_bm ?_) | (with_reducible refine rd_for ?_) | (with_reducible refine rd_rng1 ?_) | (with_reducible refine rd_gname ?_)
  | ((with_reducible refine' And.intro (tyL ?h1) ?_); (case h1 => assumption))
  | ((with_reducible refine' rd_len ?h1 ?_); (case h1 => assumption))
  | (refine ⟨_, _, (rfl : [V.int _, V.int _] = [V.int _, V.int _]), ?_⟩) | (with_reducible refine rd_ilist ?_) | (with_reducible refine rd_lc ?_) | (with_reducible refine rd_yes ?_) | (with_reducible refine rd_chain ?_)
  | ((with_reducible refine' rd_ilistR ?h1 ?_); (case h1 => assumption))
  | ((with_reducible refine' rd_in ?h1 ?_); (case h1 => assumption)) | (with_reducible refine rd_eqVn ?_) | (with_reducible refine rd_eqVs ?_)
  | (with_reducible refine rd_bl ?_) | (with_reducible refine And.intro (rfl : V.non = V.non) ?_) | (with_reducible refine iteT ?_) | (with_reducible refine iteF ?_)
  | (with_reducible refine ite_rn ?_) | (with_reducible refine ite_nn ?_) | (with_reducible refine ite_nrn ?_) | (with_reducible refine ite_nnn ?_)
  | ((with_reducible refine' rd_var ?h1 ?_); (case h1 => rfl))
  | ((with_reducible refine' rd_fN T ?h1 ?h2 ?h3 ?_); (case h1 => assumption); (case h2 => rfl); (case h3 => decide +kernel))
  | ((with_reducible refine' rd_fW T ?h1 ?h2 ?h3 ?_); (case h1 => assumption); (case h2 => rfl); (case h3 => decide +kernel))
  | ((with_reducible refine' rd_fL T ?h1 ?h2 ?h3 ?_); (case h1 => assumption); (case h2 => rfl); (case h3 => decide +kernel))
  | ((with_reducible refine' rd_fP T ?h1 ?h2 ?h3 ?_); (case h1 => assumption); (case h2 => rfl); (case h3 => decide +kernel))
  | ((with_reducible refine' rd_ixL ?h1 ?h2 ?_); (case h1 => assumption); (case h2 => assumption))
  | ((with_reducible refine' rd_stN T ?h1 ?h2 ?h3 ?_); (case h1 => assumption); (case h2 => rfl); (case h3 => decide +kernel))
  | ((with_reducible refine' rd_stW T ?h1 ?h2 ?h3 ?_); (case h1 => assumption); (case h2 => rfl); (case h3 => decide +kernel))
  | ((with_reducible refine' rd_lstR ?h1 ?_); (case h1 => first | (show 0 ≤ sizeLine; decide +kernel) | (show 1 ≤ sizeLine; decide +kernel) | (show 2 ≤ sizeLine; decide +kernel) | (show 3 ≤ sizeLine; decide +kernel) | (show 4 ≤ sizeLine; decide +kernel) | (show 5 ≤ sizeLine; decide +kernel) | (show 6 ≤ sizeLine; decide +kernel)))
  | (with_reducible refine rd_tup ?_) | ((with_reducible refine' rd_tupR ?h1 ?_); (case h1 => (show 2 ≤ sizeLine; decide +kernel)))
  | (with_reducible refine rd_asgG ?_) | (with_reducible refine rd_gsub ?_) | (with_reducible refine rd_sl ?_) | (with_reducible refine rd_nopart ?_) | (with_reducible refine rd_part ?_) | (with_reducible refine rd_pint ?_) | (with_reducible refine rd_enum ?_)
  | ((with_reducible refine' rd_ix0 ?h1 ?_); (case h1 => assumption)) | ((with_reducible refine' rd_ix1 ?h1 ?_); (case h1 => assumption)) | ((with_reducible refine' rd_ix2 ?h1 ?_); (case h1 => assumption))
  | (with_reducible refine ite_bit ?_)))
set_option hygiene false in
local macro_rules | `(tactic| walk_at "go") => `(tactic| ((try simp only [cxK]); walk_at "rd"))
set_option hygiene false in
local macro_rules | `(tactic| walk_at "lit") => `(tactic| ((repeat (walk_at "rd"; first | (refine ite_decF (by decide) ?_) | (refine ite_decT (by decide) ?_))); walk_at "rd"))
section
variable {P : Program} {w : World} {K : PySem.W.Frag} {mg : Str → Option Value} {base : Heap} {c : Cs}
theorem ok_begin_round {f : Addr} {fd : FuncData} (F : Fun K "begin_round" "begin_round" s_begin_round f fd) (T : Txt K mg c) (O_hold_if_most_gave : Ok P w K mg base "hold_if_most_gave" 2 ["world", "node"] (sp_hold_if_most_gave c)) (O_send_to_others : Ok P w K mg base "send_to_others" 3 ["world", "sender", "kind", "term", "number", "yes_to"] (sp_send_to_others c)) (O_is_bound : Ok P w K mg base "is_bound" 1 ["node", "against"] (sp_is_bound c)) (O_promise_to : Ok P w K mg base "promise_to" 3 ["world", "node", "whom", "term"] (sp_promise_to c)) : FnOk P w K mg base CX0 4 f fd ["world", "place"] (sp_begin_round c) := by
  refine F.ok sc_begin_round (fun vs H Q E h => ?_) (fun cdv A outer s H vs Q E hr h => ?_)
  · obtain ⟨lab, w, ns, s, i, rfl, _⟩ := h
    rfl
  · obtain ⟨lab, w, ns, s, i, rfl, R, hi, k⟩ := h
    obtain ⟨dw, wl, nl, rl, ls, ll, ts, W⟩ := R.wd
    have hW := W.ob
    have hL := W.nl
    obtain ⟨p, hp⟩ := R.at_ hi
    have hp' : (ns.map V.ref)[i]? = some (.ref p) := by rw [List.getElem?_map, hp]; rfl
    obtain ⟨dx, pr, wv, va, ga, hN, hP, hWo, lv, hV, lg, hG, d1, d2, d3⟩ := (R.nd i p hp).apart
    have lp := (R.nd i p hp).lb
    have N := R.inv.gnode hi
    refine ⟨_, (pss_cons (ps_set (i := 2) sc_begin_round.nd rfl (Or.inl rfl) (pe_ix ix_list (pe_fld (pv 0) rfl) (pv 1) (fun _ _ => rfl)))
    (pss_cons (ps_fld (pv 2) (pe_op op_add (pe_fld (pv 2) rfl) pe_int) rfl)
    (pss_cons (ps_fld (pv 2) (pe_fld (pv 2) rfl) rfl)
    (pss_cons (ps_fld (pv 2) (pe_lst pa_nil) rfl)
    (pss_cons (ps_if (pt_not (pt_val (pe_ok O_is_bound hr (by decide) rfl (pa_cons (pv 2) (pa_cons (pv 1) pa_nil)))))
    (pss_cons (ps_fld (pv 2) (pe_lst (pa_cons (pv 1) pa_nil)) rfl)
    (pss_one (ps_expr (pe_ok O_promise_to hr (by decide) rfl (pa_cons (pv 0) (pa_cons (pv 2) (pa_cons (pv 1) (pa_cons (pe_fld (pv 2) rfl) pa_nil))))))))
    pss_nil)
    (pss_cons (ps_expr (pe_ok O_hold_if_most_gave hr (by decide) rfl (pa_cons (pv 0) (pa_cons (pv 2) pa_nil))))
    (pss_one (ps_expr (pe_ok O_send_to_others hr (by decide) rfl (pa_cons (pv 0) (pa_cons (pv 1) (pa_cons (pe_gint rfl T.g_PROMISE) (pa_cons (pe_fld (pv 2) rfl) (pa_cons (pe_fld (pv 2) rfl) (pa_cons (pe_gint rfl T.g_NOBODY) pa_nil))))))))))))))), ?_⟩
    walk_at "go"
    intro H1 h1 u1
    walk_at "rd"
    intro H2 h2 u2
    walk_at "rd"
    intro qg G2 ng hg sg
    have h2' := sg _ _ h2
    walk_at "rd"
    intro H3 h3 u3
    walk_at "rd"
    have n2 : qg ≠ p := fun q => by rw [q, h2] at ng; cases ng
    have ua : Pres p H H2 := u1.trans u2
    have uc : Pres p H H3 := (ua.trans (.same sg)).trans u3
    have hnG := ua.free ng n2
    refine R.shut hp uc (n := { Ag03.node s i with round := (Ag03.node s i).round + 1, sent := (Ag03.node s i).clock, given := [] }) (wv := wv) h3 (.old hP uc (by rw [lp]; exact fun q => nomatch q)) (.old hWo uc (by rw [lp]; exact fun q => nomatch q)) (.old lv hV uc (by rw [lp]; exact fun q => nomatch q)) ⟨.inl hnG, u3 _ _ hg n2⟩ (ne_of_none hV hnG) d2 (fun z => ?_) ⟨N.would, N.votes, Mem.nil⟩ fun lab1 R1 K1 => ?_
    · cases ew : (Ag03.node s i).would with
      | none => rw [ew] at hWo; have hWo : wv = .non := hWo; rw [hWo] at z; cases z
      | some l =>
        rw [ew] at hWo
        obtain ⟨b, eb, _, hb⟩ := hWo
        rw [eb] at z
        exact ne_of_none hb hnG (V.ref.inj z)
    have eN := node_set (s := s) (n := { Ag03.node s i with round := (Ag03.node s i).round + 1, sent := (Ag03.node s i).clock, given := [] }) hi
    have A1 := R1.nd i p hp
    rw [eN] at A1
    unfold Ag03.renew at k
    dsimp only at k
    have eb : Ag03.bound { Ag03.node s i with round := (Ag03.node s i).round + 1, sent := (Ag03.node s i).clock, given := [] } i = Ag03.bound (Ag03.node s i) i := rfl
    refine ⟨lab1, i, p, _, i, rfl, A1, ?_⟩
    rw [eb]
    walk_at "rd"
    refine ite_nb (fun e => ?_) (fun e => ?_)
    · rw [e, if_neg Bool.false_ne_true, if_neg Bool.false_ne_true] at k
      walk_at "rd"
      intro qh G3 nh hh sh
      have h3' := sh _ _ h3
      walk_at "rd"
      intro H4 h4 u4
      obtain ⟨dx', pr', wv', va', ga', hN', hP', hWo', lv', hV', lg', hG', d1', d2', d3'⟩ := A1.apart
      have en := hN'.symm.trans h3
      have N1 := R1.inv.gnode (i := i) (by rw [set_len]; exact hi)
      rw [eN] at N1
      have n3 : qh ≠ p := fun q => by rw [q, h3] at nh; cases nh
      have ud : Pres p H3 H4 := (Pres.same sh).trans u4
      have lp1 := (R1.nd i p hp).lb
      cases en
      refine R1.shut hp ud (n := { Ag03.node s i with round := (Ag03.node s i).round + 1, sent := (Ag03.node s i).clock, given := [i] }) (wv := wv) h4 (.old hP' ud (by rw [lp1]; exact fun q => nomatch q)) (.old hWo' ud (by rw [lp1]; exact fun q => nomatch q)) (.old lv' hV' ud (by rw [lp1]; exact fun q => nomatch q)) ⟨.inl nh, u4 _ _ hh n3⟩ (ne_of_none hV' nh) d2' (fun z => ?_) ⟨N1.would, N1.votes, by rw [set_len]; exact Mem.one hi⟩ fun lab2 R2 K2 => ?_
      · cases ew : (Ag03.node s i).would with
        | none => rw [ew] at hWo; have hWo : wv = .non := hWo; rw [hWo] at z; cases z
        | some l =>
          rw [ew] at hWo
          obtain ⟨b, eb, _, hb⟩ := hWo
          rw [eb] at z
          exact ne_of_none (uc _ _ hb (fun q => by rw [q, hN] at hb; cases hb)) nh (V.ref.inj z)
      rw [set_set] at R2
      walk_at "rd"
      refine ⟨lab2, w, ns, _, i, p, i, (Ag03.node s i).term, rfl, R2, hp, fun lab3 H5 R3 K3 => ?_⟩
      rw [set_set, node_set hi] at R3
      walk_at "rd"
      refine ⟨lab3, w, ns, _, i, p, rfl, R3, hp, fun lab4 H6 R4 K4 => ?_⟩
      rw [set_set, node_set hi, held_set] at R4
      obtain ⟨dx6, pr6, wv6, va6, ga6, hN6, _⟩ := (R4.nd i p hp).apart
      rw [node_set hi] at hN6
      walk_at "rd"
      refine ⟨lab4, w, ns, _, i, 4, _, _, -1, rfl, R4, by rw [set_len]; exact hi, by decide, fun lab5 H7 R5 K5 => ?_⟩
      simp only [d_neg, others_set, held_term, held_round] at R5
      walk_at "rd"
      exact k lab5 H7 R5 ((((K1.trans K2).trans K3).trans K4).trans K5)
    · rw [e, if_pos rfl, if_pos rfl] at k
      walk_at "rd"
      refine ⟨lab1, w, ns, _, i, p, rfl, R1, hp, fun lab4 H6 R4 K4 => ?_⟩
      rw [set_set, node_set hi, held_set] at R4
      obtain ⟨dx6, pr6, wv6, va6, ga6, hN6, _⟩ := (R4.nd i p hp).apart
      rw [node_set hi] at hN6
      walk_at "rd"
      refine ⟨lab4, w, ns, _, i, 4, _, _, -1, rfl, R4, by rw [set_len]; exact hi, by decide, fun lab5 H7 R5 K5 => ?_⟩
      simp only [d_neg, others_set, held_term, held_round] at R5
      walk_at "rd"
      exact k lab5 H7 R5 ((K1.trans K4).trans K5)
end
end Hfs
namespace Hfs
open PySem PySem.Spec PyProof.Rows L2
set_option hygiene false in
local macro_rules | `(tactic| walk_at "rd") => `(tactic| repeat (first
  | (with_reducible refine rd_seq ?_) | (with_reducible refine rd_next ?_) | (with_reducible refine rd_asg ?_) | (with_reducible refine rd_ret ?_) | (with_reducible refine rd_retN ?_) | (with_reducible refine rd_drop ?_)
  | (with_reducible refine rd_ifS ?_) | (with_reducible refine rd_test ?_) | (with_reducible refine rd_tB ?_) | (with_reducible refine rd_not ?_) | (with_reducible refine rd_and ?_) | (with_reducible refine rd_or ?_)
  | (with_reducible refine rd_andV ?_) | (with_reducible refine rd_orV ?_) | (with_reducible refine rd_notV ?_) | (with_reducible refine rd_if ?_) | (with_reducible refine rd_op ?_) | (with_reducible refine rd_I0 ?_)
  | (with_reducible refine rd_eqI ?_) | (with_reducible refine rd_neI ?_) | (with_reducible refine rd_eqB ?_) | (with_reducible refine rd_nil ?_) | (with_reducible refine rd_cons ?_) | (with_reducible refine rd_call ?_)
  | (with_reducible refine rd_cb ?_) | (with_reducible refine rd_fld ?_) | (with_reducible refine rd_sfld ?_) | (with_reducible refine rd_lst ?_) | (with_reducible refine rd_make ?_) | (with_reducible refine rd_c ?_)
  | (with_reducible refine rd_bm ?_) | (with_reducible refine rd_for ?_) | (with_reducible refine rd_rng1 ?_) | (with_reducible refine rd_gname ?_)
  | ((with_reducible refine' And.intro (tyL ?h1) ?_); (case h1 => assumption))
  | ((with_reducible refine' rd_len ?h1 ?_); (case h1 => assumption))
  | (refine ⟨_, _, (rfl : [V.int _, V.int _] = [V.int _, V.int _]), ?_⟩) | (with_reducible refine rd_ilist ?_) | (with_reducible refine rd_lc ?_) | (with_reducible refine rd_yes ?_) | (with_reducible refine rd_chain ?_)
  | ((with_reducible refine' rd_ilistR ?h1 ?_); (case h1 => assumption))
  | ((with_reducible refine' rd_in ?h1 ?_); (case h1 => assumption)) | (with_reducible refine rd_eqVn ?_) | (with_reducible refine rd_eqVs ?_)
  | (with_reducible refine rd_bl ?_) | (with_reducible refine And.intro (rfl : V.non = V.non) ?_) | (with_reducible refine iteT ?_) | (with_reducible refine iteF ?_)
  | (with_reducible refine ite_rn ?_) | (with_reducible refine ite_nn ?_) | (with_reducible refine ite_nrn ?_) | (with_reducible refine ite_nnn ?_)
  | ((with_reducible refine' rd_var ?h1 ?_); (case h1 => rfl))
  | ((with_reducible refine' rd_fN T ?h1 ?h2 ?h3 ?_); (case h1 => assumption); (case h2 => rfl); (case h3 => decide +kernel))
  | ((with_reducible refine' rd_fW T ?h1 ?h2 ?h3 ?_); (case h1 => assumption); (case h2 => rfl); (case h3 => decide +kernel))
  | ((with_reducible refine' rd_fL T ?h1 ?h2 ?h3 ?_); (case h1 => assumption); (case h2 => rfl); (case h3 => decide +kernel))
  | ((with_reducible refine' rd_fP T ?h1 ?h2 ?h3 ?_); (case h1 => assumption); (case h2 => rfl); (case h3 => decide +kernel))
  | ((with_reducible refine' rd_ixL ?h1 ?h2 ?_); (case h1 => assumption); (case h2 => assumption))
  | ((with_reducible refine' rd_stN T ?h1 ?h2 ?h3 ?_); (case h1 => assumption); (case h2 => rfl); (case h3 => decide +kernel))
  | ((with_reducible refine' rd_stW T ?h1 ?h2 ?h3 ?_); (case h1 => assumption); (case h2 => rfl); (case h3 => decide +kernel))
  | ((with_reducible refine' rd_lstR ?h1 ?_); (case h1 => first | (show 0 ≤ sizeLine; decide +kernel) | (show 1 ≤ sizeLine; decide +kernel) | (show 2 ≤ sizeLine; decide +kernel) | (show 3 ≤ sizeLine; decide +kernel) | (show 4 ≤ sizeLine; decide +kernel) | (show 5 ≤ sizeLine; decide +kernel) | (show 6 ≤ sizeLine; decide +kernel)))
  | (with_reducible refine rd_tup ?_) | ((with_reducible refine' rd_tupR ?h1 ?_); (case h1 => (show 2 ≤ sizeLine; decide +kernel)))
  | (with_reducible refine rd_asgG ?_) | (with_reducible refine rd_gsub ?_) | (with_reducible refine rd_sl ?_) | (with_reducible refine rd_nopart ?_) | (with_reducible refine rd_part ?_) | (with_reducible refine rd_pint ?_) | (with_reducible refine rd_enum ?_)
  | ((with_reducible refine' rd_ix0 ?h1 ?_); (case h1 => assumption)) | ((with_reducible refine' rd_ix1 ?h1 ?_); (case h1 => assumption)) | ((with_reducible refine' rd_ix2 ?h1 ?_); (case h1 => assumption))
  | (with_reducible refine ite_bit ?_)))
set_option hygiene false in
local macro_rules | `(tactic| walk_at "go") => `(tactic| ((try simp only [cxK]); walk_at "rd"))
set_option hygiene false in
local macro_rules | `(tactic| walk_at "lit") => `(tactic| ((repeat (walk_at "rd"; first | (refine ite_decF (by decide) ?_) | (refine ite_decT (by decide) ?_))); walk_at "rd"))
section
variable {P : Program} {w : World} {K : PySem.W.Frag} {mg : Str → Option Value} {base : Heap} {c : Cs}
theorem WoV.fresh {lab : Lab} {H : Hp} {i : Nat} {v : V} {o : Option (List Nat)} {q : Addr} (h : WoV lab H i v o) (nq : H q = none) : v ≠ .ref q := fun z => by
  cases o with
  | none => have h : v = .non := h; rw [h] at z; cases z
  | some l =>
    obtain ⟨b, eb, _, hb⟩ := h
    rw [eb] at z
    exact ne_of_none hb nq (V.ref.inj z)
theorem ok_let_go {f : Addr} {fd : FuncData} (F : Fun K "let_go" "let_go" s_let_go f fd) (T : Txt K mg c) (O_send_to_others : Ok P w K mg base "send_to_others" 3 ["world", "sender", "kind", "term", "number", "yes_to"] (sp_send_to_others c)) : FnOk P w K mg base CX0 4 f fd ["world", "place", "heir"] (sp_let_go c) := by
  refine F.ok sc_let_go (fun vs H Q E h => ?_) (fun cdv A outer s H vs Q E hr h => ?_)
  · obtain ⟨lab, w, ns, s, i, j, rfl, _⟩ := h
    rfl
  · obtain ⟨lab, w, ns, s, i, j, rfl, R, hi, k⟩ := h
    obtain ⟨dw, wl, nl, rl, ls, ll, ts, W⟩ := R.wd
    have hW := W.ob
    have hL := W.nl
    obtain ⟨p, hp⟩ := R.at_ hi
    have hp' : (ns.map V.ref)[i]? = some (.ref p) := by rw [List.getElem?_map, hp]; rfl
    obtain ⟨dx, pr, wv, va, ga, hN, hP, hWo, lv, hV, lg, hG, d1, d2, d3⟩ := (R.nd i p hp).apart
    have lp := (R.nd i p hp).lb
    have N := R.inv.gnode hi
    refine ⟨_, (pss_cons (ps_set (i := 3) sc_let_go.nd rfl (Or.inl rfl) (pe_ix ix_list (pe_fld (pv 0) rfl) (pv 1) (fun _ _ => rfl)))
    (pss_cons (ps_fld (pv 3) (pe_gint rfl T.g_FOLLOWS) rfl)
    (pss_cons (ps_fld (pv 3) (pe_lst pa_nil) rfl)
    (pss_cons (ps_fld (pv 3) pe_int rfl)
    (pss_cons (ps_if (PW.pt (pw_and (pt_cmpR op_notN (pe_fld (pv 3) rfl) pe_non (nomark _)) (pw_and1 (pt_cmpR op_eq (pe_fld (pe_fld (pv 3) rfl) rfl) (pv 1) (nomark _)))))
    (pss_one (ps_fld (pv 3) pe_non rfl))
    pss_nil)
    (pss_one (ps_expr (pe_ok O_send_to_others hr (by decide) rfl (pa_cons (pv 0) (pa_cons (pv 1) (pa_cons (pe_gint rfl T.g_FREE) (pa_cons (pe_fld (pv 3) rfl) (pa_cons pe_int (pa_cons (pv 2) pa_nil)))))))))))))), ?_⟩
    walk_at "go"
    intro H1 h1 u1
    walk_at "rd"
    intro qg G2 ng hg sg
    have h1' := sg _ _ h1
    walk_at "rd"
    intro H3 h3 u3
    walk_at "rd"
    intro H4 h4 u4
    walk_at "rd"
    have n2 : qg ≠ p := fun q => by rw [q, h1] at ng; cases ng
    have ud : Pres p H H4 := ((u1.trans (.same sg)).trans u3).trans u4
    have hnG := u1.free ng n2
    have hg4 := u4 _ _ (u3 _ _ hg n2) n2
    unfold Ag03.leave at k
    dsimp only at k
    cases e : (Ag03.node s i).promise with
    | none =>
      rw [e] at hP k
      have hP' : pr = .non := hP
      subst hP'
      walk_at "rd"
      refine R.shut hp ud (n := { Ag03.node s i with role := 0, given := [], holds := 0, promise := none }) (wv := wv) h4 rfl (.old hWo ud (by rw [lp]; exact fun q => nomatch q)) (.old lv hV ud (by rw [lp]; exact fun q => nomatch q)) ⟨.inl hnG, hg4⟩ (ne_of_none hV hnG) d2 (hWo.fresh hnG) ⟨N.would, N.votes, Mem.nil⟩ fun lab1 R1 K1 => ?_
      walk_at "rd"
      refine ⟨lab1, w, ns, _, i, 6, (Ag03.node s i).term, 0, (j : Int), rfl, R1, by rw [set_len]; exact hi, by decide, fun lab2 H7 R2 K2 => ?_⟩
      simp only [d_eq, others_set] at R2
      walk_at "rd"
      exact k lab2 H7 R2 (K1.trans K2)
    | some q =>
      have hPq := PromN.old hP ud (by rw [lp]; exact fun q => nomatch q)
      rw [e] at hP hPq k
      obtain ⟨a, da, rfl, la, ha⟩ := hP
      have nap : a ≠ p := fun z => by rw [z, lp] at la; cases la
      have ha4 := ud _ _ ha nap
      dsimp only at k
      walk_at "rd"
      refine ite_dec (fun h => ?_) (fun h => ?_)
      · rw [if_pos (show q.to_ = i by omega)] at k
        walk_at "rd"
        intro H5 h5 u5
        have ue := ud.trans u5
        refine R.shut hp ue (n := { Ag03.node s i with role := 0, given := [], holds := 0, promise := none }) (wv := wv) h5 rfl (.old hWo ue (by rw [lp]; exact fun q => nomatch q)) (.old lv hV ue (by rw [lp]; exact fun q => nomatch q)) ⟨.inl hnG, (u5 _ _ hg4 n2)⟩ (ne_of_none hV hnG) d2 (hWo.fresh hnG) ⟨N.would, N.votes, Mem.nil⟩ fun lab1 R1 K1 => ?_
        walk_at "rd"
        refine ⟨lab1, w, ns, _, i, 6, (Ag03.node s i).term, 0, (j : Int), rfl, R1, by rw [set_len]; exact hi, by decide, fun lab2 H7 R2 K2 => ?_⟩
        simp only [d_eq, others_set] at R2
        walk_at "rd"
        exact k lab2 H7 R2 (K1.trans K2)
      · rw [if_neg (show ¬ q.to_ = i by omega)] at k
        walk_at "rd"
        refine R.shut hp ud (n := { Ag03.node s i with role := 0, given := [], holds := 0, promise := some q }) (wv := wv) h4 hPq (.old hWo ud (by rw [lp]; exact fun q => nomatch q)) (.old lv hV ud (by rw [lp]; exact fun q => nomatch q)) ⟨.inl hnG, hg4⟩ (ne_of_none hV hnG) d2 (hWo.fresh hnG) ⟨N.would, N.votes, Mem.nil⟩ fun lab1 R1 K1 => ?_
        walk_at "rd"
        refine ⟨lab1, w, ns, _, i, 6, (Ag03.node s i).term, 0, (j : Int), rfl, R1, by rw [set_len]; exact hi, by decide, fun lab2 H7 R2 K2 => ?_⟩
        simp only [d_eq, others_set] at R2
        walk_at "rd"
        exact k lab2 H7 R2 (K1.trans K2)
end
end Hfs
namespace Hfs
open PySem PySem.Spec PyProof.Rows L2
set_option hygiene false in
local macro_rules | `(tactic| walk_at "rd") => `(tactic| repeat (first
  | (with_reducible refine rd_seq ?_) | (with_reducible refine rd_next ?_) | (with_reducible refine rd_asg ?_) | (with_reducible refine rd_ret ?_) | (with_reducible refine rd_retN ?_) | (with_reducible refine rd_drop ?_)
  | (with_reducible refine rd_ifS ?_) | (with_reducible refine rd_test ?_) | (with_reducible refine rd_tB ?_) | (with_reducible refine rd_not ?_) | (with_reducible refine rd_and ?_) | (with_reducible refine rd_or ?_)
  | (with_reducible refine rd_andV ?_) | (with_reducible refine rd_orV ?_) | (with_reducible refine rd_notV ?_) | (with_reducible refine rd_if ?_) | (with_reducible refine rd_op ?_) | (with_reducible refine rd_I0 ?_)
  | (with_reducible refine rd_eqI ?_) | (with_reducible refine rd_neI ?_) | (with_reducible refine rd_eqB ?_) | (with_reducible refine rd_nil ?_) | (with_reducible refine rd_cons ?_) | (with_reducible refine rd_call ?_)
  | (with_reducible refine rd_cb ?_) | (with_reducible refine rd_fld ?_) | (with_reducible refine rd_sfld ?_) | (with_reducible refine rd_lst ?_) | (with_reducible refine rd_make ?_) | (with_reducible refine rd_c ?_)
  | (with_reducible refine rd_bm ?_) | (with_reducible refine rd_for ?_) | (with_reducible refine rd_rng1 ?_) | (with_reducible refine rd_gname ?_)
  | ((with_reducible refine' And.intro (tyL ?h1) ?_); (case h1 => assumption))
  | ((with_reducible refine' rd_len ?h1 ?_); (case h1 => assumption))
  | (refine ⟨_, _, (rfl : [V.int _, V.int _] = [V.int _, V.int _]), ?_⟩) | (with_reducible refine rd_ilist ?_) | (with_reducible refine rd_lc ?_) | (with_reducible refine rd_yes ?_) | (with_reducible refine rd_chain ?_)
  | ((with_reducible refine' rd_ilistR ?h1 ?_); (case h1 => assumption))
  | ((with_reducible refine' rd_in ?h1 ?_); (case h1 => assumption)) | (with_reducible refine rd_eqVn ?_) | (with_reducible refine rd_eqVs ?_)
  | (with_reducible refine rd_bl ?_) | (with_reducible refine And.intro (rfl : V.non = V.non) ?_) | (with_reducible refine iteT ?_) | (with_reducible refine iteF ?_)
  | (with_reducible refine ite_rn ?_) | (with_reducible refine ite_nn ?_) | (with_reducible refine ite_nrn ?_) | (with_reducible refine ite_nnn ?_)
  | ((with_reducible refine' rd_var ?h1 ?_); (case h1 => rfl))
  | ((with_reducible refine' rd_fN T ?h1 ?h2 ?h3 ?_); (case h1 => assumption); (case h2 => rfl); (case h3 => decide +kernel))
  | ((with_reducible refine' rd_fW T ?h1 ?h2 ?h3 ?_); (case h1 => assumption); (case h2 => rfl); (case h3 => decide +kernel))
  | ((with_reducible refine' rd_fL T ?h1 ?h2 ?h3 ?_); (case h1 => assumption); (case h2 => rfl); (case h3 => decide +kernel))
  | ((with_reducible refine' rd_fP T ?h1 ?h2 ?h3 ?_); (case h1 => assumption); (case h2 => rfl); (case h3 => decide +kernel))
  | ((with_reducible refine' rd_ixL ?h1 ?h2 ?_); (case h1 => assumption); (case h2 => assumption))
  | ((with_reducible refine' rd_stN T ?h1 ?h2 ?h3 ?_); (case h1 => assumption); (case h2 => rfl); (case h3 => decide +kernel))
  | ((with_reducible refine' rd_stW T ?h1 ?h2 ?h3 ?_); (case h1 => assumption); (case h2 => rfl); (case h3 => decide +kernel))
  | ((with_reducible refine' rd_lstR ?h1 ?_); (case h1 => first | (show 0 ≤ sizeLine; decide +kernel) | (show 1 ≤ sizeLine; decide +kernel) | (show 2 ≤ sizeLine; decide +kernel) | (show 3 ≤ sizeLine; decide +kernel) | (show 4 ≤ sizeLine; decide +kernel) | (show 5 ≤ sizeLine; decide +kernel) | (show 6 ≤ sizeLine; decide +kernel)))
  | (with_reducible refine rd_tup ?_) | ((with_reducible refine' rd_tupR ?h1 ?_); (case h1 => (show 2 ≤ sizeLine; decide +kernel)))
  | (with_reducible refine rd_asgG ?_) | (with_reducible refine rd_gsub ?_) | (with_reducible refine rd_sl ?_) | (with_reducible refine rd_nopart ?_) | (with_reducible refine rd_part ?_) | (with_reducible refine rd_pint ?_) | (with_reducible refine rd_enum ?_)
  | ((with_reducible refine' rd_ix0 ?h1 ?_); (case h1 => assumption)) | ((with_reducible refine' rd_ix1 ?h1 ?_); (case h1 => assumption)) | ((with_reducible refine' rd_ix2 ?h1 ?_); (case h1 => assumption))
  | (with_reducible refine ite_bit ?_)))
set_option hygiene false in
local macro_rules | `(tactic| walk_at "go") => `(tactic| ((try simp only [cxK]); walk_at "rd"))
set_option hygiene false in
local macro_rules | `(tactic| walk_at "lit") => `(tactic| ((repeat (walk_at "rd"; first | (refine ite_decF (by decide) ?_) | (refine ite_decT (by decide) ?_))); walk_at "rd"))
section
variable {P : Program} {w : World} {K : PySem.W.Frag} {mg : Str → Option Value} {base : Heap} {c : Cs}
theorem ok_get_would_you {f : Addr} {fd : FuncData} (F : Fun K "get_would_you" "get_would_you" s_get_would_you f fd) (T : Txt K mg c) (O_reply : Ok P w K mg base "reply" 3 ["world", "letter", "kind", "term", "number", "yes"] (sp_reply c)) (O_is_bound : Ok P w K mg base "is_bound" 1 ["node", "against"] (sp_is_bound c)) : FnOk P w K mg base CX0 4 f fd ["world", "letter"] (sp_get_would_you c) := by
  refine F.ok sc_get_would_you (fun vs H Q E h => ?_) (fun cdv A outer s H vs Q E hr h => ?_)
  · obtain ⟨lab, w, ns, s, a, x, rfl, _⟩ := h
    rfl
  · skip
    obtain ⟨lab, w, ns, s, a, x, rfl, R, hA, hM, hlo, hk, hu, k⟩ := h
    obtain ⟨dw, wl, nl, rl, ls, ll, ts, W⟩ := R.wd
    have hW := W.ob
    have hL := W.nl
    obtain ⟨dl, la, hX⟩ := id hA
    obtain ⟨p, hp⟩ := R.at_ hM.to_
    have hp' : (ns.map V.ref)[x.to_]? = some (.ref p) := by rw [List.getElem?_map, hp]; rfl
    obtain ⟨dx, pr, wv, va, ga, hN, hP, hWo, lv, hV, lg, hG, d1, d2, d3⟩ := (R.nd _ p hp).apart
    have lp := (R.nd _ p hp).lb
    have N := R.inv.gnode hM.to_
    rw [hand0 rfl hk hu] at k
    refine ⟨_, (pss_cons (ps_set (i := 2) sc_get_would_you.nd rfl (Or.inl rfl) (pe_ix ix_list (pe_fld (pv 0) rfl) (pe_fld (pv 1) rfl) (fun _ _ => rfl)))
    (pss_cons (ps_set (i := 3) sc_get_would_you.nd rfl (Or.inl rfl) (pe_not (pe_ok O_is_bound hr (by decide) rfl (pa_cons (pv 2) (pa_cons (pe_fld (pv 1) rfl) pa_nil)))))
    (pss_cons (ps_set (i := 4) sc_get_would_you.nd rfl (Or.inl rfl) (pe_and (pv 3) (pe_and (pe_cmpR op_lt (pe_fld (pv 2) rfl) (pe_fld (pv 1) rfl) (nomark _)) (pe_one (pe_cmpR op_le (pe_fld (pv 2) rfl) (pe_fld (pv 1) rfl) (nomark _))))))
    (pss_one (ps_ret (pe_ok O_reply hr (by decide) rfl (pa_cons (pv 0) (pa_cons (pv 1) (pa_cons (pe_gint rfl T.g_WOULD) (pa_cons (pe_fld (pv 1) rfl) (pa_cons pe_int (pa_cons (pv 4) pa_nil)))))))))))), ?_⟩
    walk_at "go"
    refine ⟨lab, x.to_, p, _, x.from_, rfl, R.nd _ p hp, ?_⟩
    walk_at "rd"
    refine ite_and (b := decide ((Ag03.node s x.to_).term < x.term) && decide ((Ag03.node s x.to_).rank ≤ x.num)) (fun Q' q => ?_) ?_
    · walk_at "rd"
      have e1 : decide ((Ag03.node s x.to_).term < x.term) = decide (((Ag03.node s x.to_).term : Int) < (x.term : Int)) := decide_eq_decide.mpr (by omega)
      have e2 : decide ((Ag03.node s x.to_).rank ≤ x.num) = decide (((Ag03.node s x.to_).rank : Int) ≤ (x.num : Int)) := decide_eq_decide.mpr (by omega)
      rw [e1, e2] at q
      refine ite_and (fun Q2 q2 => ?_) q
      walk_at "rd"
      exact q2
    · walk_at "rd"
      refine ⟨lab, w, ns, s, a, x, 1, x.term, 0, _, rfl, R, hA, hM, by decide, fun lab2 H2 R2 K2 => ?_⟩
      exact k 1 lab2 H2 rfl R2 K2
theorem ok_get_would {f : Addr} {fd : FuncData} (F : Fun K "get_would" "get_would" s_get_would f fd) (T : Txt K mg c) (O_ask_if_most_would : Ok P w K mg base "ask_if_most_would" 5 ["world", "place"] (sp_ask_if_most_would c)) : FnOk P w K mg base CX0 6 f fd ["world", "letter"] (sp_get_would c) := by
  refine F.ok sc_get_would (fun vs H Q E h => ?_) (fun cdv A outer s H vs Q E hr h => ?_)
  · obtain ⟨lab, w, ns, s, a, x, rfl, _⟩ := h
    rfl
  · skip
    obtain ⟨lab, w, ns, s, a, x, rfl, R, hA, hM, hlo, hk, hu, k⟩ := h
    obtain ⟨dw, wl, nl, rl, ls, ll, ts, W⟩ := R.wd
    have hW := W.ob
    have hL := W.nl
    obtain ⟨dl, la, hX⟩ := id hA
    obtain ⟨p, hp⟩ := R.at_ hM.to_
    have hp' : (ns.map V.ref)[x.to_]? = some (.ref p) := by rw [List.getElem?_map, hp]; rfl
    obtain ⟨dx, pr, wv, va, ga, hN, hP, hWo, lv, hV, lg, hG, d1, d2, d3⟩ := (R.nd _ p hp).apart
    have lp := (R.nd _ p hp).lb
    have N := R.inv.gnode hM.to_
    rw [hand1 rfl hk hu] at k
    refine ⟨_, (pss_cons (ps_set (i := 2) sc_get_would.nd rfl (Or.inl rfl) (pe_ix ix_list (pe_fld (pv 0) rfl) (pe_fld (pv 1) rfl) (fun _ _ => rfl)))
    (pss_cons (ps_if (PW.pt (pw_or (pt_cmpR op_isN (pe_fld (pv 2) rfl) pe_non (nomark _)) (pw_or1 (pt_not (pt_val (pe_fld (pv 1) rfl))))))
    (pss_one (ps_ret (pe_gint rfl T.g_NO_USE)))
    pss_nil)
    (pss_cons (ps_if (PW.pt (pw_or (pt_cmpR op_ne (pe_fld (pv 1) rfl) (pe_op op_add (pe_fld (pv 2) rfl) pe_int) (nomark _)) (pw_or1 (pt_cmpR op_in_seq (pe_fld (pv 1) rfl) (pe_fld (pv 2) rfl) (by rfl)))))
    (pss_one (ps_ret (pe_gint rfl T.g_NO_USE)))
    pss_nil)
    (pss_cons (ps_expr (pe_bm PySem.F.plainAttrs_list PySem.F.slot_list_append PySem.F.type_list_append mt_append (pe_fld (pv 2) rfl) (pa_cons (pe_fld (pv 1) rfl) pa_nil)))
    (pss_one (ps_ret (pe_ok O_ask_if_most_would hr (by decide) rfl (pa_cons (pv 0) (pa_cons (pe_fld (pv 1) rfl) pa_nil))))))))), ?_⟩
    walk_at "go"
    cases ew : (Ag03.node s x.to_).would with
    | none =>
      rw [ew] at hWo k
      have hWo : wv = .non := hWo
      subst hWo
      walk_at "rd"
      exact k 0 lab H rfl R .refl
    | some l =>
      rw [ew] at hWo k
      obtain ⟨wa, rfl, lw, hwa⟩ := hWo
      have hMl := N.would l ew
      dsimp only at k
      walk_at "rd"
      refine ite_nb (fun ey => ?_) (fun ey => ?_)
      · rw [if_pos (.inl ey)] at k
        walk_at "rd"
        exact k 0 lab H rfl R .refl
      · walk_at "rd"
        refine ite_ndec (fun h => ?_) (fun h => ?_)
        · rw [if_pos (.inr (.inl (by omega)))] at k
          walk_at "rd"
          exact k 0 lab H rfl R .refl
        · walk_at "rd"
          refine ite_b (fun ec => ?_) (fun ec => ?_)
          · rw [if_pos (.inr (.inr ec))] at k
            walk_at "rd"
            exact k 0 lab H rfl R .refl
          · rw [if_neg (by rw [ey, ec]; simp; omega)] at k
            walk_at "rd"
            refine rd_app hwa (by rw [List.length_map]; exact small1000 (by have := hMl.len; have := R.inv.five; omega)) (fun H1 h1 u1 => ?_)
            have e1 : l.map vn ++ [vn x.from_] = (l ++ [x.from_]).map vn := by rw [List.map_append]; rfl
            rw [e1] at h1
            have na : p ≠ wa := fun z => by rw [z, lw] at lp; cases lp
            obtain ⟨R1, K1⟩ := R.grow hp (n := { Ag03.node s x.to_ with would := some (l ++ [x.from_]) }) hN u1 (by rw [lw]; rfl) na ⟨_, h1⟩ hP ⟨wa, rfl, lw, h1⟩ lv (u1 _ _ hV (fun z => d2 (by rw [z]))) lg (u1 _ _ hG (fun z => d3 (by rw [z]))) ⟨fun l' e => by cases e; exact hMl.snoc hM.from_ ec, N.votes, N.given⟩
            have hX1 := u1 _ _ hX (fun z => by rw [z, lw] at la; cases la)
            walk_at "rd"
            refine ⟨lab, w, ns, _, x.to_, l ++ [x.from_], rfl, R1, by rw [set_len]; exact hM.to_, hlo, by rw [node_set hM.to_], fun v lab2 H2 e2 R2 K2 => ?_⟩
            exact k v lab2 H2 e2 R2 (K1.trans K2)
end
end Hfs
namespace Hfs
open PySem PySem.Spec PyProof.Rows L2
set_option hygiene false in
local macro_rules | `(tactic| walk_at "rd") => `(tactic| repeat (first
  | (with_reducible refine rd_seq ?_) | (with_reducible refine rd_next ?_) | (with_reducible refine rd_asg ?_) | (with_reducible refine rd_ret ?_) | (with_reducible refine rd_retN ?_) | (with_reducible refine rd_drop ?_)
  | (with_reducible refine rd_ifS ?_) | (with_reducible refine rd_test ?_) | (with_reducible refine rd_tB ?_) | (with_reducible refine rd_not ?_) | (with_reducible refine rd_and ?_) | (with_reducible refine rd_or ?_)
  | (with_reducible refine rd_andV ?_) | (with_reducible refine rd_orV ?_) | (with_reducible refine rd_notV ?_) | (with_reducible refine rd_if ?_) | (with_reducible refine rd_op ?_) | (with_reducible refine rd_I0 ?_)
  | (with_reducible refine rd_eqI ?_) | (with_reducible refine rd_neI ?_) | (with_reducible refine rd_eqB ?_) | (with_reducible refine rd_nil ?_) | (with_reducible refine rd_cons ?_) | (with_reducible refine rd_call ?_)
  | (with_reducible refine rd_cb ?_) | (with_reducible refine rd_fld ?_) | (with_reducible refine rd_sfld ?_) | (with_reducible refine rd_lst ?_) | (with_reducible refine rd_make ?_) | (with_reducible refine rd_c ?_)
  | (with_reducible refine rd_bm ?_) | (with_reducible refine rd_for ?_) | (with_reducible refine rd_rng1 ?_) | (with_reducible refine rd_gname ?_)
  | ((with_reducible refine' And.intro (tyL ?h1) ?_); (case h1 => assumption))
  | ((with_reducible refine' rd_len ?h1 ?_); (case h1 => assumption))
  | (refine ⟨_, _, (rfl : [V.int _, V.int _] = [V.int _, V.int _]), ?_⟩) | (with_reducible refine rd_ilist ?_) | (with_reducible refine rd_lc ?_) | (with_reducible refine rd_yes ?_) | (with_reducible refine rd_chain ?_)
  | ((with_reducible refine' rd_ilistR ?h1 ?_); (case h1 => assumption))
  | ((with_reducible refine' rd_in ?h1 ?_); (case h1 => assumption)) | (with_reducible refine rd_eqVn ?_) | (with_reducible refine rd_eqVs ?_)
  | (with_reducible refine rd_bl ?_) | (with_reducible refine And.intro (rfl : V.non = V.non) ?_) | (with_reducible refine iteT ?_) | (with_reducible refine iteF ?_)
  | (with_reducible refine ite_rn ?_) | (with_reducible refine ite_nn ?_) | (with_reducible refine ite_nrn ?_) | (with_reducible refine ite_nnn ?_)
  | ((with_reducible refine' rd_var ?h1 ?_); (case h1 => rfl))
  | ((with_reducible refine' rd_fN T ?h1 ?h2 ?h3 ?_); (case h1 => assumption); (case h2 => rfl); (case h3 => decide +kernel))
  | ((with_reducible refine' rd_fW T ?h1 ?h2 ?h3 ?_); (case h1 => assumption); (case h2 => rfl); (case h3 => decide +kernel))
  | ((with_reducible refine' rd_fL T ?h1 ?h2 ?h3 ?_); (case h1 => assumption); (case h2 => rfl); (case h3 => decide +kernel))
  | ((with_reducible refine' rd_fP T ?h1 ?h2 ?h3 ?_); (case h1 => assumption); (case h2 => rfl); (case h3 => decide +kernel))
  | ((with_reducible refine' rd_ixL ?h1 ?h2 ?_); (case h1 => assumption); (case h2 => assumption))
  | ((with_reducible refine' rd_stN T ?h1 ?h2 ?h3 ?_); (case h1 => assumption); (case h2 => rfl); (case h3 => decide +kernel))
  | ((with_reducible refine' rd_stW T ?h1 ?h2 ?h3 ?_); (case h1 => assumption); (case h2 => rfl); (case h3 => decide +kernel))
  | ((with_reducible refine' rd_lstR ?h1 ?_); (case h1 => first | (show 0 ≤ sizeLine; decide +kernel) | (show 1 ≤ sizeLine; decide +kernel) | (show 2 ≤ sizeLine; decide +kernel) | (show 3 ≤ sizeLine; decide +kernel) | (show 4 ≤ sizeLine; decide +kernel) | (show 5 ≤ sizeLine; decide +kernel) | (show 6 ≤ sizeLine; decide +kernel)))
  | (with_reducible refine rd_tup ?_) | ((with_reducible refine' rd_tupR ?h1 ?_); (case h1 => (show 2 ≤ sizeLine; decide +kernel)))
  | (with_reducible refine rd_asgG ?_) | (with_reducible refine rd_gsub ?_) | (with_reducible refine rd_sl ?_) | (with_reducible refine rd_nopart ?_) | (with_reducible refine rd_part ?_) | (with_reducible refine rd_pint ?_) | (with_reducible refine rd_enum ?_)
  | ((with_reducible refine' rd_ix0 ?h1 ?_); (case h1 => assumption)) | ((with_reducible refine' rd_ix1 ?h1 ?_); (case h1 => assumption)) | ((with_reducible refine' rd_ix2 ?h1 ?_); (case h1 => assumption))
  | (with_reducible refine ite_bit ?_)))
set_option hygiene false in
local macro_rules | `(tactic| walk_at "go") => `(tactic| ((try simp only [cxK]); walk_at "rd"))
set_option hygiene false in
local macro_rules | `(tactic| walk_at "lit") => `(tactic| ((repeat (walk_at "rd"; first | (refine ite_decF (by decide) ?_) | (refine ite_decT (by decide) ?_))); walk_at "rd"))
section
variable {P : Program} {w : World} {K : PySem.W.Frag} {mg : Str → Option Value} {base : Heap} {c : Cs}
theorem any_free : ¬ Tag.any .free := id
theorem ok_get_vote {f : Addr} {fd : FuncData} (F : Fun K "get_vote" "get_vote" s_get_vote f fd) (T : Txt K mg c) (O_is_bound : Ok P w K mg base "is_bound" 1 ["node", "against"] (sp_is_bound c)) (O_hear_of_term : Ok P w K mg base "hear_of_term" 1 ["node", "term"] (sp_hear_of_term c)) (O_reply : Ok P w K mg base "reply" 3 ["world", "letter", "kind", "term", "number", "yes"] (sp_reply c)) : FnOk P w K mg base CX0 4 f fd ["world", "letter"] (sp_get_vote c) := by
  refine F.ok sc_get_vote (fun vs H Q E h => ?_) (fun cdv A outer s H vs Q E hr h => ?_)
  · obtain ⟨lab, w, ns, s, a, x, rfl, _⟩ := h
    rfl
  · skip
    obtain ⟨lab, w, ns, s, a, x, rfl, R, hA, hM, hlo, hk, hu, k⟩ := h
    obtain ⟨dw, wl, nl, rl, ls, ll, ts, W⟩ := R.wd
    have hW := W.ob
    have hL := W.nl
    obtain ⟨dl, la, hX⟩ := id hA
    obtain ⟨p, hp⟩ := R.at_ hM.to_
    have hp' : (ns.map V.ref)[x.to_]? = some (.ref p) := by rw [List.getElem?_map, hp]; rfl
    obtain ⟨dx, pr, wv, va, ga, hN, hP, hWo, lv, hV, lg, hG, d1, d2, d3⟩ := (R.nd _ p hp).apart
    have lp := (R.nd _ p hp).lb
    have N := R.inv.gnode hM.to_
    rw [hand2 rfl hk hu] at k
    refine ⟨_, (pss_cons (ps_set (i := 2) sc_get_vote.nd rfl (Or.inl rfl) (pe_ix ix_list (pe_fld (pv 0) rfl) (pe_fld (pv 1) rfl) (fun _ _ => rfl)))
    (pss_cons (ps_if (pt_val (pe_ok O_is_bound hr (by decide) rfl (pa_cons (pv 2) (pa_cons (pe_fld (pv 1) rfl) pa_nil))))
    (pss_one (ps_ret (pe_gint rfl T.g_NO_USE)))
    pss_nil)
    (pss_cons (ps_expr (pe_ok O_hear_of_term hr (by decide) rfl (pa_cons (pv 2) (pa_cons (pe_fld (pv 1) rfl) pa_nil))))
    (pss_cons (ps_set (i := 3) sc_get_vote.nd rfl (Or.inl rfl) (pe_or (pe_cmpR op_eq (pe_fld (pv 2) rfl) (pe_gint rfl T.g_NOBODY) (nomark _)) (pe_one (pe_cmpR op_eq (pe_fld (pv 2) rfl) (pe_fld (pv 1) rfl) (nomark _)))))
    (pss_cons (ps_set (i := 4) sc_get_vote.nd rfl (Or.inl rfl) (pe_and (pe_cmpR op_eq (pe_fld (pv 2) rfl) (pe_fld (pv 1) rfl) (nomark _)) (pe_and (pv 3) (pe_one (pe_cmpR op_le (pe_fld (pv 2) rfl) (pe_fld (pv 1) rfl) (nomark _))))))
    (pss_cons (ps_if (pt_val (pv 4))
    (pss_one (ps_fld (pv 2) (pe_fld (pv 1) rfl) rfl))
    pss_nil)
    (pss_one (ps_ret (pe_ok O_reply hr (by decide) rfl (pa_cons (pv 0) (pa_cons (pv 1) (pa_cons (pe_gint rfl T.g_VOTED) (pa_cons (pe_fld (pv 2) rfl) (pa_cons pe_int (pa_cons (pv 4) pa_nil))))))))))))))), ?_⟩
    walk_at "go"
    refine ⟨lab, x.to_, p, _, x.from_, rfl, R.nd _ p hp, ?_⟩
    walk_at "rd"
    refine ite_b (fun eb => ?_) (fun eb => ?_)
    · rw [if_pos eb] at k
      walk_at "rd"
      exact k 0 lab H rfl R .refl
    · rw [if_neg (by rw [eb]; exact Bool.false_ne_true)] at k
      walk_at "rd"
      refine ⟨lab, w, ns, s, x.to_, p, x.term, rfl, R, hp, fun lab1 H1 R1 K1 => ?_⟩
      generalize hm : Ag03.hear (Ag03.node s x.to_) x.term = m at k R1
      obtain ⟨dx1, pr1, wv1, va1, ga1, hN1, hP1, hWo1, lv1, hV1, lg1, hG1, e11, e12, e13⟩ := (R1.nd _ p hp).apart
      rw [node_set hM.to_] at hN1 hP1 hWo1 hV1 hG1
      have lp1 := (R1.nd _ p hp).lb
      have N1 := R1.inv.gnode (i := x.to_) (by rw [set_len]; exact hM.to_)
      rw [node_set hM.to_] at N1
      have hA1 := hA.keep K1 any_free
      obtain ⟨dl1, la1, hX1⟩ := id hA1
      walk_at "rd"
      refine ite_or (b := m.voted == some x.from_) (fun Q' q => ?_) ?_
      · walk_at "rd"
        exact q
      · walk_at "rd"
        refine ite_and (b := (m.voted == none || m.voted == some x.from_) && decide ((m.rank : Int) ≤ (x.num : Int))) (fun Q' q => ?_) ?_
        · walk_at "rd"
          refine ite_and (fun Q2 q2 => ?_) q
          walk_at "rd"
          exact q2
        · have ey : (x.term == m.term && ((m.voted == none || m.voted == some x.from_) && decide (m.rank ≤ x.num))) = (decide ((m.term : Int) = (x.term : Int)) && ((m.voted == none || m.voted == some x.from_) && decide ((m.rank : Int) ≤ (x.num : Int)))) := by
            have e1 : (x.term == m.term) = decide ((m.term : Int) = (x.term : Int)) := by
              rw [Bool.eq_iff_iff]
              simp
              omega
            have e2 : decide (m.rank ≤ x.num) = decide ((m.rank : Int) ≤ (x.num : Int)) := decide_eq_decide.mpr (by omega)
            rw [e1, e2]
          rw [ey] at k
          clear ey
          generalize (decide ((m.term : Int) = (x.term : Int)) && ((m.voted == none || m.voted == some x.from_) && decide ((m.rank : Int) ≤ (x.num : Int)))) = y at k
          walk_at "rd"
          refine ite_b (fun ey => ?_) (fun ey => ?_)
          · rw [if_pos ey] at k
            walk_at "rd"
            intro H2 h2 u2
            have nap : a ≠ p := fun z => by rw [z, lp1] at la1; cases la1
            have hX2 := u2 _ _ hX1 nap
            refine R1.shut hp u2 (n := { m with voted := some x.from_ }) (wv := wv1) h2 (.old hP1 u2 (by rw [lp1]; exact fun q => nomatch q)) (.old hWo1 u2 (by rw [lp1]; exact fun q => nomatch q)) (.old lv1 hV1 u2 (by rw [lp1]; exact fun q => nomatch q)) (.old lg1 hG1 u2 (by rw [lp1]; exact fun q => nomatch q)) e11 e12 e13 ⟨N1.would, N1.votes, N1.given⟩ fun lab2 R2 K2 => ?_
            rw [set_set] at R2
            walk_at "rd"
            refine ⟨lab2, w, ns, _, a, x, 3, m.term, 0, y, rfl, R2, hA1.keep K2 any_free, by rw [set_len]; exact hM, by decide, fun lab3 H3 R3 K3 => ?_⟩
            exact k 1 lab3 H3 rfl R3 ((K1.trans K2).trans K3)
          · rw [if_neg (by rw [ey]; exact Bool.false_ne_true)] at k
            walk_at "rd"
            refine ⟨lab1, w, ns, _, a, x, 3, m.term, 0, y, rfl, R1, hA1, by rw [set_len]; exact hM, by decide, fun lab3 H3 R3 K3 => ?_⟩
            exact k 1 lab3 H3 rfl R3 (K1.trans K3)
theorem ok_get_promise {f : Addr} {fd : FuncData} (F : Fun K "get_promise" "get_promise" s_get_promise f fd) (T : Txt K mg c) (O_hear_of_term : Ok P w K mg base "hear_of_term" 1 ["node", "term"] (sp_hear_of_term c)) (O_promise_to : Ok P w K mg base "promise_to" 3 ["world", "node", "whom", "term"] (sp_promise_to c)) (O_reply : Ok P w K mg base "reply" 3 ["world", "letter", "kind", "term", "number", "yes"] (sp_reply c)) (O_is_bound : Ok P w K mg base "is_bound" 1 ["node", "against"] (sp_is_bound c)) : FnOk P w K mg base CX0 4 f fd ["world", "letter"] (sp_get_promise c) := by
  refine F.ok sc_get_promise (fun vs H Q E h => ?_) (fun cdv A outer s H vs Q E hr h => ?_)
  · obtain ⟨lab, w, ns, s, a, x, rfl, _⟩ := h
    rfl
  · skip
    obtain ⟨lab, w, ns, s, a, x, rfl, R, hA, hM, hlo, hk, hu, k⟩ := h
    obtain ⟨dw, wl, nl, rl, ls, ll, ts, W⟩ := R.wd
    have hW := W.ob
    have hL := W.nl
    obtain ⟨dl, la, hX⟩ := id hA
    obtain ⟨p, hp⟩ := R.at_ hM.to_
    have hp' : (ns.map V.ref)[x.to_]? = some (.ref p) := by rw [List.getElem?_map, hp]; rfl
    obtain ⟨dx, pr, wv, va, ga, hN, hP, hWo, lv, hV, lg, hG, d1, d2, d3⟩ := (R.nd _ p hp).apart
    have lp := (R.nd _ p hp).lb
    have N := R.inv.gnode hM.to_
    rw [hand4 rfl hk hu] at k
    refine ⟨_, (pss_cons (ps_set (i := 2) sc_get_promise.nd rfl (Or.inl rfl) (pe_ix ix_list (pe_fld (pv 0) rfl) (pe_fld (pv 1) rfl) (fun _ _ => rfl)))
    (pss_cons (ps_if (PW.pt (pw_or (pt_cmpR op_gt (pe_fld (pv 2) rfl) (pe_fld (pv 1) rfl) (nomark _)) (pw_or1 (pt_val (pe_ok O_is_bound hr (by decide) rfl (pa_cons (pv 2) (pa_cons (pe_fld (pv 1) rfl) pa_nil)))))))
    (pss_one (ps_ret (pe_ok O_reply hr (by decide) rfl (pa_cons (pv 0) (pa_cons (pv 1) (pa_cons (pe_gint rfl T.g_PROMISED) (pa_cons (pe_fld (pv 2) rfl) (pa_cons (pe_fld (pv 1) rfl) (pa_cons pe_bl pa_nil)))))))))
    pss_nil)
    (pss_cons (ps_expr (pe_ok O_hear_of_term hr (by decide) rfl (pa_cons (pv 2) (pa_cons (pe_fld (pv 1) rfl) pa_nil))))
    (pss_cons (ps_expr (pe_ok O_promise_to hr (by decide) rfl (pa_cons (pv 0) (pa_cons (pv 2) (pa_cons (pe_fld (pv 1) rfl) (pa_cons (pe_fld (pv 1) rfl) pa_nil))))))
    (pss_cons (ps_fld (pv 2) pe_non rfl)
    (pss_cons (ps_if (pt_cmpR op_eq (pe_fld (pv 2) rfl) (pe_gint rfl T.g_ASKS) (nomark _))
    (pss_one (ps_fld (pv 2) (pe_gint rfl T.g_FOLLOWS) rfl))
    pss_nil)
    (pss_one (ps_ret (pe_ok O_reply hr (by decide) rfl (pa_cons (pv 0) (pa_cons (pv 1) (pa_cons (pe_gint rfl T.g_PROMISED) (pa_cons (pe_fld (pv 2) rfl) (pa_cons (pe_fld (pv 1) rfl) (pa_cons pe_bl pa_nil))))))))))))))), ?_⟩
    walk_at "go"
    refine ite_dec (fun h => ?_) (fun h => ?_)
    · rw [if_pos (.inl (by omega))] at k
      walk_at "rd"
      refine ⟨lab, w, ns, _, a, x, 5, (Ag03.node s x.to_).term, x.num, false, rfl, R, hA, hM, by decide, fun lab3 H3 R3 K3 => ?_⟩
      exact k 1 lab3 H3 rfl R3 K3
    · walk_at "rd"
      refine ⟨lab, x.to_, p, _, x.from_, rfl, R.nd _ p hp, ?_⟩
      walk_at "rd"
      refine ite_b (fun eb => ?_) (fun eb => ?_)
      · rw [if_pos (.inr eb)] at k
        walk_at "rd"
        refine ⟨lab, w, ns, _, a, x, 5, (Ag03.node s x.to_).term, x.num, false, rfl, R, hA, hM, by decide, fun lab3 H3 R3 K3 => ?_⟩
        exact k 1 lab3 H3 rfl R3 K3
      · rw [if_neg (by rw [eb]; simp; omega)] at k
        walk_at "rd"
        refine ⟨lab, w, ns, s, x.to_, p, x.term, rfl, R, hp, fun lab1 H1 R1 K1 => ?_⟩
        generalize hm : Ag03.hear (Ag03.node s x.to_) x.term = m at k R1
        obtain ⟨dx1, pr1, wv1, va1, ga1, hN1, hP1, hWo1, lv1, hV1, lg1, hG1, e11, e12, e13⟩ := (R1.nd _ p hp).apart
        rw [node_set hM.to_] at hN1 hP1 hWo1 hV1 hG1
        have lp1 := (R1.nd _ p hp).lb
        have N1 := R1.inv.gnode (i := x.to_) (by rw [set_len]; exact hM.to_)
        rw [node_set hM.to_] at N1
        have hA1 := hA.keep K1 any_free
        obtain ⟨dl1, la1, hX1⟩ := id hA1
        walk_at "rd"
        refine ⟨lab1, w, ns, _, x.to_, p, x.from_, x.term, rfl, R1, hp, fun lab2 H2 R2 K2 => ?_⟩
        rw [set_set, node_set hM.to_] at R2
        have R2 : Rep c lab2 H2 w ns (Ag03.setNode s x.to_ (Ag03.promised s m x.from_ x.term)) := R2
        obtain ⟨dx2, pr2, wv2, va2, ga2, hN2, hP2, hWo2, lv2, hV2, lg2, hG2, e21, e22, e23⟩ := (R2.nd _ p hp).apart
        rw [node_set hM.to_] at hN2 hP2 hWo2 hV2 hG2
        have lp2 := (R2.nd _ p hp).lb
        have N2 := R2.inv.gnode (i := x.to_) (by rw [set_len]; exact hM.to_)
        rw [node_set hM.to_] at N2
        have hA2 := hA1.keep K2 any_free
        obtain ⟨dl2, la2, hX2⟩ := id hA2
        have nap : a ≠ p := fun z => by rw [z, lp2] at la2; cases la2
        walk_at "rd"
        intro H3 h3 u3
        have hX3 := u3 _ _ hX2 nap
        walk_at "rd"
        refine ite_dec (fun hr1 => ?_) (fun hr1 => ?_)
        · rw [if_pos (show m.role = 1 by have : (Ag03.promised s m x.from_ x.term).role = m.role := rfl; omega)] at k
          walk_at "rd"
          intro H4 h4 u4
          have hX4 := u4 _ _ hX3 nap
          have uu := u3.trans u4
          refine R2.shut hp uu (n := { Ag03.promised s m x.from_ x.term with would := none, role := 0 }) (wv := .non) h4 (.old hP2 uu (by rw [lp2]; exact fun q => nomatch q)) rfl (.old lv2 hV2 uu (by rw [lp2]; exact fun q => nomatch q)) (.old lg2 hG2 uu (by rw [lp2]; exact fun q => nomatch q)) e21 (fun q => nomatch q) (fun q => nomatch q) ⟨(fun l h => none_ne h), N2.votes, N2.given⟩ fun lab3 R3 K3 => ?_
          rw [set_set] at R3
          walk_at "rd"
          refine ⟨lab3, w, ns, _, a, x, 5, m.term, x.num, true, rfl, R3, hA2.keep K3 any_free, by rw [set_len]; exact hM, by decide, fun lab4 H5 R4 K4 => ?_⟩
          exact k 1 lab4 H5 rfl R4 (((K1.trans K2).trans K3).trans K4)
        · rw [if_neg (show ¬ m.role = 1 by have : (Ag03.promised s m x.from_ x.term).role = m.role := rfl; omega)] at k
          walk_at "rd"
          refine R2.shut hp u3 (n := { Ag03.promised s m x.from_ x.term with would := none, role := m.role }) (wv := .non) h3 (.old hP2 u3 (by rw [lp2]; exact fun q => nomatch q)) rfl (.old lv2 hV2 u3 (by rw [lp2]; exact fun q => nomatch q)) (.old lg2 hG2 u3 (by rw [lp2]; exact fun q => nomatch q)) e21 (fun q => nomatch q) (fun q => nomatch q) ⟨(fun l h => none_ne h), N2.votes, N2.given⟩ fun lab3 R3 K3 => ?_
          rw [set_set] at R3
          walk_at "rd"
          refine ⟨lab3, w, ns, _, a, x, 5, m.term, x.num, true, rfl, R3, hA2.keep K3 any_free, by rw [set_len]; exact hM, by decide, fun lab4 H5 R4 K4 => ?_⟩
          exact k 1 lab4 H5 rfl R4 (((K1.trans K2).trans K3).trans K4)
end
end Hfs
namespace Hfs
open PySem PySem.Spec PyProof.Rows L2
set_option hygiene false in
local macro_rules | `(tactic| walk_at "rd") => `(tactic| repeat (first
  | (with_reducible refine rd_seq ?_) | (with_reducible refine rd_next ?_) | (with_reducible refine rd_asg ?_) | (with_reducible refine rd_ret ?_) | (with_reducible refine rd_retN ?_) | (with_reducible refine rd_drop ?_)
  | (with_reducible refine rd_ifS ?_) | (with_reducible refine rd_test ?_) | (with_reducible refine rd_tB ?_) | (with_reducible refine rd_not ?_) | (with_reducible refine rd_and ?_) | (with_reducible refine rd_or ?_)
  | (with_reducible refine rd_andV ?_) | (with_reducible refine rd_orV ?_) | (with_reducible refine rd_notV ?_) | (with_reducible refine rd_if ?_) | (with_reducible refine rd_op ?_) | (with_reducible refine rd_I0 ?_)
  | (with_reducible refine rd_eqI ?_) | (with_reducible refine rd_neI ?_) | (with_reducible refine rd_eqB ?_) | (with_reducible refine rd_nil ?_) | (with_reducible refine rd_cons ?_) | (with_reducible refine rd_call ?_)
  | (with_reducible refine rd_cb ?_) | (with_reducible refine rd_fld ?_) | (with_reducible refine rd_sfld ?_) | (with_reducible refine rd_lst ?_) | (with_reducible refine rd_make ?_) | (with_reducible refine rd_c ?_)
  | (with_reducible refine rd_bm ?_) | (with_reducible refine rd_for ?_) | (with_reducible refine rd_rng1 ?_) | (with_reducible refine rd_gname ?_)
  | ((with_reducible refine' And.intro (tyL ?h1) ?_); (case h1 => assumption))
  | ((with_reducible refine' rd_len ?h1 ?_); (case h1 => assumption))
  | (refine ⟨_, _, (rfl : [V.int _, V.int _] = [V.int _, V.int _]), ?_⟩) | (with_reducible refine rd_ilist ?_) | (with_reducible refine rd_lc ?_) | (with_reducible refine rd_yes ?_) | (with_reducible refine rd_chain ?_)
  | ((with_reducible refine' rd_ilistR ?h1 ?_); (case h1 => assumption))
  | ((with_reducible refine' rd_in ?h1 ?_); (case h1 => assumption)) | (with_reducible refine rd_eqVn ?_) | (with_reducible refine rd_eqVs ?_)
  | (with_reducible refine rd_bl ?_) | (with_reducible refine And.intro (rfl : V.non = V.non) ?_) | (with_reducible refine iteT ?_) | (with_reducible refine iteF ?_)
  | (with_reducible refine ite_rn ?_) | (with_reducible refine ite_nn ?_) | (with_reducible refine ite_nrn ?_) | (with_reducible refine ite_nnn ?_)
  | ((with_reducible refine' rd_var ?h1 ?_); (case h1 => rfl))
  | ((with_reducible refine' rd_fN T ?h1 ?h2 ?h3 ?_); (case h1 => assumption); (case h2 => rfl); (case h3 => decide +kernel))
  | ((with_reducible refine' rd_fW T ?h1 ?h2 ?h3 ?_); (case h1 => assumption); (case h2 => rfl); (case h3 => decide +kernel))
  | ((with_reducible refine' rd_fL T ?h1 ?h2 ?h3 ?_); (case h1 => assumption); (case h2 => rfl); (case h3 => decide +kernel))
  | ((with_reducible refine' rd_fP T ?h1 ?h2 ?h3 ?_); (case h1 => assumption); (case h2 => rfl); (case h3 => decide +kernel))
  | ((with_reducible refine' rd_ixL ?h1 ?h2 ?_); (case h1 => assumption); (case h2 => assumption))
  | ((with_reducible refine' rd_stN T ?h1 ?h2 ?h3 ?_); (case h1 => assumption); (case h2 => rfl); (case h3 => decide +kernel))
  | ((with_reducible refine' rd_stW T ?h1 ?h2 ?h3 ?_); (case h1 => assumption); (case h2 => rfl); (case h3 => decide +kernel))
  | ((with_reducible refine' rd_lstR ?h1 ?_); (case h1 => first | (show 0 ≤ sizeLine; decide +kernel) | (show 1 ≤ sizeLine; decide +kernel) | (show 2 ≤ sizeLine; decide +kernel) | (show 3 ≤ sizeLine; decide +kernel) | (show 4 ≤ sizeLine; decide +kernel) | (show 5 ≤ sizeLine; decide +kernel) | (show 6 ≤ sizeLine; decide +kernel)))
  | (with_reducible refine rd_tup ?_) | ((with_reducible refine' rd_tupR ?h1 ?_); (case h1 => (show 2 ≤ sizeLine; decide +kernel)))
  | (with_reducible refine rd_asgG ?_) | (with_reducible refine rd_gsub ?_) | (with_reducible refine rd_sl ?_) | (with_reducible refine rd_nopart ?_) | (with_reducible refine rd_part ?_) | (with_reducible refine rd_pint ?_) | (with_reducible refine rd_enum ?_)
  | ((with_reducible refine' rd_ix0 ?h1 ?_); (case h1 => assumption)) | ((with_reducible refine' rd_ix1 ?h1 ?_); (case h1 => assumption)) | ((with_reducible refine' rd_ix2 ?h1 ?_); (case h1 => assumption))
  | (with_reducible refine ite_bit ?_)))
set_option hygiene false in
local macro_rules | `(tactic| walk_at "go") => `(tactic| ((try simp only [cxK]); walk_at "rd"))
set_option hygiene false in
local macro_rules | `(tactic| walk_at "lit") => `(tactic| ((repeat (walk_at "rd"; first | (refine ite_decF (by decide) ?_) | (refine ite_decT (by decide) ?_))); walk_at "rd"))
section
variable {P : Program} {w : World} {K : PySem.W.Frag} {mg : Str → Option Value} {base : Heap} {c : Cs}
theorem any_free2 : ¬ Tag.any .free := id
theorem ok_get_promised {f : Addr} {fd : FuncData} (F : Fun K "get_promised" "get_promised" s_get_promised f fd) (T : Txt K mg c) (O_hold_if_most_gave : Ok P w K mg base "hold_if_most_gave" 2 ["world", "node"] (sp_hold_if_most_gave c)) (O_hear_of_term : Ok P w K mg base "hear_of_term" 1 ["node", "term"] (sp_hear_of_term c)) : FnOk P w K mg base CX0 3 f fd ["world", "letter"] (sp_get_promised c) := by
  refine F.ok sc_get_promised (fun vs H Q E h => ?_) (fun cdv A outer s H vs Q E hr h => ?_)
  · obtain ⟨lab, w, ns, s, a, x, rfl, _⟩ := h
    rfl
  · skip
    obtain ⟨lab, w, ns, s, a, x, rfl, R, hA, hM, hlo, hk, hu, k⟩ := h
    obtain ⟨dw, wl, nl, rl, ls, ll, ts, W⟩ := R.wd
    have hW := W.ob
    have hL := W.nl
    obtain ⟨dl, la, hX⟩ := id hA
    obtain ⟨p, hp⟩ := R.at_ hM.to_
    have hp' : (ns.map V.ref)[x.to_]? = some (.ref p) := by rw [List.getElem?_map, hp]; rfl
    obtain ⟨dx, pr, wv, va, ga, hN, hP, hWo, lv, hV, lg, hG, d1, d2, d3⟩ := (R.nd _ p hp).apart
    have lp := (R.nd _ p hp).lb
    have N := R.inv.gnode hM.to_
    rw [hand5 rfl hk hu] at k
    refine ⟨_, (pss_cons (ps_set (i := 2) sc_get_promised.nd rfl (Or.inl rfl) (pe_ix ix_list (pe_fld (pv 0) rfl) (pe_fld (pv 1) rfl) (fun _ _ => rfl)))
    (pss_cons (ps_if (pt_cmpR op_lt (pe_fld (pv 2) rfl) (pe_fld (pv 1) rfl) (nomark _))
    (pss_cons (ps_expr (pe_ok O_hear_of_term hr (by decide) rfl (pa_cons (pv 2) (pa_cons (pe_fld (pv 1) rfl) pa_nil))))
    (pss_one (ps_ret (pe_gint rfl T.g_HEARD_OF_TERM))))
    pss_nil)
    (pss_cons (ps_if (PW.pt (pw_or (pt_cmpR op_ne (pe_fld (pv 2) rfl) (pe_gint rfl T.g_LEADS) (nomark _)) (pw_or1 (pt_not (pt_val (pe_fld (pv 1) rfl))))))
    (pss_one (ps_ret (pe_gint rfl T.g_NO_USE)))
    pss_nil)
    (pss_cons (ps_if (PW.pt (pw_or (pt_cmpR op_ne (pe_fld (pv 1) rfl) (pe_fld (pv 2) rfl) (nomark _)) (pw_or (pt_cmpR op_ne (pe_fld (pv 1) rfl) (pe_fld (pv 2) rfl) (nomark _)) (pw_or1 (pt_cmpR op_in_seq (pe_fld (pv 1) rfl) (pe_fld (pv 2) rfl) (by rfl))))))
    (pss_one (ps_ret (pe_gint rfl T.g_NO_USE)))
    pss_nil)
    (pss_cons (ps_set (i := 3) sc_get_promised.nd rfl (Or.inl rfl) (pe_fld (pv 2) rfl))
    (pss_cons (ps_expr (pe_bm PySem.F.plainAttrs_list PySem.F.slot_list_append PySem.F.type_list_append mt_append (pe_fld (pv 2) rfl) (pa_cons (pe_fld (pv 1) rfl) pa_nil)))
    (pss_cons (ps_expr (pe_ok O_hold_if_most_gave hr (by decide) rfl (pa_cons (pv 0) (pa_cons (pv 2) pa_nil))))
    (pss_one (ps_ret (pe_ifExp (pt_cmpR op_gt (pe_fld (pv 2) rfl) (pv 3) (nomark _)) (pe_gint rfl T.g_HOLDS_LATER) (pe_gint rfl T.g_COUNTED))))))))))), ?_⟩
    walk_at "go"
    refine ite_dec (fun h => ?_) (fun h => ?_)
    · rw [if_pos (by omega)] at k
      walk_at "rd"
      refine ⟨lab, w, ns, s, x.to_, p, x.term, rfl, R, hp, fun lab1 H1 R1 K1 => ?_⟩
      walk_at "rd"
      exact k 6 lab1 H1 rfl R1 K1
    · rw [if_neg (by omega)] at k
      walk_at "rd"
      refine ite_ndec (fun h2 => ?_) (fun h2 => ?_)
      · rw [if_pos (.inl (by omega))] at k
        walk_at "rd"
        exact k 0 lab H rfl R .refl
      · walk_at "rd"
        refine ite_nb (fun ey => ?_) (fun ey => ?_)
        · rw [if_pos (.inr (.inl ey))] at k
          walk_at "rd"
          exact k 0 lab H rfl R .refl
        · walk_at "rd"
          refine ite_ndec (fun h3 => ?_) (fun h3 => ?_)
          · rw [if_pos (.inr (.inr (.inl (by omega))))] at k
            walk_at "rd"
            exact k 0 lab H rfl R .refl
          · walk_at "rd"
            refine ite_ndec (fun h4 => ?_) (fun h4 => ?_)
            · rw [if_pos (.inr (.inr (.inr (.inl (by omega)))))] at k
              walk_at "rd"
              exact k 0 lab H rfl R .refl
            · walk_at "rd"
              refine ite_b (fun ec => ?_) (fun ec => ?_)
              · rw [if_pos (.inr (.inr (.inr (.inr ec))))] at k
                walk_at "rd"
                exact k 0 lab H rfl R .refl
              · rw [if_neg (by rw [ey, ec]; simp; omega)] at k
                walk_at "rd"
                refine rd_app hG (by rw [List.length_map]; exact small1000 (by have := N.given.len; have := R.inv.five; omega)) (fun H1 h1 u1 => ?_)
                have e1 : (Ag03.node s x.to_).given.map vn ++ [vn x.from_] = ((Ag03.node s x.to_).given ++ [x.from_]).map vn := by rw [List.map_append]; rfl
                rw [e1] at h1
                have na : p ≠ ga := fun z => by rw [z, lg] at lp; cases lp
                have wk : WoV lab H1 x.to_ wv (Ag03.node s x.to_).would := by
                  have K0 : Keep (fun t => t = .gi x.to_) lab H lab H1 := .pres u1 lg ⟨_, h1⟩
                  exact hWo.keep K0 (fun q => nomatch q)
                obtain ⟨R1, K1⟩ := R.grow hp (n := { Ag03.node s x.to_ with given := (Ag03.node s x.to_).given ++ [x.from_] }) hN u1 (by rw [lg]; rfl) na ⟨_, h1⟩ hP wk lv (u1 _ _ hV d1) lg h1 ⟨N.would, N.votes, N.given.snoc hM.from_ ec⟩
                walk_at "rd"
                refine ⟨lab, w, ns, _, x.to_, p, rfl, R1, hp, fun lab2 H2 R2 K2 => ?_⟩
                rw [set_set, node_set hM.to_, held_set] at R2
                obtain ⟨dx2, pr2, wv2, va2, ga2, hN2, _⟩ := (R2.nd _ p hp).apart
                rw [node_set hM.to_] at hN2
                walk_at "rd"
                refine ite_dec (fun h5 => ?_) (fun h5 => ?_)
                · dsimp only at h5
                  rw [if_pos (by omega)] at k
                  walk_at "rd"
                  exact k 5 lab2 H2 rfl R2 (K1.trans K2)
                · dsimp only at h5
                  rw [if_neg (by omega)] at k
                  walk_at "rd"
                  exact k 2 lab2 H2 rfl R2 (K1.trans K2)
theorem ok_get_voted {f : Addr} {fd : FuncData} (F : Fun K "get_voted" "get_voted" s_get_voted f fd) (T : Txt K mg c) (O_is_most : Ok P w K mg base "is_most" 1 ["world", "members"] (sp_is_most c)) (O_hear_of_term : Ok P w K mg base "hear_of_term" 1 ["node", "term"] (sp_hear_of_term c)) (O_lead : Ok P w K mg base "lead" 1 ["world", "place"] (sp_lead c)) : FnOk P w K mg base CX0 2 f fd ["world", "letter"] (sp_get_voted c) := by
  refine F.ok sc_get_voted (fun vs H Q E h => ?_) (fun cdv A outer s H vs Q E hr h => ?_)
  · obtain ⟨lab, w, ns, s, a, x, rfl, _⟩ := h
    rfl
  · skip
    obtain ⟨lab, w, ns, s, a, x, rfl, R, hA, hM, hlo, hk, hu, k⟩ := h
    obtain ⟨dw, wl, nl, rl, ls, ll, ts, W⟩ := R.wd
    have hW := W.ob
    have hL := W.nl
    obtain ⟨dl, la, hX⟩ := id hA
    obtain ⟨p, hp⟩ := R.at_ hM.to_
    have hp' : (ns.map V.ref)[x.to_]? = some (.ref p) := by rw [List.getElem?_map, hp]; rfl
    obtain ⟨dx, pr, wv, va, ga, hN, hP, hWo, lv, hV, lg, hG, d1, d2, d3⟩ := (R.nd _ p hp).apart
    have lp := (R.nd _ p hp).lb
    have N := R.inv.gnode hM.to_
    rw [hand3 rfl hk hu] at k
    refine ⟨_, (pss_cons (ps_set (i := 2) sc_get_voted.nd rfl (Or.inl rfl) (pe_ix ix_list (pe_fld (pv 0) rfl) (pe_fld (pv 1) rfl) (fun _ _ => rfl)))
    (pss_cons (ps_if (pt_cmpR op_lt (pe_fld (pv 2) rfl) (pe_fld (pv 1) rfl) (nomark _))
    (pss_cons (ps_expr (pe_ok O_hear_of_term hr (by decide) rfl (pa_cons (pv 2) (pa_cons (pe_fld (pv 1) rfl) pa_nil))))
    (pss_one (ps_ret (pe_gint rfl T.g_HEARD_OF_TERM))))
    pss_nil)
    (pss_cons (ps_if (PW.pt (pw_or (pt_cmpR op_ne (pe_fld (pv 2) rfl) (pe_gint rfl T.g_ASKS) (nomark _)) (pw_or1 (pt_not (pt_val (pe_fld (pv 1) rfl))))))
    (pss_one (ps_ret (pe_gint rfl T.g_NO_USE)))
    pss_nil)
    (pss_cons (ps_if (PW.pt (pw_or (pt_cmpR op_ne (pe_fld (pv 1) rfl) (pe_fld (pv 2) rfl) (nomark _)) (pw_or1 (pt_cmpR op_in_seq (pe_fld (pv 1) rfl) (pe_fld (pv 2) rfl) (by rfl)))))
    (pss_one (ps_ret (pe_gint rfl T.g_NO_USE)))
    pss_nil)
    (pss_cons (ps_expr (pe_bm PySem.F.plainAttrs_list PySem.F.slot_list_append PySem.F.type_list_append mt_append (pe_fld (pv 2) rfl) (pa_cons (pe_fld (pv 1) rfl) pa_nil)))
    (pss_cons (ps_if (pt_val (pe_ok O_is_most hr (by decide) rfl (pa_cons (pv 0) (pa_cons (pe_fld (pv 2) rfl) pa_nil))))
    (pss_one (ps_ret (pe_ok O_lead hr (by decide) rfl (pa_cons (pv 0) (pa_cons (pe_fld (pv 1) rfl) pa_nil)))))
    pss_nil)
    (pss_one (ps_ret (pe_gint rfl T.g_COUNTED))))))))), ?_⟩
    walk_at "go"
    refine ite_dec (fun h => ?_) (fun h => ?_)
    · rw [if_pos (by omega)] at k
      walk_at "rd"
      refine ⟨lab, w, ns, s, x.to_, p, x.term, rfl, R, hp, fun lab1 H1 R1 K1 => ?_⟩
      walk_at "rd"
      exact k 6 lab1 H1 rfl R1 K1
    · rw [if_neg (by omega)] at k
      walk_at "rd"
      refine ite_ndec (fun h2 => ?_) (fun h2 => ?_)
      · rw [if_pos (.inl (by omega))] at k
        walk_at "rd"
        exact k 0 lab H rfl R .refl
      · walk_at "rd"
        refine ite_nb (fun ey => ?_) (fun ey => ?_)
        · rw [if_pos (.inr (.inl ey))] at k
          walk_at "rd"
          exact k 0 lab H rfl R .refl
        · walk_at "rd"
          refine ite_ndec (fun h3 => ?_) (fun h3 => ?_)
          · rw [if_pos (.inr (.inr (.inl (by omega))))] at k
            walk_at "rd"
            exact k 0 lab H rfl R .refl
          · walk_at "rd"
            refine ite_b (fun ec => ?_) (fun ec => ?_)
            · rw [if_pos (.inr (.inr (.inr ec)))] at k
              walk_at "rd"
              exact k 0 lab H rfl R .refl
            · rw [if_neg (by rw [ey, ec]; simp; omega)] at k
              walk_at "rd"
              have hMv := N.votes.snoc hM.from_ ec
              refine rd_app hV (by rw [List.length_map]; exact small1000 (by have := N.votes.len; have := R.inv.five; omega)) (fun H1 h1 u1 => ?_)
              have e1 : (Ag03.node s x.to_).votes.map vn ++ [vn x.from_] = ((Ag03.node s x.to_).votes ++ [x.from_]).map vn := by rw [List.map_append]; rfl
              rw [e1] at h1
              have na : p ≠ va := fun z => by rw [z, lv] at lp; cases lp
              have wk : WoV lab H1 x.to_ wv (Ag03.node s x.to_).would := by
                have K0 : Keep (fun t => t = .vo x.to_) lab H lab H1 := .pres u1 lv ⟨_, h1⟩
                exact hWo.keep K0 (fun q => nomatch q)
              obtain ⟨R1, K1⟩ := R.grow hp (n := { Ag03.node s x.to_ with votes := (Ag03.node s x.to_).votes ++ [x.from_] }) hN u1 (by rw [lv]; rfl) na ⟨_, h1⟩ hP wk lv h1 lg (u1 _ _ hG d1.symm) ⟨N.would, hMv, N.given⟩
              have hN1 := u1 _ _ hN na
              walk_at "rd"
              refine ⟨lab, w, ns, _, va, _, rfl, R1, h1, by rw [set_len]; exact hMv, fun H2 sm => ?_⟩
              walk_at "rd"
              refine ite_b (fun em => ?_) (fun em => ?_)
              · rw [if_pos em] at k
                have hX2 := sm _ _ (u1 _ _ hX (fun z => by rw [z, lv] at la; cases la))
                walk_at "rd"
                refine ⟨lab, w, ns, _, x.to_, rfl, R1.same sm, by rw [set_len]; exact hM.to_, hlo, fun lab3 H3 R3 K3 => ?_⟩
                exact k 4 lab3 H3 rfl R3 ((K1.trans (.ofSame sm)).trans K3)
              · rw [if_neg (by rw [em]; exact Bool.false_ne_true)] at k
                walk_at "rd"
                exact k 2 lab H2 rfl (R1.same sm) (K1.trans (.ofSame sm))
theorem ok_get_free {f : Addr} {fd : FuncData} (F : Fun K "get_free" "get_free" s_get_free f fd) (T : Txt K mg c) (O_ask : Ok P w K mg base "ask" 4 ["world", "place"] (sp_ask c)) (O_is_bound : Ok P w K mg base "is_bound" 1 ["node", "against"] (sp_is_bound c)) : FnOk P w K mg base CX0 5 f fd ["world", "letter"] (sp_get_free c) := by
  refine F.ok sc_get_free (fun vs H Q E h => ?_) (fun cdv A outer s H vs Q E hr h => ?_)
  · obtain ⟨lab, w, ns, s, a, x, rfl, _⟩ := h
    rfl
  · skip
    obtain ⟨lab, w, ns, s, a, x, rfl, R, hA, hM, hlo, hk, hu, k⟩ := h
    obtain ⟨dw, wl, nl, rl, ls, ll, ts, W⟩ := R.wd
    have hW := W.ob
    have hL := W.nl
    obtain ⟨dl, la, hX⟩ := id hA
    obtain ⟨p, hp⟩ := R.at_ hM.to_
    have hp' : (ns.map V.ref)[x.to_]? = some (.ref p) := by rw [List.getElem?_map, hp]; rfl
    obtain ⟨dx, pr, wv, va, ga, hN, hP, hWo, lv, hV, lg, hG, d1, d2, d3⟩ := (R.nd _ p hp).apart
    have lp := (R.nd _ p hp).lb
    have N := R.inv.gnode hM.to_
    rw [hand6 rfl hk hu] at k
    refine ⟨_, (pss_cons (ps_set (i := 2) sc_get_free.nd rfl (Or.inl rfl) (pe_ix ix_list (pe_fld (pv 0) rfl) (pe_fld (pv 1) rfl) (fun _ _ => rfl)))
    (pss_cons (ps_if (pt_cmpR op_isN (pe_fld (pv 2) rfl) pe_non (nomark _))
    (pss_one (ps_ret (pe_gint rfl T.g_NO_USE)))
    pss_nil)
    (pss_cons (ps_if (PW.pt (pw_or (pt_cmpR op_ne (pe_fld (pe_fld (pv 2) rfl) rfl) (pe_fld (pv 1) rfl) (nomark _)) (pw_or1 (pt_cmpR op_ne (pe_fld (pe_fld (pv 2) rfl) rfl) (pe_fld (pv 1) rfl) (nomark _)))))
    (pss_one (ps_ret (pe_gint rfl T.g_NO_USE)))
    pss_nil)
    (pss_cons (ps_fld (pv 2) pe_non rfl)
    (pss_cons (ps_if (PW.pt (pw_and (pt_val (pe_fld (pv 1) rfl)) (pw_and (pt_cmpR op_eq (pe_fld (pv 2) rfl) (pe_fld (pv 1) rfl) (nomark _)) (pw_and1 (pt_not (pt_val (pe_ok O_is_bound hr (by decide) rfl (pa_cons (pv 2) (pa_cons (pe_fld (pv 1) rfl) pa_nil)))))))))
    (pss_one (ps_ret (pe_ok O_ask hr (by decide) rfl (pa_cons (pv 0) (pa_cons (pe_fld (pv 1) rfl) pa_nil)))))
    pss_nil)
    (pss_one (ps_ret (pe_gint rfl T.g_PROMISE_GONE)))))))), ?_⟩
    walk_at "go"
    cases ep : (Ag03.node s x.to_).promise with
    | none =>
      rw [ep] at hP k
      have hP : pr = .non := hP
      subst hP
      walk_at "rd"
      exact k 0 lab H rfl R .refl
    | some q =>
      rw [ep] at hP k
      obtain ⟨qa, dq, rfl, lq, hq⟩ := hP
      dsimp only at k
      walk_at "rd"
      refine ite_ndec (fun h1 => ?_) (fun h1 => ?_)
      · rw [if_pos (.inl (by omega))] at k
        walk_at "rd"
        exact k 0 lab H rfl R .refl
      · walk_at "rd"
        refine ite_ndec (fun h2 => ?_) (fun h2 => ?_)
        · rw [if_pos (.inr (by omega))] at k
          walk_at "rd"
          exact k 0 lab H rfl R .refl
        · rw [if_neg (by omega)] at k
          walk_at "rd"
          intro H1 hN1 u1
          have nap : a ≠ p := fun z => by rw [z, lp] at la; cases la
          have hX1 := u1 _ _ hX nap
          refine R.shut hp u1 (n := { Ag03.node s x.to_ with promise := none }) (wv := wv) hN1 rfl (.old hWo u1 (by rw [lp]; exact fun q => nomatch q)) (.old lv hV u1 (by rw [lp]; exact fun q => nomatch q)) (.old lg hG u1 (by rw [lp]; exact fun q => nomatch q)) d1 d2 d3 ⟨N.would, N.votes, N.given⟩ fun lab1 R1 K1 => ?_
          have A1 := R1.nd _ p hp
          rw [node_set hM.to_] at A1
          walk_at "rd"
          refine ite_b (fun ey => ?_) (fun ey => ?_)
          · walk_at "rd"
            refine ite_dec (fun h3 => ?_) (fun h3 => ?_)
            · walk_at "rd"
              refine ⟨lab1, x.to_, p, _, x.to_, rfl, A1, ?_⟩
              walk_at "rd"
              refine ite_nb (fun eb => ?_) (fun eb => ?_)
              · rw [if_pos ⟨ey, by omega, eb⟩] at k
                walk_at "rd"
                refine ⟨lab1, w, ns, _, x.to_, rfl, R1, by rw [set_len]; exact hM.to_, hlo, fun v lab2 H2 e2 R2 K2 => ?_⟩
                exact k v lab2 H2 e2 R2 (K1.trans K2)
              · rw [if_neg (by rw [eb]; simp)] at k
                walk_at "rd"
                exact k 7 lab1 H1 rfl R1 K1
            · rw [if_neg (by omega)] at k
              walk_at "rd"
              exact k 7 lab1 H1 rfl R1 K1
          · rw [if_neg (by rw [ey]; simp)] at k
            walk_at "rd"
            exact k 7 lab1 H1 rfl R1 K1
end
end Hfs
namespace Hfs
open PySem PySem.Spec PyProof.Rows L2
set_option hygiene false in
local macro_rules | `(tactic| walk_at "rd") => `(tactic| repeat (first
  | (with_reducible refine rd_seq ?_) | (with_reducible refine rd_next ?_) | (with_reducible refine rd_asg ?_) | (with_reducible refine rd_ret ?_) | (with_reducible refine rd_retN ?_) | (with_reducible refine rd_drop ?_)
  | (with_reducible refine rd_ifS ?_) | (with_reducible refine rd_test ?_) | (with_reducible refine rd_tB ?_) | (with_reducible refine rd_not ?_) | (with_reducible refine rd_and ?_) | (with_reducible refine rd_or ?_)
  | (with_reducible refine rd_andV ?_) | (with_reducible refine rd_orV ?_) | (with_reducible refine rd_notV ?_) | (with_reducible refine rd_if ?_) | (with_reducible refine rd_op ?_) | (with_reducible refine rd_I0 ?_)
  | (with_reducible refine rd_eqI ?_) | (with_reducible refine rd_neI ?_) | (with_reducible refine rd_eqB ?_) | (with_reducible refine rd_nil ?_) | (with_reducible refine rd_cons ?_) | (with_reducible refine rd_call ?_)
  | (with_reducible refine rd_cb ?_) | (with_reducible refine rd_fld ?_) | (with_reducible refine rd_sfld ?_) | (with_reducible refine rd_lst ?_) | (with_reducible refine rd_make ?_) | (with_reducible refine rd_c ?_)
  | (with_reducible refine rd_bm ?_) | (with_reducible refine rd_for ?_) | (with_reducible refine rd_rng1 ?_) | (with_reducible refine rd_gname ?_)
  | ((with_reducible refine' And.intro (tyL ?h1) ?_); (case h1 => assumption))
  | ((with_reducible refine' rd_len ?h1 ?_); (case h1 => assumption))
  | (refine ⟨_, _, (rfl : [V.int _, V.int _] = [V.int _, V.int _]), ?_⟩) | (with_reducible refine rd_ilist ?_) | (with_reducible refine rd_lc ?_) | (with_reducible refine rd_yes ?_) | (with_reducible refine rd_chain ?_)
  | ((with_reducible refine' rd_ilistR ?h1 ?_); (case h1 => assumption))
  | ((with_reducible refine' rd_in ?h1 ?_); (case h1 => assumption)) | (with_reducible refine rd_eqVn ?_) | (with_reducible refine rd_eqVs ?_)
  | (with_reducible refine rd_bl ?_) | (with_reducible refine And.intro (rfl : V.non = V.non) ?_) | (with_reducible refine iteT ?_) | (with_reducible refine iteF ?_)
  | (with_reducible refine ite_rn ?_) | (with_reducible refine ite_nn ?_) | (with_reducible refine ite_nrn ?_) | (with_reducible refine ite_nnn ?_)
  | ((with_reducible refine' rd_var ?h1 ?_); (case h1 => rfl))
  | ((with_reducible refine' rd_fN T ?h1 ?h2 ?h3 ?_); (case h1 => assumption); (case h2 => rfl); (case h3 => decide +kernel))
  | ((with_reducible refine' rd_fW T ?h1 ?h2 ?h3 ?_); (case h1 => assumption); (case h2 => rfl); (case h3 => decide +kernel))
  | ((with_reducible refine' rd_fL T ?h1 ?h2 ?h3 ?_); (case h1 => assumption); (case h2 => rfl); (case h3 => decide +kernel))
  | ((with_reducible refine' rd_fP T ?h1 ?h2 ?h3 ?_); (case h1 => assumption); (case h2 => rfl); (case h3 => decide +kernel))
  | ((with_reducible refine' rd_ixL ?h1 ?h2 ?_); (case h1 => assumption); (case h2 => assumption))
  | ((with_reducible refine' rd_stN T ?h1 ?h2 ?h3 ?_); (case h1 => assumption); (case h2 => rfl); (case h3 => decide +kernel))
  | ((with_reducible refine' rd_stW T ?h1 ?h2 ?h3 ?_); (case h1 => assumption); (case h2 => rfl); (case h3 => decide +kernel))
  | ((with_reducible refine' rd_lstR ?h1 ?_); (case h1 => first | (show 0 ≤ sizeLine; decide +kernel) | (show 1 ≤ sizeLine; decide +kernel) | (show 2 ≤ sizeLine; decide +kernel) | (show 3 ≤ sizeLine; decide +kernel) | (show 4 ≤ sizeLine; decide +kernel) | (show 5 ≤ sizeLine; decide +kernel) | (show 6 ≤ sizeLine; decide +kernel)))
  | (with_reducible refine rd_tup ?_) | ((with_reducible refine' rd_tupR ?h1 ?_); (case h1 => (show 2 ≤ sizeLine; decide +kernel)))
  | (with_reducible refine rd_asgG ?_) | (with_reducible refine rd_gsub ?_) | (with_reducible refine rd_sl ?_) | (with_reducible refine rd_nopart ?_) | (with_reducible refine rd_part ?_) | (with_reducible refine rd_pint ?_) | (with_reducible refine rd_enum ?_)
  | ((with_reducible refine' rd_ix0 ?h1 ?_); (case h1 => assumption)) | ((with_reducible refine' rd_ix1 ?h1 ?_); (case h1 => assumption)) | ((with_reducible refine' rd_ix2 ?h1 ?_); (case h1 => assumption))
  | (with_reducible refine ite_bit ?_)))
set_option hygiene false in
local macro_rules | `(tactic| walk_at "go") => `(tactic| ((try simp only [cxK]); walk_at "rd"))
set_option hygiene false in
local macro_rules | `(tactic| walk_at "lit") => `(tactic| ((repeat (walk_at "rd"; first | (refine ite_decF (by decide) ?_) | (refine ite_decT (by decide) ?_))); walk_at "rd"))
section
variable {P : Program} {w : World} {K : PySem.W.Frag} {mg : Str → Option Value} {base : Heap} {c : Cs}
theorem ok_hand_over {f : Addr} {fd : FuncData} (F : Fun K "hand_over" "hand_over" s_hand_over f fd) (T : Txt K mg c) (O_get_free : Ok P w K mg base "get_free" 5 ["world", "letter"] (sp_get_free c)) (O_get_would_you : Ok P w K mg base "get_would_you" 4 ["world", "letter"] (sp_get_would_you c)) (O_get_would : Ok P w K mg base "get_would" 6 ["world", "letter"] (sp_get_would c)) (O_get_vote : Ok P w K mg base "get_vote" 4 ["world", "letter"] (sp_get_vote c)) (O_get_voted : Ok P w K mg base "get_voted" 2 ["world", "letter"] (sp_get_voted c)) (O_get_promise : Ok P w K mg base "get_promise" 4 ["world", "letter"] (sp_get_promise c)) (O_get_promised : Ok P w K mg base "get_promised" 3 ["world", "letter"] (sp_get_promised c)) : FnOk P w K mg base CX0 7 f fd ["world", "letter"] (sp_hand_over c) := by
  refine F.ok sc_hand_over (fun vs H Q E h => ?_) (fun cdv A outer s H vs Q E hr h => ?_)
  · obtain ⟨lab, w, ns, s, a, x, rfl, _⟩ := h
    rfl
  · skip
    obtain ⟨lab, w, ns, s, a, x, rfl, R, hA, hM, hlo, k⟩ := h
    obtain ⟨dw, wl, nl, rl, ls, ll, ts, W⟩ := R.wd
    have hW := W.ob
    have hL := W.nl
    obtain ⟨dl, la, hX⟩ := id hA
    obtain ⟨p, hp⟩ := R.at_ hM.to_
    have hp' : (ns.map V.ref)[x.to_]? = some (.ref p) := by rw [List.getElem?_map, hp]; rfl
    obtain ⟨dx, pr, wv, va, ga, hN, _⟩ := (R.nd _ p hp).apart
    have hk6 := hM.kind
    refine ⟨_, (pss_cons (ps_if (pt_not (pt_val (pe_fld (pe_ix ix_list (pe_fld (pv 0) rfl) (pe_fld (pv 1) rfl) (fun _ _ => rfl)) rfl)))
    (pss_one (ps_ret (pe_gint rfl T.g_NO_USE)))
    pss_nil)
    (pss_cons (ps_if (pt_cmpR op_eq (pe_fld (pv 1) rfl) (pe_gint rfl T.g_WOULD_YOU) (nomark _))
    (pss_one (ps_ret (pe_ok O_get_would_you hr (by decide) rfl (pa_cons (pv 0) (pa_cons (pv 1) pa_nil)))))
    pss_nil)
    (pss_cons (ps_if (pt_cmpR op_eq (pe_fld (pv 1) rfl) (pe_gint rfl T.g_WOULD) (nomark _))
    (pss_one (ps_ret (pe_ok O_get_would hr (by decide) rfl (pa_cons (pv 0) (pa_cons (pv 1) pa_nil)))))
    pss_nil)
    (pss_cons (ps_if (pt_cmpR op_eq (pe_fld (pv 1) rfl) (pe_gint rfl T.g_VOTE) (nomark _))
    (pss_one (ps_ret (pe_ok O_get_vote hr (by decide) rfl (pa_cons (pv 0) (pa_cons (pv 1) pa_nil)))))
    pss_nil)
    (pss_cons (ps_if (pt_cmpR op_eq (pe_fld (pv 1) rfl) (pe_gint rfl T.g_VOTED) (nomark _))
    (pss_one (ps_ret (pe_ok O_get_voted hr (by decide) rfl (pa_cons (pv 0) (pa_cons (pv 1) pa_nil)))))
    pss_nil)
    (pss_cons (ps_if (pt_cmpR op_eq (pe_fld (pv 1) rfl) (pe_gint rfl T.g_PROMISE) (nomark _))
    (pss_one (ps_ret (pe_ok O_get_promise hr (by decide) rfl (pa_cons (pv 0) (pa_cons (pv 1) pa_nil)))))
    pss_nil)
    (pss_cons (ps_if (pt_cmpR op_eq (pe_fld (pv 1) rfl) (pe_gint rfl T.g_PROMISED) (nomark _))
    (pss_one (ps_ret (pe_ok O_get_promised hr (by decide) rfl (pa_cons (pv 0) (pa_cons (pv 1) pa_nil)))))
    pss_nil)
    (pss_one (ps_ret (pe_ok O_get_free hr (by decide) rfl (pa_cons (pv 0) (pa_cons (pv 1) pa_nil)))))))))))), ?_⟩
    walk_at "go"
    refine ite_nb (fun eu => ?_) (fun eu => ?_)
    · rw [hand_off eu] at k
      walk_at "rd"
      exact k 0 lab H rfl R .refl
    · walk_at "rd"
      refine ite_dec (fun h => ?_) (fun h => ?_)
      · walk_at "rd"
        exact ⟨lab, w, ns, s, a, x, rfl, R, hA, hM, hlo, by omega, eu, k⟩
      walk_at "rd"
      refine ite_dec (fun h => ?_) (fun h => ?_)
      · walk_at "rd"
        exact ⟨lab, w, ns, s, a, x, rfl, R, hA, hM, hlo, by omega, eu, k⟩
      walk_at "rd"
      refine ite_dec (fun h => ?_) (fun h => ?_)
      · walk_at "rd"
        exact ⟨lab, w, ns, s, a, x, rfl, R, hA, hM, hlo, by omega, eu, k⟩
      walk_at "rd"
      refine ite_dec (fun h => ?_) (fun h => ?_)
      · walk_at "rd"
        exact ⟨lab, w, ns, s, a, x, rfl, R, hA, hM, hlo, by omega, eu, k⟩
      walk_at "rd"
      refine ite_dec (fun h => ?_) (fun h => ?_)
      · walk_at "rd"
        exact ⟨lab, w, ns, s, a, x, rfl, R, hA, hM, hlo, by omega, eu, k⟩
      walk_at "rd"
      refine ite_dec (fun h => ?_) (fun h => ?_)
      · walk_at "rd"
        exact ⟨lab, w, ns, s, a, x, rfl, R, hA, hM, hlo, by omega, eu, k⟩
      walk_at "rd"
      exact ⟨lab, w, ns, s, a, x, rfl, R, hA, hM, hlo, by omega, eu, k⟩
theorem ok_ask {f : Addr} {fd : FuncData} (F : Fun K "ask" "ask" s_ask f fd) (T : Txt K mg c) (O_send_to_others : Ok P w K mg base "send_to_others" 3 ["world", "sender", "kind", "term", "number", "yes_to"] (sp_send_to_others c)) (O_is_most : Ok P w K mg base "is_most" 1 ["world", "members"] (sp_is_most c)) (O_lead : Ok P w K mg base "lead" 1 ["world", "place"] (sp_lead c)) : FnOk P w K mg base CX0 4 f fd ["world", "place"] (sp_ask c) := by
  refine F.ok sc_ask (fun vs H Q E h => ?_) (fun cdv A outer s H vs Q E hr h => ?_)
  · obtain ⟨lab, w, ns, s, i, rfl, _⟩ := h
    rfl
  · skip
    obtain ⟨lab, w, ns, s, i, rfl, R, hi, hlo, k⟩ := h
    obtain ⟨dw, wl, nl, rl, ls, ll, ts, W⟩ := R.wd
    have hW := W.ob
    have hL := W.nl
    obtain ⟨p, hp⟩ := R.at_ hi
    have hp' : (ns.map V.ref)[i]? = some (.ref p) := by rw [List.getElem?_map, hp]; rfl
    obtain ⟨dx, pr, wv, va, ga, hN, hP, hWo, lv, hV, lg, hG, d1, d2, d3⟩ := (R.nd i p hp).apart
    have lp := (R.nd i p hp).lb
    have N := R.inv.gnode hi
    refine ⟨_, (pss_cons (ps_set (i := 2) sc_ask.nd rfl (Or.inl rfl) (pe_ix ix_list (pe_fld (pv 0) rfl) (pv 1) (fun _ _ => rfl)))
    (pss_cons (ps_fld (pv 2) (pe_op op_add (pe_fld (pv 2) rfl) pe_int) rfl)
    (pss_cons (ps_fld (pv 2) (pv 1) rfl)
    (pss_cons (ps_fld (pv 2) (pe_gint rfl T.g_ASKS) rfl)
    (pss_cons (ps_fld (pv 2) pe_non rfl)
    (pss_cons (ps_fld (pv 2) (pe_lst (pa_cons (pv 1) pa_nil)) rfl)
    (pss_cons (ps_fld (pv 2) (pe_lst pa_nil) rfl)
    (pss_cons (ps_fld (pv 2) pe_int rfl)
    (pss_cons (ps_expr (pe_ok O_send_to_others hr (by decide) rfl (pa_cons (pv 0) (pa_cons (pv 1) (pa_cons (pe_gint rfl T.g_VOTE) (pa_cons (pe_fld (pv 2) rfl) (pa_cons (pe_fld (pv 2) rfl) (pa_cons (pe_gint rfl T.g_NOBODY) pa_nil))))))))
    (pss_cons (ps_if (pt_val (pe_ok O_is_most hr (by decide) rfl (pa_cons (pv 0) (pa_cons (pe_fld (pv 2) rfl) pa_nil))))
    (pss_one (ps_ret (pe_ok O_lead hr (by decide) rfl (pa_cons (pv 0) (pa_cons (pv 1) pa_nil)))))
    pss_nil)
    (pss_one (ps_ret (pe_gint rfl T.g_ASKS_NOW))))))))))))), ?_⟩
    walk_at "go"
    intro H1 h1 u1
    walk_at "rd"
    intro H2 h2 u2
    walk_at "rd"
    intro H3 h3 u3
    walk_at "rd"
    intro H4 h4 u4
    walk_at "rd"
    intro qv G1 nv hv sv
    have h4' := sv _ _ h4
    walk_at "rd"
    intro H5 h5 u5
    walk_at "rd"
    intro qg G2 ng hg sg
    have h5' := sg _ _ h5
    walk_at "rd"
    intro H6 h6 u6
    walk_at "rd"
    intro H7 h7 u7
    have n1 : qv ≠ p := fun q => by rw [q, h4] at nv; cases nv
    have n2 : qg ≠ p := fun q => by rw [q, h5] at ng; cases ng
    have ua : Pres p H H4 := ((u1.trans u2).trans u3).trans u4
    have ub : Pres p H H5 := (ua.trans (.same sv)).trans u5
    have uc : Pres p H H7 := ((ub.trans (.same sg)).trans u6).trans u7
    have hv5 := u5 _ _ hv n1
    refine R.shut hp uc (n := { Ag03.node s i with term := (Ag03.node s i).term + 1, voted := some i, role := 1, would := none, votes := [i], given := [], holds := 0 }) (pr := pr) (wv := .non) h7 (.old hP uc (by rw [lp]; exact fun q => nomatch q)) rfl ⟨.inl (ua.free nv n1), u7 _ _ (u6 _ _ (sg _ _ hv5) n1) n1⟩ ⟨.inl (ub.free ng n2), u7 _ _ (u6 _ _ hg n2) n2⟩ (ne_of_none hv5 ng) (fun q => nomatch q) (fun q => nomatch q) ⟨(fun l h => none_ne h), Mem.one hi, Mem.nil⟩ (fun lab1 R1 K1 => ?_)
    walk_at "rd"
    refine ⟨lab1, w, ns, _, i, 2, (Ag03.node s i).term + 1, (Ag03.node s i).rank, -1, rfl, R1, by rw [set_len]; exact hi, by decide, fun lab2 H8 R2 K2 => ?_⟩
    simp only [d_neg, others_set] at R2
    obtain ⟨dx2, pr2, wv2, va2, ga2, hN2, hP2, hWo2, lv2, hV2, lg2, hG2, e21, e22, e23⟩ := (R2.nd _ p hp).apart
    rw [node_send, node_set hi] at hN2 hV2
    walk_at "rd"
    refine ⟨lab2, w, ns, _, va2, [i], rfl, R2, hV2, Mem.one (by rw [send_nodes, set_len]; exact hi), fun H9 sm => ?_⟩
    have hN9 := sm _ _ hN2
    walk_at "rd"
    have er : Ag03.ask s i = if Ag03.most (Ag03.send (Ag03.setNode s i { Ag03.node s i with term := (Ag03.node s i).term + 1, voted := some i, role := 1, would := none, votes := [i], given := [], holds := 0 }) ((Ag03.others s i).map fun (j : Nat) => ⟨2, j, i, (Ag03.node s i).term + 1, (Ag03.node s i).rank, false⟩)) [i] = true then (Ag03.lead (Ag03.send (Ag03.setNode s i { Ag03.node s i with term := (Ag03.node s i).term + 1, voted := some i, role := 1, would := none, votes := [i], given := [], holds := 0 }) ((Ag03.others s i).map fun (j : Nat) => ⟨2, j, i, (Ag03.node s i).term + 1, (Ag03.node s i).rank, false⟩)) i, [4]) else (Ag03.send (Ag03.setNode s i { Ag03.node s i with term := (Ag03.node s i).term + 1, voted := some i, role := 1, would := none, votes := [i], given := [], holds := 0 }) ((Ag03.others s i).map fun (j : Nat) => ⟨2, j, i, (Ag03.node s i).term + 1, (Ag03.node s i).rank, false⟩), [3]) := rfl
    rw [er] at k
    refine ite_b (fun em => ?_) (fun em => ?_)
    · rw [if_pos em] at k
      walk_at "rd"
      refine ⟨lab2, w, ns, _, i, rfl, R2.same sm, by rw [send_nodes, set_len]; exact hi, hlo, fun lab3 H10 R3 K3 => ?_⟩
      exact k 4 lab3 H10 rfl R3 (((K1.trans K2).trans (.ofSame sm)).trans K3)
    · rw [if_neg (by rw [em]; exact Bool.false_ne_true)] at k
      walk_at "rd"
      exact k 3 lab2 H9 rfl (R2.same sm) ((K1.trans K2).trans (.ofSame sm))
end
end Hfs
namespace Hfs
open PySem PySem.Spec PyProof.Rows L2
set_option hygiene false in
local macro_rules | `(tactic| walk_at "rd") => `(tactic| repeat (first
  | (with_reducible refine rd_seq ?_) | (with_reducible refine rd_next ?_) | (with_reducible refine rd_asg ?_) | (with_reducible refine rd_ret ?_) | (with_reducible refine rd_retN ?_) | (with_reducible refine rd_drop ?_)
  | (with_reducible refine rd_ifS ?_) | (with_reducible refine rd_test ?_) | (with_reducible refine rd_tB ?_) | (with_reducible refine rd_not ?_) | (with_reducible refine rd_and ?_) | (with_reducible refine rd_or ?_)
  | (with_reducible refine rd_andV ?_) | (with_reducible refine rd_orV ?_) | (with_reducible refine rd_notV ?_) | (with_reducible refine rd_if ?_) | (with_reducible refine rd_op ?_) | (with_reducible refine rd_I0 ?_)
  | (with_reducible refine rd_eqI ?_) | (with_reducible refine rd_neI ?_) | (with_reducible refine rd_eqB ?_) | (with_reducible refine rd_nil ?_) | (with_reducible refine rd_cons ?_) | (with_reducible refine rd_call ?_)
  | (with_reducible refine rd_cb ?_) | (with_reducible refine rd_fld ?_) | (with_reducible refine rd_sfld ?_) | (with_reducible refine rd_lst ?_) | (with_reducible refine rd_make ?_) | (with_reducible refine rd_c ?_)
  | (with_reducible refine rd_bm ?_) | (with_reducible refine rd_for ?_) | (with_reducible refine rd_rng1 ?_) | (with_reducible refine rd_gname ?_)
  | ((with_reducible refine' And.intro (tyL ?h1) ?_); (case h1 => assumption))
  | ((with_reducible refine' rd_len ?h1 ?_); (case h1 => assumption))
  | (refine ⟨_, _, (rfl : [V.int _, V.int _] = [V.int _, V.int _]), ?_⟩) | (with_reducible refine rd_ilist ?_) | (with_reducible refine rd_lc ?_) | (with_reducible refine rd_yes ?_) | (with_reducible refine rd_chain ?_)
  | ((with_reducible refine' rd_ilistR ?h1 ?_); (case h1 => assumption))
  | ((with_reducible refine' rd_in ?h1 ?_); (case h1 => assumption)) | (with_reducible refine rd_eqVn ?_) | (with_reducible refine rd_eqVs ?_)
  | (with_reducible refine rd_bl ?_) | (with_reducible refine And.intro (rfl : V.non = V.non) ?_) | (with_reducible refine iteT ?_) | (with_reducible refine iteF ?_)
  | (with_reducible refine ite_rn ?_) | (with_reducible refine ite_nn ?_) | (with_reducible refine ite_nrn ?_) | (with_reducible refine ite_nnn ?_)
  | ((with_reducible refine' rd_var ?h1 ?_); (case h1 => rfl))
  | ((with_reducible refine' rd_fN T ?h1 ?h2 ?h3 ?_); (case h1 => assumption); (case h2 => rfl); (case h3 => decide +kernel))
  | ((with_reducible refine' rd_fW T ?h1 ?h2 ?h3 ?_); (case h1 => assumption); (case h2 => rfl); (case h3 => decide +kernel))
  | ((with_reducible refine' rd_fL T ?h1 ?h2 ?h3 ?_); (case h1 => assumption); (case h2 => rfl); (case h3 => decide +kernel))
  | ((with_reducible refine' rd_fP T ?h1 ?h2 ?h3 ?_); (case h1 => assumption); (case h2 => rfl); (case h3 => decide +kernel))
  | ((with_reducible refine' rd_ixL ?h1 ?h2 ?_); (case h1 => assumption); (case h2 => assumption))
  | ((with_reducible refine' rd_stN T ?h1 ?h2 ?h3 ?_); (case h1 => assumption); (case h2 => rfl); (case h3 => decide +kernel))
  | ((with_reducible refine' rd_stW T ?h1 ?h2 ?h3 ?_); (case h1 => assumption); (case h2 => rfl); (case h3 => decide +kernel))
  | ((with_reducible refine' rd_lstR ?h1 ?_); (case h1 => first | (show 0 ≤ sizeLine; decide +kernel) | (show 1 ≤ sizeLine; decide +kernel) | (show 2 ≤ sizeLine; decide +kernel) | (show 3 ≤ sizeLine; decide +kernel) | (show 4 ≤ sizeLine; decide +kernel) | (show 5 ≤ sizeLine; decide +kernel) | (show 6 ≤ sizeLine; decide +kernel)))
  | (with_reducible refine rd_tup ?_) | ((with_reducible refine' rd_tupR ?h1 ?_); (case h1 => (show 2 ≤ sizeLine; decide +kernel)))
  | (with_reducible refine rd_asgG ?_) | (with_reducible refine rd_gsub ?_) | (with_reducible refine rd_sl ?_) | (with_reducible refine rd_nopart ?_) | (with_reducible refine rd_part ?_) | (with_reducible refine rd_pint ?_) | (with_reducible refine rd_enum ?_)
  | ((with_reducible refine' rd_ix0 ?h1 ?_); (case h1 => assumption)) | ((with_reducible refine' rd_ix1 ?h1 ?_); (case h1 => assumption)) | ((with_reducible refine' rd_ix2 ?h1 ?_); (case h1 => assumption))
  | (with_reducible refine ite_bit ?_)))
set_option hygiene false in
local macro_rules | `(tactic| walk_at "go") => `(tactic| ((try simp only [cxK]); walk_at "rd"))
set_option hygiene false in
local macro_rules | `(tactic| walk_at "lit") => `(tactic| ((repeat (walk_at "rd"; first | (refine ite_decF (by decide) ?_) | (refine ite_decT (by decide) ?_))); walk_at "rd"))
section
variable {P : Program} {w : World} {K : PySem.W.Frag} {mg : Str → Option Value} {base : Heap} {c : Cs}
theorem Leds.snoc {lab : Lab} {H : Hp} {ts : List Addr} {l : List (Nat × Nat)} {a : Addr} {x : Nat × Nat} (h : Leds lab H ts l) (q : LedAt lab H a x) : Leds lab H (ts ++ [a]) (l ++ [x]) := by
  refine ⟨by rw [List.length_append, List.length_append, h.len]; rfl, fun j b y e1 e2 => ?_⟩
  by_cases z : j < ts.length
  · rw [List.getElem?_append_left z] at e1
    rw [List.getElem?_append_left (by rw [← h.len]; exact z)] at e2
    exact h.at_ j b y e1 e2
  · rw [List.getElem?_append_right (by omega)] at e1
    rw [List.getElem?_append_right (by rw [← h.len]; omega), ← h.len] at e2
    cases ej : j - ts.length with
    | zero =>
      rw [ej] at e1 e2
      cases e1
      cases e2
      exact q
    | succ m => rw [ej] at e1; cases e1
theorem ok_lead {f : Addr} {fd : FuncData} (F : Fun K "lead" "lead" s_lead f fd) (T : Txt K mg c)  : FnOk P w K mg base CX0 1 f fd ["world", "place"] (sp_lead c) := by
  refine F.ok sc_lead (fun vs H Q E h => ?_) (fun cdv A outer s H vs Q E hr h => ?_)
  · obtain ⟨lab, w, ns, s, i, rfl, _⟩ := h
    rfl
  · skip
    obtain ⟨lab, w, ns, s, i, rfl, R, hi, hlo, k⟩ := h
    obtain ⟨dw, wl, nl, rl, ls, ll, ts, W⟩ := R.wd
    have hW := W.ob
    have hL := W.nl
    obtain ⟨p, hp⟩ := R.at_ hi
    have hp' : (ns.map V.ref)[i]? = some (.ref p) := by rw [List.getElem?_map, hp]; rfl
    obtain ⟨dx, pr, wv, va, ga, hN, hP, hWo, lv, hV, lg, hG, d1, d2, d3⟩ := (R.nd i p hp).apart
    have lp := (R.nd i p hp).lb
    have N := R.inv.gnode hi
    refine ⟨_, (pss_cons (ps_set (i := 2) sc_lead.nd rfl (Or.inl rfl) (pe_ix ix_list (pe_fld (pv 0) rfl) (pv 1) (fun _ _ => rfl)))
    (pss_cons (ps_fld (pv 2) (pe_gint rfl T.g_LEADS) rfl)
    (pss_cons (ps_fld (pv 2) pe_non rfl)
    (pss_cons (ps_fld (pv 2) pe_int rfl)
    (pss_cons (ps_fld (pv 2) (pe_lst pa_nil) rfl)
    (pss_cons (ps_fld (pv 2) pe_int rfl)
    (pss_cons (ps_expr (pe_bm PySem.F.plainAttrs_list PySem.F.slot_list_append PySem.F.type_list_append mt_append (pe_fld (pv 0) rfl) (pa_cons (pe_tup (pa_cons (pe_fld (pv 2) rfl) (pa_cons (pv 1) pa_nil))) pa_nil)))
    (pss_one (ps_ret (pe_gint rfl T.g_LEADS_NOW)))))))))), ?_⟩
    walk_at "go"
    intro H1 h1 u1
    walk_at "rd"
    intro H2 h2 u2
    walk_at "rd"
    intro H3 h3 u3
    walk_at "rd"
    intro qg G1 ng hg sg
    have h3' := sg _ _ h3
    walk_at "rd"
    intro H4 h4 u4
    walk_at "rd"
    intro H5 h5 u5
    have ua : Pres p H H3 := (u1.trans u2).trans u3
    have n2 : qg ≠ p := fun q => by rw [q, h3] at ng; cases ng
    have uc : Pres p H H5 := ((ua.trans (.same sg)).trans u4).trans u5
    have hnG := ua.free ng n2
    refine R.shut hp uc (n := { Ag03.node s i with role := 2, would := none, round := 0, given := [], holds := 0 }) (wv := .non) h5 (.old hP uc (by rw [lp]; exact fun q => nomatch q)) rfl (.old lv hV uc (by rw [lp]; exact fun q => nomatch q)) ⟨.inl hnG, u5 _ _ (u4 _ _ hg n2) n2⟩ (ne_of_none hV hnG) (fun q => nomatch q) (fun q => nomatch q) ⟨(fun l h => none_ne h), N.votes, Mem.nil⟩ fun lab1 R1 K1 => ?_
    obtain ⟨dw1, wl1, nl1, rl1, ls1, ll1, ts1, W1⟩ := R1.wd
    have hW1 := W1.ob
    have hL1 := W1.ll
    walk_at "rd"
    intro t G nt ht st
    have W2 := W1.keep (Keep.alloc (S := fun _ => False) (t := .free) nt st) id id id id id
    have R2 := R1.alloc (t := .free) nt st
    have lt : ts1.length ≤ 100 := by rw [W1.leds.len]; exact hlo
    walk_at "rd"
    refine rd_app W2.ll (by rw [List.length_map]; exact small1000 (by omega)) (fun H7 h7 u7 => ?_)
    have kp : Keep (fun t => t = .ld) (relab lab1 t .free) G (relab lab1 t .free) H7 := .pres u7 W2.lll ⟨_, h7⟩
    have tl : LedAt (relab lab1 t .free) H7 t ((Ag03.node s i).term, i) := ⟨relab_same, u7 _ _ ht (fun z => by rw [z, W2.ll] at ht; cases ht)⟩
    have R3 := R2.leded (ts' := ts1 ++ [t]) (l := s.led ++ [((Ag03.node s i).term, i)]) W2 kp (by rw [List.map_append]; exact h7) ((W2.leds.keep kp (fun q => nomatch q)).snoc tl)
    walk_at "rd"
    exact k _ H7 R3 ((K1.trans (.alloc nt st)).trans (kp.mono fun t q => by rw [q]; exact trivial))
end
end Hfs
namespace Hfs
open PySem PySem.Spec PyProof.Rows L2
set_option hygiene false in
local macro_rules | `(tactic| walk_at "rd") => `(tactic| repeat (first
  | (with_reducible refine rd_seq ?_) | (with_reducible refine rd_next ?_) | (with_reducible refine rd_asg ?_) | (with_reducible refine rd_ret ?_) | (with_reducible refine rd_retN ?_) | (with_reducible refine rd_drop ?_)
  | (with_reducible refine rd_ifS ?_) | (with_reducible refine rd_test ?_) | (with_reducible refine rd_tB ?_) | (with_reducible refine rd_not ?_) | (with_reducible refine rd_and ?_) | (with_reducible refine rd_or ?_)
  | (with_reducible refine rd_andV ?_) | (with_reducible refine rd_orV ?_) | (with_reducible refine rd_notV ?_) | (with_reducible refine rd_if ?_) | (with_reducible refine rd_op ?_) | (with_reducible refine rd_I0 ?_)
  | (with_reducible refine rd_eqI ?_) | (with_reducible refine rd_neI ?_) | (with_reducible refine rd_eqB ?_) | (with_reducible refine rd_nil ?_) | (with_reducible refine rd_cons ?_) | (with_reducible refine rd_call ?_)
  | (with_reducible refine rd_cb ?_) | (with_reducible refine rd_fld ?_) | (with_reducible refine rd_sfld ?_) | (with_reducible refine rd_lst ?_) | (with_reducible refine rd_make ?_) | (with_reducible refine rd_c ?_)
  | (with_reducible refine rd_bm ?_) | (with_reducible refine rd_for ?_) | (with_reducible refine rd_rng1 ?_) | (with_reducible refine rd_gname ?_)
  | ((with_reducible refine' And.intro (tyL ?h1) ?_); (case h1 => assumption))
  | ((with_reducible refine' rd_len ?h1 ?_); (case h1 => assumption))
  | (refine ⟨_, _, (rfl : [V.int _, V.int _] = [V.int _, V.int _]), ?_⟩) | (with_reducible refine rd_ilist ?_) | (with_reducible refine rd_lc ?_) | (with_reducible refine rd_yes ?_) | (with_reducible refine rd_chain ?_)
  | ((with_reducible refine' rd_ilistR ?h1 ?_); (case h1 => assumption))
  | ((with_reducible refine' rd_in ?h1 ?_); (case h1 => assumption)) | (with_reducible refine rd_eqVn ?_) | (with_reducible refine rd_eqVs ?_)
  | (with_reducible refine rd_bl ?_) | (with_reducible refine And.intro (rfl : V.non = V.non) ?_) | (with_reducible refine iteT ?_) | (with_reducible refine iteF ?_)
  | (with_reducible refine ite_rn ?_) | (with_reducible refine ite_nn ?_) | (with_reducible refine ite_nrn ?_) | (with_reducible refine ite_nnn ?_)
  | ((with_reducible refine' rd_var ?h1 ?_); (case h1 => rfl))
  | ((with_reducible refine' rd_fN T ?h1 ?h2 ?h3 ?_); (case h1 => assumption); (case h2 => rfl); (case h3 => decide +kernel))
  | ((with_reducible refine' rd_fW T ?h1 ?h2 ?h3 ?_); (case h1 => assumption); (case h2 => rfl); (case h3 => decide +kernel))
  | ((with_reducible refine' rd_fL T ?h1 ?h2 ?h3 ?_); (case h1 => assumption); (case h2 => rfl); (case h3 => decide +kernel))
  | ((with_reducible refine' rd_fP T ?h1 ?h2 ?h3 ?_); (case h1 => assumption); (case h2 => rfl); (case h3 => decide +kernel))
  | ((with_reducible refine' rd_ixL ?h1 ?h2 ?_); (case h1 => assumption); (case h2 => assumption))
  | ((with_reducible refine' rd_stN T ?h1 ?h2 ?h3 ?_); (case h1 => assumption); (case h2 => rfl); (case h3 => decide +kernel))
  | ((with_reducible refine' rd_stW T ?h1 ?h2 ?h3 ?_); (case h1 => assumption); (case h2 => rfl); (case h3 => decide +kernel))
  | ((with_reducible refine' rd_lstR ?h1 ?_); (case h1 => first | (show 0 ≤ sizeLine; decide +kernel) | (show 1 ≤ sizeLine; decide +kernel) | (show 2 ≤ sizeLine; decide +kernel) | (show 3 ≤ sizeLine; decide +kernel) | (show 4 ≤ sizeLine; decide +kernel) | (show 5 ≤ sizeLine; decide +kernel) | (show 6 ≤ sizeLine; decide +kernel)))
  | (with_reducible refine rd_tup ?_) | ((with_reducible refine' rd_tupR ?h1 ?_); (case h1 => (show 2 ≤ sizeLine; decide +kernel)))
  | (with_reducible refine rd_asgG ?_) | (with_reducible refine rd_gsub ?_) | (with_reducible refine rd_sl ?_) | (with_reducible refine rd_nopart ?_) | (with_reducible refine rd_part ?_) | (with_reducible refine rd_pint ?_) | (with_reducible refine rd_enum ?_)
  | ((with_reducible refine' rd_ix0 ?h1 ?_); (case h1 => assumption)) | ((with_reducible refine' rd_ix1 ?h1 ?_); (case h1 => assumption)) | ((with_reducible refine' rd_ix2 ?h1 ?_); (case h1 => assumption))
  | (with_reducible refine ite_bit ?_)))
set_option hygiene false in
local macro_rules | `(tactic| walk_at "go") => `(tactic| ((try simp only [cxK]); walk_at "rd"))
set_option hygiene false in
local macro_rules | `(tactic| walk_at "lit") => `(tactic| ((repeat (walk_at "rd"; first | (refine ite_decF (by decide) ?_) | (refine ite_decT (by decide) ?_))); walk_at "rd"))
section
variable {P : Program} {w : World} {K : PySem.W.Frag} {mg : Str → Option Value} {base : Heap} {c : Cs}
theorem rd_stJ {H : Hp} {C p dx : Addr} {f : Str} {y : V} {fs : List (Str × V)} {m : Nat} {n : Hp → Prop} (hp : H p = some (.ins C dx fs)) (hl : fs.length ≤ m) (cl : Cls K C) (no : NoAttr K C f) (hm : m < 1000)
    (k : ∀ H' : Hp, H' p = some (.ins C dx (putF f y fs)) → (putF f y fs).length ≤ m + 1 → Pres p H H' → n H') : StR K f y (.ref p) H n :=
  ⟨p, C, dx, fs, rfl, hp, cl, no, Nat.lt_of_le_of_lt hl hm, k _ upd_same (Nat.le_trans (length_putF f y fs) (Nat.succ_le_succ hl)) .upd⟩
structure FreshAt (c : Cs) (lab : Lab) (H : Hp) (j : Nat) (q : Addr) : Prop where
  lb : lab q = .nd j
  ex : ∃ dx va ga, H q = some (.ins c.CN dx (fNew va ga)) ∧ lab va = .vo j ∧ H va = some (.lst []) ∧ lab ga = .gi j ∧ H ga = some (.lst [])
theorem FreshAt.keep {S : Tag → Prop} {lab lab' : Lab} {H H' : Hp} {j : Nat} {q : Addr} (N : FreshAt c lab H j q) (k : Keep S lab H lab' H') (h1 : ¬ S (.nd j)) (h2 : ¬ S (.vo j)) (h3 : ¬ S (.gi j)) : FreshAt c lab' H' j q := by
  obtain ⟨l, dx, va, ga, a1, a2, a3, a4, a5⟩ := N
  exact ⟨(k.lb _ _ a1).trans l, dx, va, ga, k.kp _ _ a1 (by rw [l]; exact h1), (k.lb _ _ a3).trans a2, k.kp _ _ a3 (by rw [a2]; exact h2), (k.lb _ _ a5).trans a4, k.kp _ _ a5 (by rw [a4]; exact h3)⟩
theorem FreshAt.node {lab : Lab} {H : Hp} {j : Nat} {q : Addr} (N : FreshAt c lab H j q) : NodeAt c lab H j q Ag03.fresh := by
  obtain ⟨l, dx, va, ga, a1, a2, a3, a4, a5⟩ := N
  exact ⟨l, dx, .non, .non, va, ga, a1, rfl, rfl, ⟨a2, a3⟩, a4, a5⟩
theorem ok_World_init {f : Addr} {fd : FuncData} (F : Fun K "__init__" "World.__init__" s_World_init f fd) (T : Txt K mg c) (O_span_of : Ok P w K mg base "span_of" 1 ["wrong", "long"] (sp_span_of c)) (M_Node : MkOk P w K mg base "Node" c.CN 1 ["self"] (sp_Node_init c)) : FnOk P w K mg base CX0 3 f fd ["self", "wrong", "long", "weights"] (sp_World_init c) := by
  refine F.ok sc_World_init (fun vs H Q E h => ?_) (fun cdv A outer s H vs Q E hr h => ?_)
  · obtain ⟨lab, p, dx, wl, w, l, ps, rfl, _⟩ := h
    rfl
  · skip
    obtain ⟨lab, p, dx, wl, w, l, ps, rfl, hp, hwl, lwl, I, k⟩ := h
    have nwp : wl ≠ p := ne_of hwl hp (by intro z; cases z)
    have hw := I.wrong
    have hl := I.long
    have h5 : ps.length ≤ 5 := by have := I.five; rw [show (world0 w l ps).nodes = ps.map fun _ => Ag03.fresh from rfl, List.length_map] at this; exact this
    have hw : w ≤ 200 := hw
    have hl : l ≤ 1000 := hl
    refine ⟨_, (pss_cons (ps_fld (pv 0) (pv 1) rfl)
    (pss_cons (ps_fld (pv 0) (pv 2) rfl)
    (pss_cons (ps_fld (pv 0) (pe_ok O_span_of hr (by decide) rfl (pa_cons (pv 1) (pa_cons (pv 2) pa_nil))) rfl)
    (pss_cons (ps_fld (pv 0) (pv 3) rfl)
    (pss_cons (ps_fld (pv 0) pe_int rfl)
    (pss_cons (ps_fld (pv 0) (pe_lc (own := [("weight", 4)]) (g := (gName 4)) (tt := tYes) (te := (tMake c.CN (sp_Node_init c) [] E0 tNil)) rfl sc_World_init.nd (pi_list (pv 3)) (blkOk_by (own := [("weight", 4)]) (N := N_World_init) (sc := defScope s_World_init) (by decide +kernel)) (fun _ _ _ _ _ => (pg_name (i := 4) sc_World_init.nd rfl (Or.inl rfl))) (fun _ _ _ _ _ => pts_nil) (fun _ _ _ _ _ => (pe_mk0 M_Node hr (by decide) rfl))) rfl)
    (pss_cons (ps_fld (pv 0) (pe_lst pa_nil) rfl)
    (pss_one (ps_fld (pv 0) (pe_lst pa_nil) rfl))))))))), ?_⟩
    walk_at "go"
    refine rd_stJ hp (m := 0) (Nat.le_refl _) T.cW (T.noW _ (by decide +kernel)) (by decide) (fun H1 h1 l1 u1 => ?_)
    walk_at "rd"
    refine rd_stJ h1 l1 T.cW (T.noW _ (by decide +kernel)) (by decide) (fun H2 h2 l2 u2 => ?_)
    walk_at "rd"
    refine ⟨by omega, by omega, ?_⟩
    walk_at "rd"
    refine rd_stJ h2 l2 T.cW (T.noW _ (by decide +kernel)) (by decide) (fun H3 h3 l3 u3 => ?_)
    walk_at "rd"
    refine rd_stJ h3 l3 T.cW (T.noW _ (by decide +kernel)) (by decide) (fun H4 h4 l4 u4 => ?_)
    walk_at "rd"
    refine rd_stJ h4 l4 T.cW (T.noW _ (by decide +kernel)) (by decide) (fun H5 h5' l5 u5 => ?_)
    have ua : Pres p H H5 := (((u1.trans u2).trans u3).trans u4).trans u5
    have hwl5 := ua _ _ hwl nwp
    walk_at "rd"
    intro D hD
    have nDp : D ≠ p := fun z => by rw [z, h5'] at hD; cases hD
    have hD0 := ua.free hD nDp
    refine lc_list (K := K) (a := wl) (xs := ps.map vn) (fun i H' => ∃ (lab' : Lab) (ns : List Addr), ns.length = i ∧ Ext p lab H lab' H' ∧ lab' p = .wd ∧ H' p = H5 p ∧ lab' D = .nds ∧ H' D = some (.lst (ns.map V.ref)) ∧ ∀ (j : Nat) (q : Addr), ns[j]? = some q → FreshAt c lab' H' j q)
      ⟨relab (relab lab p .wd) D .nds, [], rfl, fun b o e n => ?_, ?_, ?_, relab_same, upd_same, fun j q e => by cases e⟩ ?_ ?_ ?_
    · have nb : b ≠ D := ne_of_none e hD0
      exact ⟨by rw [relab_ne nb, relab_ne n], by rw [upd_ne nb]; exact ua _ _ e n⟩
    · rw [relab_ne nDp.symm, relab_same]
    · rw [upd_ne nDp.symm]
    · intro i H' _ ⟨lab', ns, _, ex, _⟩
      exact SqL.of (ex _ _ hwl nwp).2
    · intro i y H' hy ⟨lab', ns, hlen, ex, lpw, hpp, lD, hDd, hns⟩
      have hi : i < 5 := by
        have := (List.getElem?_eq_some_iff.mp hy).1
        rw [List.length_map] at this
        omega
      walk_at "rd"
      refine ⟨rfl, ?_⟩
      walk_at "rd"
      intro x dn hx hdn ne
      refine ⟨x, dn, rfl, upd_same, fun H2 va ga h2 nva nga dvg hva hga u2 => ⟨rfl, ns.map V.ref, ?_, ?_, ?_⟩⟩
      all_goals have un : ∀ b, (upd (upd H' dn (.own x)) x (.ins c.CN dn [])) b = none → b ≠ x ∧ b ≠ dn ∧ H' b = none := (fun b e => by
        have e1 : b ≠ x := fun z => by rw [z, upd_same] at e; cases e
        rw [upd_ne e1] at e
        have e2 : b ≠ dn := fun z => by rw [z, upd_same] at e; cases e
        rw [upd_ne e2] at e
        exact ⟨e1, e2, e⟩)
      all_goals have sm : Same H' H2 := (fun b o e => u2 b o (by rw [upd_ne (ne_of_none e hx), upd_ne (ne_of_none e hdn)]; exact e) (ne_of_none e hx))
      · exact sm _ _ hDd
      · rw [List.length_map, hlen]
        exact small1000 (by omega)
      · obtain ⟨vx, vd, nva'⟩ := un _ nva
        obtain ⟨gx, gd, nga'⟩ := un _ nga
        have xD : x ≠ D := fun z => by rw [z, hDd] at hx; cases hx
        have vD : va ≠ D := fun z => by rw [z, hDd] at nva'; cases nva'
        have gD : ga ≠ D := fun z => by rw [z, hDd] at nga'; cases nga'
        have hp' : H' p = some (.ins c.CW dx _) := hpp.trans h5'
        have xp : x ≠ p := fun z => by rw [z, hp'] at hx; cases hx
        have vp : va ≠ p := fun z => by rw [z, hp'] at nva'; cases nva'
        have gp : ga ≠ p := fun z => by rw [z, hp'] at nga'; cases nga'
        have lo : ∀ b o, H' b = some o → relab (relab (relab lab' x (.nd i)) va (.vo i)) ga (.gi i) b = lab' b := fun b o e => by
          rw [relab_ne (ne_of_none e nga'), relab_ne (ne_of_none e nva'), relab_ne (ne_of_none e hx)]
        have KK : Keep (fun t => t = .nds) lab' H' (relab (relab (relab lab' x (.nd i)) va (.vo i)) ga (.gi i)) (upd H2 D (.lst (ns.map V.ref ++ [.ref x]))) := by
          refine ⟨lo, fun b o e hb => ?_, fun b o e => ?_⟩
          · rw [upd_ne (fun z => hb (by rw [z]; exact lD))]
            exact sm _ _ e
          · by_cases z : b = D
            · exact ⟨_, by rw [z]; exact upd_same⟩
            · exact ⟨o, by rw [upd_ne z]; exact sm _ _ e⟩
        refine ⟨relab (relab (relab lab' x (.nd i)) va (.vo i)) ga (.gi i), ns ++ [x], by rw [List.length_append, hlen]; rfl, fun b o e n => ?_, ?_, ?_, ?_, ?_, fun j q hq => ?_⟩
        · obtain ⟨e1, e2⟩ := ex b o e n
          have nb : b ≠ D := ne_of_none e hD0
          exact ⟨(lo _ _ e2).trans e1, by rw [upd_ne nb]; exact sm _ _ e2⟩
        · exact (lo _ _ hp').trans lpw
        · rw [upd_ne nDp.symm]
          exact (sm _ _ hp').trans h5'.symm
        · exact (lo _ _ hDd).trans lD
        · rw [upd_same, List.map_append]
          rfl
        · by_cases jl : j < ns.length
          · rw [List.getElem?_append_left jl] at hq
            exact (hns j q hq).keep KK (fun z => nomatch z) (fun z => nomatch z) (fun z => nomatch z)
          · rw [List.getElem?_append_right (by omega)] at hq
            cases ej : j - ns.length with
            | succ m => rw [ej] at hq; cases hq
            | zero =>
              rw [ej] at hq
              cases hq
              have ej' : j = i := by omega
              subst ej'
              refine ⟨?_, dn, va, ga, ?_, ?_, ?_, relab_same, ?_⟩
              · rw [relab_ne gx.symm, relab_ne vx.symm, relab_same]
              · rw [upd_ne xD]; exact h2
              · rw [relab_ne dvg, relab_same]
              · rw [upd_ne vD]; exact hva
              · rw [upd_ne gD]; exact hga
    · rintro H' ⟨lab', ns, hlen, ex, lpw, hpp, lD, hDd, hns⟩
      rw [List.length_map] at hlen
      have hp' := hpp.trans h5'
      walk_at "rd"
      refine rd_stJ hp' l5 T.cW (T.noW _ (by decide +kernel)) (by decide) (fun H6 h6 l6 u6 => ?_)
      walk_at "rd"
      intro rl G6 nr hr6 sr
      walk_at "rd"
      refine rd_stJ (sr _ _ h6) l6 T.cW (T.noW _ (by decide +kernel)) (by decide) (fun H7 h7 l7 u7 => ?_)
      walk_at "rd"
      intro ll G7 nl7 hl7 sl
      walk_at "rd"
      refine rd_stJ (sl _ _ h7) l7 T.cW (T.noW _ (by decide +kernel)) (by decide) (fun H8 h8 l8 u8 => ?_)
      walk_at "rd"
      have nrp : rl ≠ p := fun z => by rw [z, h6] at nr; cases nr
      have nlp : ll ≠ p := fun z => by rw [z, h7] at nl7; cases nl7
      have hr7 := u7 _ _ hr6 nrp
      have nrl : rl ≠ ll := ne_of_none hr7 nl7
      have ub : Pres p H' H7 := (u6.trans (.same sr)).trans u7
      have uc : Pres p H' H8 := (ub.trans (.same sl)).trans u8
      have nr' : H' rl = none := u6.free nr nrp
      have nl' : H' ll = none := ub.free nl7 nlp
      have lo : ∀ b o, H' b = some o → relab (relab lab' rl .row) ll .ld b = lab' b := fun b o e => by rw [relab_ne (ne_of_none e nl'), relab_ne (ne_of_none e nr')]
      have hp0 : H' p = some (.ins c.CW dx _) := hp'
      have KK : Keep (fun t => t = .wd) lab' H' (relab (relab lab' rl .row) ll .ld) H8 := by
        refine ⟨lo, fun b o e hb => uc _ _ e (fun z => hb (by rw [z]; exact lpw)), fun b o e => ?_⟩
        by_cases z : b = p
        · rw [z]
          exact ⟨_, h8⟩
        · exact ⟨o, uc _ _ e z⟩
      obtain ⟨lwl', hwl'⟩ := ex _ _ hwl nwp
      refine k (relab (relab lab' rl .row) ll .ld) H8 ns ⟨I, ?_, ⟨dx, wl, D, rl, [], ll, [], ?_⟩, fun i q hq => ?_⟩ (fun b o e n => ?_)
      · show ns.length = (ps.map fun _ => Ag03.fresh).length
        rw [List.length_map, hlen]
      · refine ⟨h8, (lo _ _ hp').trans lpw, (lo _ _ hwl').trans (lwl'.trans lwl), uc _ _ hwl' nwp, (lo _ _ hDd).trans lD, uc _ _ hDd nDp, by rw [relab_ne nrl, relab_same], u8 _ _ (sl _ _ hr7) nrp, ⟨rfl, fun k a x e => by cases e⟩, relab_same, u8 _ _ hl7 nlp, ⟨rfl, fun k a x e => by cases e⟩⟩
      · have en : Ag03.node (world0 w l ps) i = Ag03.fresh := by
          refine node_of (s := world0 w l ps) ?_
          show (ps.map fun _ => Ag03.fresh)[i]? = _
          have := (List.getElem?_eq_some_iff.mp hq).1
          rw [List.getElem?_map, List.getElem?_eq_getElem (by omega)]
          rfl
        rw [en]
        exact ((hns i q hq).keep KK (fun z => nomatch z) (fun z => nomatch z) (fun z => nomatch z)).node
      · obtain ⟨e1, e2⟩ := ex b o e n
        exact ⟨(lo _ _ e2).trans e1, uc _ _ e2 n⟩
end
end Hfs
namespace Hfs
open PySem PySem.Spec PyProof.Rows L2
set_option hygiene false in
local macro_rules | `(tactic| walk_at "rd") => `(tactic| repeat (first
  | (with_reducible refine rd_seq ?_) | (with_reducible refine rd_next ?_) | (with_reducible refine rd_asg ?_) | (with_reducible refine rd_ret ?_) | (with_reducible refine rd_retN ?_) | (with_reducible refine rd_drop ?_)
  | (with_reducible refine rd_ifS ?_) | (with_reducible refine rd_test ?_) | (with_reducible refine rd_tB ?_) | (with_reducible refine rd_not ?_) | (with_reducible refine rd_and ?_) | (with_reducible refine rd_or ?_)
  | (with_reducible refine rd_andV ?_) | (with_reducible refine rd_orV ?_) | (with_reducible refine rd_notV ?_) | (with_reducible refine rd_if ?_) | (with_reducible refine rd_op ?_) | (with_reducible refine rd_I0 ?_)
  | (with_reducible refine rd_eqI ?_) | (with_reducible refine rd_neI ?_) | (with_reducible refine rd_eqB ?_) | (with_reducible refine rd_nil ?_) | (with_reducible refine rd_cons ?_) | (with_reducible refine rd_call ?_)
  | (with_reducible refine rd_cb ?_) | (with_reducible refine rd_fld ?_) | (with_reducible refine rd_sfld ?_) | (with_reducible refine rd_lst ?_) | (with_reducible refine rd_make ?_) | (with_reducible refine rd_c ?_)
  | (with_reducible refine rd_bm ?_) | (with_reducible refine rd_for ?_) | (with_reducible refine rd_rng1 ?_) | (with_reducible refine rd_gname ?_)
  | ((with_reducible refine' And.intro (tyL ?h1) ?_); (case h1 => assumption))
  | ((with_reducible refine' rd_len ?h1 ?_); (case h1 => assumption))
  | (refine ⟨_, _, (rfl : [V.int _, V.int _] = [V.int _, V.int _]), ?_⟩) | (with_reducible refine rd_ilist ?_) | (with_reducible refine rd_lc ?_) | (with_reducible refine rd_yes ?_) | (with_reducible refine rd_chain ?_)
  | ((with_reducible refine' rd_ilistR ?h1 ?_); (case h1 => assumption))
  | ((with_reducible refine' rd_in ?h1 ?_); (case h1 => assumption)) | (with_reducible refine rd_eqVn ?_) | (with_reducible refine rd_eqVs ?_)
  | (with_reducible refine rd_bl ?_) | (with_reducible refine And.intro (rfl : V.non = V.non) ?_) | (with_reducible refine iteT ?_) | (with_reducible refine iteF ?_)
  | (with_reducible refine ite_rn ?_) | (with_reducible refine ite_nn ?_) | (with_reducible refine ite_nrn ?_) | (with_reducible refine ite_nnn ?_)
  | ((with_reducible refine' rd_var ?h1 ?_); (case h1 => rfl))
  | ((with_reducible refine' rd_fN T ?h1 ?h2 ?h3 ?_); (case h1 => assumption); (case h2 => rfl); (case h3 => decide +kernel))
  | ((with_reducible refine' rd_fW T ?h1 ?h2 ?h3 ?_); (case h1 => assumption); (case h2 => rfl); (case h3 => decide +kernel))
  | ((with_reducible refine' rd_fL T ?h1 ?h2 ?h3 ?_); (case h1 => assumption); (case h2 => rfl); (case h3 => decide +kernel))
  | ((with_reducible refine' rd_fP T ?h1 ?h2 ?h3 ?_); (case h1 => assumption); (case h2 => rfl); (case h3 => decide +kernel))
  | ((with_reducible refine' rd_ixL ?h1 ?h2 ?_); (case h1 => assumption); (case h2 => assumption))
  | ((with_reducible refine' rd_stN T ?h1 ?h2 ?h3 ?_); (case h1 => assumption); (case h2 => rfl); (case h3 => decide +kernel))
  | ((with_reducible refine' rd_stW T ?h1 ?h2 ?h3 ?_); (case h1 => assumption); (case h2 => rfl); (case h3 => decide +kernel))
  | ((with_reducible refine' rd_lstR ?h1 ?_); (case h1 => first | (show 0 ≤ sizeLine; decide +kernel) | (show 1 ≤ sizeLine; decide +kernel) | (show 2 ≤ sizeLine; decide +kernel) | (show 3 ≤ sizeLine; decide +kernel) | (show 4 ≤ sizeLine; decide +kernel) | (show 5 ≤ sizeLine; decide +kernel) | (show 6 ≤ sizeLine; decide +kernel)))
  | (with_reducible refine rd_tup ?_) | ((with_reducible refine' rd_tupR ?h1 ?_); (case h1 => (show 2 ≤ sizeLine; decide +kernel)))
  | (with_reducible refine rd_asgG ?_) | (with_reducible refine rd_gsub ?_) | (with_reducible refine rd_sl ?_) | (with_reducible refine rd_nopart ?_) | (with_reducible refine rd_part ?_) | (with_reducible refine rd_pint ?_) | (with_reducible refine rd_enum ?_)
  | ((with_reducible refine' rd_ix0 ?h1 ?_); (case h1 => assumption)) | ((with_reducible refine' rd_ix1 ?h1 ?_); (case h1 => assumption)) | ((with_reducible refine' rd_ix2 ?h1 ?_); (case h1 => assumption))
  | (with_reducible refine ite_bit ?_)))
set_option hygiene false in
local macro_rules | `(tactic| walk_at "go") => `(tactic| ((try simp only [cxK]); walk_at "rd"))
set_option hygiene false in
local macro_rules | `(tactic| walk_at "lit") => `(tactic| ((repeat (walk_at "rd"; first | (refine ite_decF (by decide) ?_) | (refine ite_decT (by decide) ?_))); walk_at "rd"))
section
variable {P : Program} {w : World} {K : PySem.W.Frag} {mg : Str → Option Value} {base : Heap} {c : Cs}
theorem ok_refusal_of {f : Addr} {fd : FuncData} (F : Fun K "refusal_of" "refusal_of" s_refusal_of f fd) (T : Txt K mg c)  : FnOk P w K mg base CX0 1 f fd ["world", "place", "must_lead"] (sp_refusal_of c) := by
  refine F.ok sc_refusal_of (fun vs H Q E h => ?_) (fun cdv A outer s H vs Q E hr h => ?_)
  · obtain ⟨lab, w, ns, s, i, b, rfl, _⟩ := h
    rfl
  · skip
    obtain ⟨lab, w, ns, s, i, b, rfl, R, k⟩ := h
    obtain ⟨dw, wl, nl, rl, ls, ll, ts, W⟩ := R.wd
    have hW := W.ob
    have hL := W.nl
    have hlen : (ns.map V.ref).length = s.nodes.length := by rw [List.length_map]; exact R.len
    unfold refusal at k
    refine ⟨_, (pss_cons (ps_if (pt_cmpR op_ge (pv 1) (pe_callB call_len_seq (by rfl) T.b_len PySem.boot_len (pa_cons (pe_fld (pv 0) rfl) pa_nil)) (nomark _))
    (pss_one (ps_ret (pe_gint rfl T.g_WRONG)))
    pss_nil)
    (pss_cons (ps_if (pt_not (pt_val (pe_fld (pe_ix ix_list (pe_fld (pv 0) rfl) (pv 1) (fun _ _ => rfl)) rfl)))
    (pss_one (ps_ret (pe_gint rfl T.g_STOPPED)))
    pss_nil)
    (pss_cons (ps_set (i := 3) sc_refusal_of.nd rfl (Or.inl rfl) (pe_cmpR op_eq (pe_fld (pe_ix ix_list (pe_fld (pv 0) rfl) (pv 1) (fun _ _ => rfl)) rfl) (pe_gint rfl T.g_LEADS) (nomark _)))
    (pss_one (ps_ret (pe_ifExp (pt_cmpR op_eq (pv 3) (pv 2) (nomark _)) (pe_gint rfl T.g_DONE) (pe_gint rfl T.g_UNFIT))))))), ?_⟩
    walk_at "go"
    rw [hlen]
    refine ite_dec (fun h => ?_) (fun h => ?_)
    · rw [if_pos (by omega)] at k
      walk_at "rd"
      exact k
    · rw [if_neg (by omega)] at k
      have hi : i < s.nodes.length := by omega
      obtain ⟨p, hp⟩ := R.at_ hi
      have hp' : (ns.map V.ref)[i]? = some (.ref p) := by rw [List.getElem?_map, hp]; rfl
      obtain ⟨dx, pr, wv, va, ga, hN, hP, hWo, lv, hV, lg, hG, d1, d2, d3⟩ := (R.nd i p hp).apart
      have lp := (R.nd i p hp).lb
      have N := R.inv.gnode hi
      walk_at "rd"
      refine ite_nb (fun e => ?_) (fun e => ?_)
      · rw [if_pos e] at k
        walk_at "rd"
        exact k
      · rw [if_neg (by rw [e]; exact fun q => nomatch q)] at k
        walk_at "rd"
        have e2 : decide (((Ag03.node s i).role : Int) = 2) = decide ((Ag03.node s i).role = 2) := decide_eq_decide.mpr (by omega)
        rw [e2]
        refine ite_dec (fun h2 => ?_) (fun h2 => ?_)
        · rw [if_pos h2] at k
          walk_at "rd"
          exact k
        · rw [if_neg h2] at k
          walk_at "rd"
          exact k
theorem ok_wish {f : Addr} {fd : FuncData} (F : Fun K "wish" "wish" s_wish f fd) (T : Txt K mg c) (O_refusal_of : Ok P w K mg base "refusal_of" 1 ["world", "place", "must_lead"] (sp_refusal_of c)) (O_begin_wish : Ok P w K mg base "begin_wish" 6 ["world", "place"] (sp_begin_wish c)) : FnOk P w K mg base CX0 7 f fd ["world", "place"] (sp_wish c) := by
  refine F.ok sc_wish (fun vs H Q E h => ?_) (fun cdv A outer s H vs Q E hr h => ?_)
  · obtain ⟨lab, w, ns, s, i, rfl, _⟩ := h
    rfl
  · skip
    obtain ⟨lab, w, ns, s, i, rfl, R, hlo, k⟩ := h
    refine ⟨_, (pss_cons (ps_set (i := 2) sc_wish.nd rfl (Or.inl rfl) (pe_ok O_refusal_of hr (by decide) rfl (pa_cons (pv 0) (pa_cons (pv 1) (pa_cons pe_bl pa_nil)))))
    (pss_cons (ps_if (pt_cmpR op_ne (pv 2) (pe_gint rfl T.g_DONE) (nomark _))
    (pss_one (ps_ret (pv 2)))
    pss_nil)
    (pss_one (ps_ret (pe_ok O_begin_wish hr (by decide) rfl (pa_cons (pv 0) (pa_cons (pv 1) pa_nil))))))), ?_⟩
    walk_at "go"
    refine ⟨lab, w, ns, s, i, false, rfl, R, ?_⟩
    walk_at "rd"
    have e : Ag03.step (some s) (.wish i) = if refusal s i false = 0 then (some (Ag03.wish s i).1, (Ag03.wish s i).2) else (some s, [refusal s i false]) := by
      unfold refusal Ag03.step
      dsimp only
      by_cases c1 : s.nodes.length ≤ i
      · simp [c1]
      · by_cases c2 : (Ag03.node s i).up = false
        · simp [c1, c2]
        · by_cases c3 : (Ag03.node s i).role = 2 <;> simp [c1, c2, c3]
    unfold StepI at k
    rw [e] at k
    refine ite_ndec (fun h => ?_) (fun h => ?_)
    · rw [if_neg h] at k
      walk_at "rd"
      exact k _ s lab H rfl R .refl
    · rw [if_pos h] at k
      have hi : i < s.nodes.length := by
        unfold refusal at h
        by_cases c1 : s.nodes.length ≤ i
        · rw [if_pos c1] at h; omega
        · omega
      walk_at "rd"
      refine ⟨lab, w, ns, s, i, rfl, R, hi, hlo, fun v lab' H' ev R' K' => ?_⟩
      exact k v _ lab' H' (by rw [ev]) R' K'
theorem ok_renew {f : Addr} {fd : FuncData} (F : Fun K "renew" "renew" s_renew f fd) (T : Txt K mg c) (O_refusal_of : Ok P w K mg base "refusal_of" 1 ["world", "place", "must_lead"] (sp_refusal_of c)) (O_begin_round : Ok P w K mg base "begin_round" 4 ["world", "place"] (sp_begin_round c)) : FnOk P w K mg base CX0 5 f fd ["world", "place"] (sp_renew c) := by
  refine F.ok sc_renew (fun vs H Q E h => ?_) (fun cdv A outer s H vs Q E hr h => ?_)
  · obtain ⟨lab, w, ns, s, i, rfl, _⟩ := h
    rfl
  · skip
    obtain ⟨lab, w, ns, s, i, rfl, R, k⟩ := h
    refine ⟨_, (pss_cons (ps_set (i := 2) sc_renew.nd rfl (Or.inl rfl) (pe_ok O_refusal_of hr (by decide) rfl (pa_cons (pv 0) (pa_cons (pv 1) (pa_cons pe_bl pa_nil)))))
    (pss_cons (ps_if (pt_cmpR op_ne (pv 2) (pe_gint rfl T.g_DONE) (nomark _))
    (pss_one (ps_ret (pv 2)))
    pss_nil)
    (pss_cons (ps_expr (pe_ok O_begin_round hr (by decide) rfl (pa_cons (pv 0) (pa_cons (pv 1) pa_nil))))
    (pss_one (ps_ret (pe_fld (pe_ix ix_list (pe_fld (pv 0) rfl) (pv 1) (fun _ _ => rfl)) rfl)))))), ?_⟩
    walk_at "go"
    refine ⟨lab, w, ns, s, i, true, rfl, R, ?_⟩
    walk_at "rd"
    have e : Ag03.step (some s) (.renew i) = if refusal s i true = 0 then (some (Ag03.renew s i), [(((Ag03.node s i).round + 1 : Nat) : Int)]) else (some s, [refusal s i true]) := by
      unfold refusal Ag03.step
      dsimp only
      by_cases c1 : s.nodes.length ≤ i
      · simp [c1]
      · by_cases c2 : (Ag03.node s i).up = false
        · simp [c1, c2]
        · by_cases c3 : (Ag03.node s i).role = 2 <;> simp [c1, c2, c3]
    unfold StepI at k
    rw [e] at k
    refine ite_ndec (fun h => ?_) (fun h => ?_)
    · rw [if_neg h] at k
      walk_at "rd"
      exact k _ s lab H rfl R .refl
    · rw [if_pos h] at k
      have hi : i < s.nodes.length := by
        unfold refusal at h
        by_cases c1 : s.nodes.length ≤ i
        · rw [if_pos c1] at h; omega
        · omega
      walk_at "rd"
      refine ⟨lab, w, ns, s, i, rfl, R, hi, fun lab' H' R' K' => ?_⟩
      obtain ⟨dw, wl, nl, rl, ls, ll, ts, W⟩ := R'.wd
      have hW := W.ob
      have hL := W.nl
      obtain ⟨p, hp⟩ := R.at_ hi
      have hp' : (ns.map V.ref)[i]? = some (.ref p) := by rw [List.getElem?_map, hp]; rfl
      obtain ⟨dx, pr, wv, va, ga, hN, _⟩ := (R'.nd i p hp).apart
      have er : (Ag03.node (Ag03.renew s i) i).round = (Ag03.node s i).round + 1 := by
        unfold Ag03.renew
        dsimp only
        rw [node_send, node_set hi, held_round]
        split <;> rfl
      walk_at "rd"
      rw [er]
      exact k _ _ lab' H' rfl R' K'
theorem ok_leave {f : Addr} {fd : FuncData} (F : Fun K "leave" "leave" s_leave f fd) (T : Txt K mg c) (O_refusal_of : Ok P w K mg base "refusal_of" 1 ["world", "place", "must_lead"] (sp_refusal_of c)) (O_let_go : Ok P w K mg base "let_go" 4 ["world", "place", "heir"] (sp_let_go c)) : FnOk P w K mg base CX0 5 f fd ["world", "place", "heir"] (sp_leave c) := by
  refine F.ok sc_leave (fun vs H Q E h => ?_) (fun cdv A outer s H vs Q E hr h => ?_)
  · obtain ⟨lab, w, ns, s, i, j, rfl, _⟩ := h
    rfl
  · skip
    obtain ⟨lab, w, ns, s, i, j, rfl, R, k⟩ := h
    refine ⟨_, (pss_cons (ps_set (i := 3) sc_leave.nd rfl (Or.inl rfl) (pe_ok O_refusal_of hr (by decide) rfl (pa_cons (pv 0) (pa_cons (pv 1) (pa_cons pe_bl pa_nil)))))
    (pss_cons (ps_if (pt_cmpR op_ne (pv 3) (pe_gint rfl T.g_DONE) (nomark _))
    (pss_one (ps_ret (pv 3)))
    pss_nil)
    (pss_cons (ps_expr (pe_ok O_let_go hr (by decide) rfl (pa_cons (pv 0) (pa_cons (pv 1) (pa_cons (pv 2) pa_nil)))))
    (pss_one (ps_ret (pe_gint rfl T.g_DONE)))))), ?_⟩
    walk_at "go"
    refine ⟨lab, w, ns, s, i, true, rfl, R, ?_⟩
    walk_at "rd"
    have e : Ag03.step (some s) (.leave i j) = if refusal s i true = 0 then (some (Ag03.leave s i j), [0]) else (some s, [refusal s i true]) := by
      unfold refusal Ag03.step
      dsimp only
      by_cases c1 : s.nodes.length ≤ i
      · simp [c1]
      · by_cases c2 : (Ag03.node s i).up = false
        · simp [c1, c2]
        · by_cases c3 : (Ag03.node s i).role = 2 <;> simp [c1, c2, c3]
    unfold StepI at k
    rw [e] at k
    refine ite_ndec (fun h => ?_) (fun h => ?_)
    · rw [if_neg h] at k
      walk_at "rd"
      exact k _ s lab H rfl R .refl
    · rw [if_pos h] at k
      have hi : i < s.nodes.length := by
        unfold refusal at h
        by_cases c1 : s.nodes.length ≤ i
        · rw [if_pos c1] at h; omega
        · omega
      walk_at "rd"
      refine ⟨lab, w, ns, s, i, j, rfl, R, hi, fun lab' H' R' K' => ?_⟩
      walk_at "rd"
      exact k 0 _ lab' H' rfl R' K'
theorem ok_raise_rank {f : Addr} {fd : FuncData} (F : Fun K "raise_rank" "raise_rank" s_raise_rank f fd) (T : Txt K mg c)  : FnOk P w K mg base CX0 1 f fd ["world", "place", "rank"] (sp_raise_rank c) := by
  refine F.ok sc_raise_rank (fun vs H Q E h => ?_) (fun cdv A outer s H vs Q E hr h => ?_)
  · obtain ⟨lab, w, ns, s, i, r, rfl, _⟩ := h
    rfl
  · skip
    obtain ⟨lab, w, ns, s, i, r, rfl, R, k⟩ := h
    obtain ⟨dw, wl, nl, rl, ls, ll, ts, W⟩ := R.wd
    have hW := W.ob
    have hL := W.nl
    have hlen : (ns.map V.ref).length = s.nodes.length := by rw [List.length_map]; exact R.len
    unfold StepI Ag03.step at k
    dsimp only at k
    refine ⟨_, (pss_cons (ps_if (pt_cmpR op_ge (pv 1) (pe_callB call_len_seq (by rfl) T.b_len PySem.boot_len (pa_cons (pe_fld (pv 0) rfl) pa_nil)) (nomark _))
    (pss_one (ps_ret (pe_gint rfl T.g_WRONG)))
    pss_nil)
    (pss_cons (ps_if (PW.pt (pw_or (pt_cmpR op_gt (pv 2) pe_int (nomark _)) (pw_or1 (pt_cmpR op_lt (pv 2) (pe_fld (pe_ix ix_list (pe_fld (pv 0) rfl) (pv 1) (fun _ _ => rfl)) rfl) (nomark _)))))
    (pss_one (ps_ret (pe_gint rfl T.g_UNFIT)))
    pss_nil)
    (pss_cons (ps_fld (pe_ix ix_list (pe_fld (pv 0) rfl) (pv 1) (fun _ _ => rfl)) (pv 2) rfl)
    (pss_one (ps_ret (pe_gint rfl T.g_DONE)))))), ?_⟩
    walk_at "go"
    rw [hlen]
    refine ite_dec (fun h => ?_) (fun h => ?_)
    · rw [if_pos (by omega)] at k
      walk_at "rd"
      exact k (-1) s lab H rfl R .refl
    · rw [if_neg (by omega)] at k
      have hi : i < s.nodes.length := by omega
      obtain ⟨p, hp⟩ := R.at_ hi
      have hp' : (ns.map V.ref)[i]? = some (.ref p) := by rw [List.getElem?_map, hp]; rfl
      obtain ⟨dx, pr, wv, va, ga, hN, hP, hWo, lv, hV, lg, hG, d1, d2, d3⟩ := (R.nd i p hp).apart
      have lp := (R.nd i p hp).lb
      have N := R.inv.gnode hi
      walk_at "rd"
      refine ite_dec (fun h2 => ?_) (fun h2 => ?_)
      · rw [if_pos (.inl (by omega))] at k
        walk_at "rd"
        exact k (-2) s lab H rfl R .refl
      · walk_at "rd"
        refine ite_dec (fun h3 => ?_) (fun h3 => ?_)
        · rw [if_pos (.inr (by omega))] at k
          walk_at "rd"
          exact k (-2) s lab H rfl R .refl
        · rw [if_neg (by omega)] at k
          walk_at "rd"
          intro H1 h1 u1
          refine R.shut hp u1 (n := { Ag03.node s i with rank := r }) (wv := wv) h1 (.old hP u1 (by rw [lp]; exact fun q => nomatch q)) (.old hWo u1 (by rw [lp]; exact fun q => nomatch q)) (.old lv hV u1 (by rw [lp]; exact fun q => nomatch q)) (.old lg hG u1 (by rw [lp]; exact fun q => nomatch q)) d1 d2 d3 ⟨N.would, N.votes, N.given⟩ fun lab1 R1 K1 => ?_
          walk_at "rd"
          exact k 0 _ lab1 H1 rfl R1 K1
end
end Hfs
namespace Hfs
open PySem PySem.Spec PyProof.Rows L2
set_option hygiene false in
local macro_rules | `(tactic| walk_at "rd") => `(tactic| repeat (first
  | (with_reducible refine rd_seq ?_) | (with_reducible refine rd_next ?_) | (with_reducible refine rd_asg ?_) | (with_reducible refine rd_ret ?_) | (with_reducible refine rd_retN ?_) | (with_reducible refine rd_drop ?_)
  | (with_reducible refine rd_ifS ?_) | (with_reducible refine rd_test ?_) | (with_reducible refine rd_tB ?_) | (with_reducible refine rd_not ?_) | (with_reducible refine rd_and ?_) | (with_reducible refine rd_or ?_)
  | (with_reducible refine rd_andV ?_) | (with_reducible refine rd_orV ?_) | (with_reducible refine rd_notV ?_) | (with_reducible refine rd_if ?_) | (with_reducible refine rd_op ?_) | (with_reducible refine rd_I0 ?_)
  | (with_reducible refine rd_eqI ?_) | (with_reducible refine rd_neI ?_) | (with_reducible refine rd_eqB ?_) | (with_reducible refine rd_nil ?_) | (with_reducible refine rd_cons ?_) | (with_reducible refine rd_call ?_)
  | (with_reducible refine rd_cb ?_) | (with_reducible refine rd_fld ?_) | (with_reducible refine rd_sfld ?_) | (with_reducible refine rd_lst ?_) | (with_reducible refine rd_make ?_) | (with_reducible refine rd_c ?_)
  | (with_reducible refine rd_bm ?_) | (with_reducible refine rd_for ?_) | (with_reducible refine rd_rng1 ?_) | (with_reducible refine rd_gname ?_)
  | ((with_reducible refine' And.intro (tyL ?h1) ?_); (case h1 => assumption))
  | ((with_reducible refine' rd_len ?h1 ?_); (case h1 => assumption))
  | (refine ⟨_, _, (rfl : [V.int _, V.int _] = [V.int _, V.int _]), ?_⟩) | (with_reducible refine rd_ilist ?_) | (with_reducible refine rd_lc ?_) | (with_reducible refine rd_yes ?_) | (with_reducible refine rd_chain ?_)
  | ((with_reducible refine' rd_ilistR ?h1 ?_); (case h1 => assumption))
  | ((with_reducible refine' rd_in ?h1 ?_); (case h1 => assumption)) | (with_reducible refine rd_eqVn ?_) | (with_reducible refine rd_eqVs ?_)
  | (with_reducible refine rd_bl ?_) | (with_reducible refine And.intro (rfl : V.non = V.non) ?_) | (with_reducible refine iteT ?_) | (with_reducible refine iteF ?_)
  | (with_reducible refine ite_rn ?_) | (with_reducible refine ite_nn ?_) | (with_reducible refine ite_nrn ?_) | (with_reducible refine ite_nnn ?_)
  | ((with_reducible refine' rd_var ?h1 ?_); (case h1 => rfl))
  | ((with_reducible refine' rd_fN T ?h1 ?h2 ?h3 ?_); (case h1 => assumption); (case h2 => rfl); (case h3 => decide +kernel))
  | ((with_reducible refine' rd_fW T ?h1 ?h2 ?h3 ?_); (case h1 => assumption); (case h2 => rfl); (case h3 => decide +kernel))
  | ((with_reducible refine' rd_fL T ?h1 ?h2 ?h3 ?_); (case h1 => assumption); (case h2 => rfl); (case h3 => decide +kernel))
  | ((with_reducible refine' rd_fP T ?h1 ?h2 ?h3 ?_); (case h1 => assumption); (case h2 => rfl); (case h3 => decide +kernel))
  | ((with_reducible refine' rd_ixL ?h1 ?h2 ?_); (case h1 => assumption); (case h2 => assumption))
  | ((with_reducible refine' rd_stN T ?h1 ?h2 ?h3 ?_); (case h1 => assumption); (case h2 => rfl); (case h3 => decide +kernel))
  | ((with_reducible refine' rd_stW T ?h1 ?h2 ?h3 ?_); (case h1 => assumption); (case h2 => rfl); (case h3 => decide +kernel))
  | ((with_reducible refine' rd_lstR ?h1 ?_); (case h1 => first | (show 0 ≤ sizeLine; decide +kernel) | (show 1 ≤ sizeLine; decide +kernel) | (show 2 ≤ sizeLine; decide +kernel) | (show 3 ≤ sizeLine; decide +kernel) | (show 4 ≤ sizeLine; decide +kernel) | (show 5 ≤ sizeLine; decide +kernel) | (show 6 ≤ sizeLine; decide +kernel)))
  | (with_reducible refine rd_tup ?_) | ((with_reducible refine' rd_tupR ?h1 ?_); (case h1 => (show 2 ≤ sizeLine; decide +kernel)))
  | (with_reducible refine rd_asgG ?_) | (with_reducible refine rd_gsub ?_) | (with_reducible refine rd_sl ?_) | (with_reducible refine rd_nopart ?_) | (with_reducible refine rd_part ?_) | (with_reducible refine rd_pint ?_) | (with_reducible refine rd_enum ?_)
  | ((with_reducible refine' rd_ix0 ?h1 ?_); (case h1 => assumption)) | ((with_reducible refine' rd_ix1 ?h1 ?_); (case h1 => assumption)) | ((with_reducible refine' rd_ix2 ?h1 ?_); (case h1 => assumption))
  | (with_reducible refine ite_bit ?_)))
set_option hygiene false in
local macro_rules | `(tactic| walk_at "go") => `(tactic| ((try simp only [cxK]); walk_at "rd"))
set_option hygiene false in
local macro_rules | `(tactic| walk_at "lit") => `(tactic| ((repeat (walk_at "rd"; first | (refine ite_decF (by decide) ?_) | (refine ite_decT (by decide) ?_))); walk_at "rd"))
section
variable {P : Program} {w : World} {K : PySem.W.Frag} {mg : Str → Option Value} {base : Heap} {c : Cs}
theorem mem_le_sum : ∀ (l : List Nat) (x : Nat), x ∈ l → x ≤ l.sum
  | [], _, h => nomatch h
  | a :: l, x, h => by
    rw [List.sum_cons]
    rcases List.mem_cons.mp h with rfl | h'
    · omega
    · have := mem_le_sum l x h'
      omega
theorem seq_ix {k n : Nat} (h : k < n) : seqIndex? (k : Int) n = some k := by
  unfold seqIndex?
  simp
  omega
theorem rd_popat {H : Hp} {Q : VK} {p : Addr} {xs : List V} {k : Nat} {y : V} (h : H p = some (.lst xs)) (hk : k ≤ 200) (hy : xs[k]? = some y) (kk : ∀ H' : Hp, H' p = some (.lst (xs.eraseIdx k)) → Pres p H H' → Q y H') : rPopAt (.ref p) [.int (k : Int)] H Q :=
  ⟨p, xs, k, k, y, rfl, rfl, h, by omega, by omega, seq_ix (List.getElem?_eq_some_iff.mp hy).1, hy, kk _ upd_same .upd⟩
theorem lets_erase {lab : Lab} {H : Hp} {ls : List Addr} {l : List Ag03.Letter} (L : Lets c lab H ls l) (k : Nat) : Lets c lab H (ls.eraseIdx k) (l.eraseIdx k) := by
  refine ⟨?_, fun j a x e1 e2 => ?_⟩
  · rw [List.length_eraseIdx, List.length_eraseIdx, L.len]
  · rw [List.getElem?_eraseIdx] at e1 e2
    split at e1
    · rename_i h
      rw [if_pos h] at e2
      exact L.at_ _ _ _ e1 e2
    · rename_i h
      rw [if_neg h] at e2
      exact L.at_ _ _ _ e1 e2
theorem Lets.get {lab : Lab} {H : Hp} {ls : List Addr} {l : List Ag03.Letter} (L : Lets c lab H ls l) {k : Nat} (hk : k < l.length) : ∃ a x, ls[k]? = some a ∧ l[k]? = some x ∧ LetAt c lab H a x := by
  have h1 : k < ls.length := by rw [L.len]; exact hk
  exact ⟨_, _, List.getElem?_eq_getElem h1, List.getElem?_eq_getElem hk, L.at_ _ _ _ (List.getElem?_eq_getElem h1) (List.getElem?_eq_getElem hk)⟩
theorem hand_one (s : Ag03.State) (x : Ag03.Letter) : ∃ v, (Ag03.hand s x).2 = [v] := by
  unfold Ag03.hand
  dsimp only
  repeat' split
  all_goals first | exact ⟨_, rfl⟩ | exact out1
theorem ok_take {f : Addr} {fd : FuncData} (F : Fun K "take" "take" s_take f fd) (T : Txt K mg c) (O_hand_over : Ok P w K mg base "hand_over" 7 ["world", "letter"] (sp_hand_over c)) : FnOk P w K mg base CX0 8 f fd ["world", "place"] (sp_take c) := by
  refine F.ok sc_take (fun vs H Q E h => ?_) (fun cdv A outer s H vs Q E hr h => ?_)
  · obtain ⟨lab, w, ns, s, k, rfl, _⟩ := h
    rfl
  · skip
    obtain ⟨lab, w, ns, s, i, rfl, R, h200, hlo, k⟩ := h
    obtain ⟨dw, wl, nl, rl, ls, ll, ts, W⟩ := R.wd
    have hW := W.ob
    have hL := W.nl
    have hlen : (ns.map V.ref).length = s.nodes.length := by rw [List.length_map]; exact R.len
    have hR := W.rl
    have hll : (ls.map V.ref).length = s.letters.length := by rw [List.length_map]; exact W.lets.len
    unfold StepI Ag03.step at k
    dsimp only at k
    refine ⟨_, (pss_cons (ps_if (pt_cmpR op_ge (pv 1) (pe_callB call_len_seq (by rfl) T.b_len PySem.boot_len (pa_cons (pe_fld (pv 0) rfl) pa_nil)) (nomark _))
    (pss_one (ps_ret (pe_gint rfl T.g_WRONG)))
    pss_nil)
    (pss_cons (ps_set (i := 2) sc_take.nd rfl (Or.inl rfl) (pe_bm PySem.F.plainAttrs_list PySem.F.slot_list_pop PySem.F.type_list_pop mt_popAt (pe_fld (pv 0) rfl) (pa_cons (pv 1) pa_nil)))
    (pss_one (ps_ret (pe_ok O_hand_over hr (by decide) rfl (pa_cons (pv 0) (pa_cons (pv 2) pa_nil))))))), ?_⟩
    walk_at "go"
    rw [hll]
    refine ite_dec (fun h => ?_) (fun h => ?_)
    · rw [List.getElem?_eq_none (by omega)] at k
      walk_at "rd"
      exact k (-1) s lab H rfl R .refl
    · obtain ⟨a, x, e1, e2, hA⟩ := W.lets.get (k := i) (by omega)
      rw [e2] at k
      dsimp only at k
      have hM := R.inv.lets x (List.mem_of_getElem? e2)
      walk_at "rd"
      refine rd_popat hR h200 (y := .ref a) (by rw [List.getElem?_map, e1]; rfl) (fun H1 h1 u1 => ?_)
      have kp : Keep (fun t => t = .row) lab H lab H1 := .pres u1 W.lrl ⟨_, h1⟩
      have R1 := R.rowed (ls' := ls.eraseIdx i) (l := s.letters.eraseIdx i) W kp (by rw [← map_erase]; exact h1) ((lets_erase W.lets i).keep kp (fun q => nomatch q)) (R.inv.erase i)
      walk_at "rd"
      refine ⟨lab, w, ns, _, a, x, rfl, R1, hA.keep kp (fun q => nomatch q), hM, hlo, fun v lab' H' ev R' K' => ?_⟩
      exact k v _ lab' H' (by rw [ev]) R' ((kp.mono fun t q => by rw [q]; exact trivial).trans K')
theorem ok_keep {f : Addr} {fd : FuncData} (F : Fun K "keep" "keep" s_keep f fd) (T : Txt K mg c) (O_hand_over : Ok P w K mg base "hand_over" 7 ["world", "letter"] (sp_hand_over c)) : FnOk P w K mg base CX0 8 f fd ["world", "place"] (sp_keep c) := by
  refine F.ok sc_keep (fun vs H Q E h => ?_) (fun cdv A outer s H vs Q E hr h => ?_)
  · obtain ⟨lab, w, ns, s, k, rfl, _⟩ := h
    rfl
  · skip
    obtain ⟨lab, w, ns, s, i, rfl, R, hlo, k⟩ := h
    obtain ⟨dw, wl, nl, rl, ls, ll, ts, W⟩ := R.wd
    have hW := W.ob
    have hL := W.nl
    have hlen : (ns.map V.ref).length = s.nodes.length := by rw [List.length_map]; exact R.len
    have hR := W.rl
    have hll : (ls.map V.ref).length = s.letters.length := by rw [List.length_map]; exact W.lets.len
    unfold StepI Ag03.step at k
    dsimp only at k
    refine ⟨_, (pss_cons (ps_if (pt_cmpR op_ge (pv 1) (pe_callB call_len_seq (by rfl) T.b_len PySem.boot_len (pa_cons (pe_fld (pv 0) rfl) pa_nil)) (nomark _))
    (pss_one (ps_ret (pe_gint rfl T.g_WRONG)))
    pss_nil)
    (pss_one (ps_ret (pe_ok O_hand_over hr (by decide) rfl (pa_cons (pv 0) (pa_cons (pe_ix ix_list (pe_fld (pv 0) rfl) (pv 1) (fun _ _ => rfl)) pa_nil)))))), ?_⟩
    walk_at "go"
    rw [hll]
    refine ite_dec (fun h => ?_) (fun h => ?_)
    · rw [List.getElem?_eq_none (by omega)] at k
      walk_at "rd"
      exact k (-1) s lab H rfl R .refl
    · obtain ⟨a, x, e1, e2, hA⟩ := W.lets.get (k := i) (by omega)
      rw [e2] at k
      dsimp only at k
      have hM := R.inv.lets x (List.mem_of_getElem? e2)
      have ha' : (ls.map V.ref)[i]? = some (.ref a) := by rw [List.getElem?_map, e1]; rfl
      walk_at "rd"
      refine ⟨lab, w, ns, _, a, x, rfl, R, hA, hM, hlo, fun v lab' H' ev R' K' => ?_⟩
      exact k v _ lab' H' (by rw [ev]) R' K'
theorem ok_clock_may_go {f : Addr} {fd : FuncData} (F : Fun K "clock_may_go" "clock_may_go" s_clock_may_go f fd) (T : Txt K mg c)  : FnOk P w K mg base CX0 1 f fd ["world", "passed", "clock"] (sp_clock_may_go c) := by
  refine F.ok sc_clock_may_go (fun vs H Q E h => ?_) (fun cdv A outer s H vs Q E hr h => ?_)
  · obtain ⟨lab, w, ns, s, d, a, rfl, _⟩ := h
    rfl
  · skip
    obtain ⟨lab, w, ns, s, d, a, rfl, R, hd, ha, k⟩ := h
    obtain ⟨dw, wl, nl, rl, ls, ll, ts, W⟩ := R.wd
    have hW := W.ob
    have hL := W.nl
    have hlen : (ns.map V.ref).length = s.nodes.length := by rw [List.length_map]; exact R.len
    have hw := R.inv.wrong
    refine ⟨_, (pss_one (ps_ret (pe_chain op_le op_le (pe_op op_mul (pv 1) (pe_op op_sub pe_int (pe_fld (pv 0) rfl))) (pe_op op_mul pe_int (pv 2)) (pe_op op_mul (pv 1) (pe_op op_add pe_int (pe_fld (pv 0) rfl)))))), ?_⟩
    have e1 : ((d * (1000 - s.wrong) : Nat) : Int) = (d : Int) * (1000 - (s.wrong : Int)) := by
      rw [Int.natCast_mul, Int.natCast_sub (by omega)]
      rfl
    have e2 : ((d * (1000 + s.wrong) : Nat) : Int) = (d : Int) * (1000 + (s.wrong : Int)) := by
      rw [Int.natCast_mul]
      rfl
    unfold Ag03.fair at k
    walk_at "go"
    refine ⟨_, _, rfl, rfl, .inl ⟨by omega, by omega⟩, ?_⟩
    walk_at "rd"
    refine ⟨_, _, rfl, rfl, .inl ⟨by decide, by decide⟩, ?_⟩
    walk_at "rd"
    rw [← e1]
    refine ite_dec (fun h => ?_) (fun h => ?_)
    · rw [decide_eq_true (by omega), Bool.true_and] at k
      walk_at "rd"
      refine ⟨_, _, rfl, rfl, .inl ⟨by omega, by omega⟩, ?_⟩
      walk_at "rd"
      show Q (V.bl (decide (1000 * (a : Int) ≤ (d : Int) * (1000 + (s.wrong : Int))))) H
      rw [← e2]
      have e3 : decide (1000 * a ≤ d * (1000 + s.wrong)) = decide (1000 * (a : Int) ≤ ((d * (1000 + s.wrong) : Nat) : Int)) := decide_eq_decide.mpr (by omega)
      rw [← e3]
      exact k
    · rw [decide_eq_false (by omega), Bool.false_and] at k
      exact k
theorem ok_begin_is_right {f : Addr} {fd : FuncData} (F : Fun K "begin_is_right" "begin_is_right" s_begin_is_right f fd) (T : Txt K mg c) (O_span_of : Ok P w K mg base "span_of" 1 ["wrong", "long"] (sp_span_of c)) : FnOk P w K mg base CX0 2 f fd ["wrong", "long", "weights"] (sp_begin_is_right c) := by
  refine F.ok sc_begin_is_right (fun vs H Q E h => ?_) (fun cdv A outer s H vs Q E hr h => ?_)
  · obtain ⟨w, l, a, p, rfl, _⟩ := h
    rfl
  · skip
    obtain ⟨w, l, a, p, rfl, hA, hw, hl, hp, k⟩ := h
    rw [map_vn] at hA
    have key : ∀ b : Bool, beginOk w l p = b → Q (.bl b) H := fun b e => by rw [← e]; exact k
    have kf : (p.isEmpty = true ∨ (5 < p.length ∨ (p.any (fun (n : Nat) => decide (9 < n)) = true ∨ (Ag03.sum p = 0 ∨ (200 < w ∨ (1000 < l ∨ l * (1000 - w) / (1000 + w) = 0)))))) → Q (.bl false) H := fun e => key false (by unfold beginOk; rw [decide_eq_true e]; rfl)
    refine ⟨_, (pss_cons (ps_if (PW.pt (pw_or (pt_cmpR op_lt (pe_callB call_len_seq (by rfl) T.b_len PySem.boot_len (pa_cons (pv 2) pa_nil)) pe_int (nomark _)) (pw_or1 (pt_cmpR op_gt (pe_callB call_len_seq (by rfl) T.b_len PySem.boot_len (pa_cons (pv 2) pa_nil)) pe_int (nomark _)))))
    (pss_one (ps_ret pe_bl))
    pss_nil)
    (pss_cons (ps_if (PW.pt (pw_or (pt_cmpR op_gt (pe_callB (cr_max rfl) (by rfl) T.b_max (by decide +kernel) (pa_cons (pv 2) pa_nil)) pe_int (nomark _)) (pw_or1 (pt_cmpR op_eq (pe_callB (cr_max rfl) (by rfl) T.b_max (by decide +kernel) (pa_cons (pv 2) pa_nil)) pe_int (nomark _)))))
    (pss_one (ps_ret pe_bl))
    pss_nil)
    (pss_one (ps_ret (pe_and (pe_cmpR op_le (pv 0) pe_int (nomark _)) (pe_and (pe_cmpR op_le (pv 1) pe_int (nomark _)) (pe_one (pe_cmpR op_gt (pe_ok O_span_of hr (by decide) rfl (pa_cons (pv 0) (pa_cons (pv 1) pa_nil))) pe_int (nomark _))))))))), ?_⟩
    walk_at "go"
    simp only [List.length_map]
    refine ite_dec (fun h => ?_) (fun h => ?_)
    · walk_at "rd"
      refine kf (.inl ?_)
      cases p with
      | nil => rfl
      | cons x r => rw [List.length_cons] at h; omega
    · walk_at "rd"
      simp only [List.length_map]
      refine ite_dec (fun h2 => ?_) (fun h2 => ?_)
      · walk_at "rd"
        exact kf (.inr (.inl (by omega)))
      · walk_at "rd"
        have mem : ∀ m : Int, m ∈ (p.map fun (k : Nat) => (k : Int)) → ∃ n : Nat, n ∈ p ∧ m = (n : Int) := fun m hm => by
          obtain ⟨n, hn, e⟩ := List.mem_map.mp hm
          exact ⟨n, hn, e.symm⟩
        refine ⟨a, _, rfl, SqL.of hA, by rw [List.length_map]; omega, fun m hm hmax => ?_⟩
        obtain ⟨n, hn, rfl⟩ := mem m hm
        walk_at "rd"
        refine ite_dec (fun h3 => ?_) (fun h3 => ?_)
        · walk_at "rd"
          refine kf (.inr (.inr (.inl ?_)))
          rw [List.any_eq_true]
          exact ⟨n, hn, decide_eq_true (by omega)⟩
        · have h9 : ¬ p.any (fun (n : Nat) => decide (9 < n)) = true := fun e => by
            obtain ⟨x, hx, e⟩ := List.any_eq_true.mp e
            have e1 := of_decide_eq_true e
            have e2 := hmax (x : Int) (List.mem_map.mpr ⟨x, hx, rfl⟩)
            omega
          walk_at "rd"
          refine ⟨a, _, rfl, SqL.of hA, by rw [List.length_map]; omega, fun m2 hm2 hmax2 => ?_⟩
          obtain ⟨n2, hn2, rfl⟩ := mem m2 hm2
          walk_at "rd"
          refine ite_dec (fun h4 => ?_) (fun h4 => ?_)
          · walk_at "rd"
            refine kf (.inr (.inr (.inr (.inl ?_))))
            rw [sum_eq, ← List.map_id' p]
            refine sum_zero _ p fun x hx => ?_
            have e2 := hmax2 (x : Int) (List.mem_map.mpr ⟨x, hx, rfl⟩)
            omega
          · have h0 : ¬ Ag03.sum p = 0 := fun e => by
              rw [sum_eq] at e
              have e1 : n2 ≤ p.sum := mem_le_sum p n2 hn2
              omega
            have h1 : ¬ p.isEmpty = true := fun e => by
              rw [List.isEmpty_iff.mp e] at h
              exact h (by decide)
            walk_at "rd"
            refine ite_and (b := decide ((l : Int) ≤ 1000) && decide ((0 : Int) < ((l * (1000 - w) / (1000 + w) : Nat) : Int))) (fun Q' q => ?_) ?_
            · walk_at "rd"
              refine ite_and (fun Q2 q2 => ?_) q
              walk_at "rd"
              refine ⟨by omega, by omega, ?_⟩
              walk_at "rd"
              exact q2
            · refine key _ ?_
              unfold beginOk
              rw [Bool.eq_iff_iff]
              simp only [Bool.not_eq_true', decide_eq_false_iff_not, Bool.and_eq_true, decide_eq_true_eq, not_or]
              constructor
              · rintro ⟨_, _, _, _, a5, a6, a7⟩
                exact ⟨by omega, by omega, Int.natCast_pos.mpr (Nat.pos_of_ne_zero a7)⟩
              · rintro ⟨a5, a6, a7⟩
                exact ⟨h1, by omega, h9, h0, by omega, by omega, by omega⟩
end
end Hfs
namespace Hfs
open PySem PySem.Spec PyProof.Rows L2
set_option hygiene false in
local macro_rules | `(tactic| walk_at "rd") => `(tactic| repeat (first
  | (with_reducible refine rd_seq ?_) | (with_reducible refine rd_next ?_) | (with_reducible refine rd_asg ?_) | (with_reducible refine rd_ret ?_) | (with_reducible refine rd_retN ?_) | (with_reducible refine rd_drop ?_)
  | (with_reducible refine rd_ifS ?_) | (with_reducible refine rd_test ?_) | (with_reducible refine rd_tB ?_) | (with_reducible refine rd_not ?_) | (with_reducible refine rd_and ?_) | (with_reducible refine rd_or ?_)
  | (with_reducible refine rd_andV ?_) | (with_reducible refine rd_orV ?_) | (with_reducible refine rd_notV ?_) | (with_reducible refine rd_if ?_) | (with_reducible refine rd_op ?_) | (with_reducible refine rd_I0 ?_)
  | (with_reducible refine rd_eqI ?_) | (with_reducible refine rd_neI ?_) | (with_reducible refine rd_eqB ?_) | (with_reducible refine rd_nil ?_) | (with_reducible refine rd_cons ?_) | (with_reducible refine rd_call ?_)
  | (with_reducible refine rd_cb ?_) | (with_reducible refine rd_fld ?_) | (with_reducible refine rd_sfld ?_) | (with_reducible refine rd_lst ?_) | (with_reducible refine rd_make ?_) | (with_reducible refine rd_c ?_)
  | (with_reducible refine rd_bm ?_) | (with_reducible refine rd_for ?_) | (with_reducible refine rd_rng1 ?_) | (with_reducible refine rd_gname ?_)
  | ((with_reducible refine' And.intro (tyL ?h1) ?_); (case h1 => assumption))
  | ((with_reducible refine' rd_len ?h1 ?_); (case h1 => assumption))
  | (refine ⟨_, _, (rfl : [V.int _, V.int _] = [V.int _, V.int _]), ?_⟩) | (with_reducible refine rd_ilist ?_) | (with_reducible refine rd_lc ?_) | (with_reducible refine rd_yes ?_) | (with_reducible refine rd_chain ?_)
  | ((with_reducible refine' rd_ilistR ?h1 ?_); (case h1 => assumption))
  | ((with_reducible refine' rd_in ?h1 ?_); (case h1 => assumption)) | (with_reducible refine rd_eqVn ?_) | (with_reducible refine rd_eqVs ?_)
  | (with_reducible refine rd_bl ?_) | (with_reducible refine And.intro (rfl : V.non = V.non) ?_) | (with_reducible refine iteT ?_) | (with_reducible refine iteF ?_)
  | (with_reducible refine ite_rn ?_) | (with_reducible refine ite_nn ?_) | (with_reducible refine ite_nrn ?_) | (with_reducible refine ite_nnn ?_)
  | ((with_reducible refine' rd_var ?h1 ?_); (case h1 => rfl))
  | ((with_reducible refine' rd_fN T ?h1 ?h2 ?h3 ?_); (case h1 => assumption); (case h2 => rfl); (case h3 => decide +kernel))
  | ((with_reducible refine' rd_fW T ?h1 ?h2 ?h3 ?_); (case h1 => assumption); (case h2 => rfl); (case h3 => decide +kernel))
  | ((with_reducible refine' rd_fL T ?h1 ?h2 ?h3 ?_); (case h1 => assumption); (case h2 => rfl); (case h3 => decide +kernel))
  | ((with_reducible refine' rd_fP T ?h1 ?h2 ?h3 ?_); (case h1 => assumption); (case h2 => rfl); (case h3 => decide +kernel))
  | ((with_reducible refine' rd_ixL ?h1 ?h2 ?_); (case h1 => assumption); (case h2 => assumption))
  | ((with_reducible refine' rd_stN T ?h1 ?h2 ?h3 ?_); (case h1 => assumption); (case h2 => rfl); (case h3 => decide +kernel))
  | ((with_reducible refine' rd_stW T ?h1 ?h2 ?h3 ?_); (case h1 => assumption); (case h2 => rfl); (case h3 => decide +kernel))
  | ((with_reducible refine' rd_lstR ?h1 ?_); (case h1 => first | (show 0 ≤ sizeLine; decide +kernel) | (show 1 ≤ sizeLine; decide +kernel) | (show 2 ≤ sizeLine; decide +kernel) | (show 3 ≤ sizeLine; decide +kernel) | (show 4 ≤ sizeLine; decide +kernel) | (show 5 ≤ sizeLine; decide +kernel) | (show 6 ≤ sizeLine; decide +kernel)))
  | (with_reducible refine rd_tup ?_) | ((with_reducible refine' rd_tupR ?h1 ?_); (case h1 => (show 2 ≤ sizeLine; decide +kernel)))
  | (with_reducible refine rd_asgG ?_) | (with_reducible refine rd_gsub ?_) | (with_reducible refine rd_sl ?_) | (with_reducible refine rd_nopart ?_) | (with_reducible refine rd_part ?_) | (with_reducible refine rd_pint ?_) | (with_reducible refine rd_enum ?_)
  | ((with_reducible refine' rd_ix0 ?h1 ?_); (case h1 => assumption)) | ((with_reducible refine' rd_ix1 ?h1 ?_); (case h1 => assumption)) | ((with_reducible refine' rd_ix2 ?h1 ?_); (case h1 => assumption))
  | (with_reducible refine ite_bit ?_)))
set_option hygiene false in
local macro_rules | `(tactic| walk_at "go") => `(tactic| ((try simp only [cxK]); walk_at "rd"))
set_option hygiene false in
local macro_rules | `(tactic| walk_at "lit") => `(tactic| ((repeat (walk_at "rd"; first | (refine ite_decF (by decide) ?_) | (refine ite_decT (by decide) ?_))); walk_at "rd"))
section
variable {P : Program} {w : World} {K : PySem.W.Frag} {mg : Str → Option Value} {base : Heap} {c : Cs}
theorem WInv.now {s : Ag03.State} (I : WInv s) (t : Nat) : WInv { s with now := t } := ⟨I.wl, I.pos, I.five, I.w9, I.wrong, I.long, I.nodes, I.lets, I.room⟩
theorem Rep.timed {lab : Lab} {H H' : Hp} {w : Addr} {ns : List Addr} {s : Ag03.State} {dw wl nl rl : Addr} {ls : List Addr} {ll : Addr} {ts : List Addr} {t : Nat} (R : Rep c lab H w ns s) (W : WorldAt c lab H w ns s dw wl nl rl ls ll ts) (u : Pres w H H') (h : H' w = some (.ins c.CW dw (worldF { s with now := t } wl nl rl ll))) : Rep c lab H' w ns { s with now := t } ∧ Keep Tag.any lab H lab H' := by
  have k : Keep (fun t => t = .wd) lab H lab H' := .pres u W.lw ⟨_, h⟩
  have f : ¬ (Tag.free = Tag.wd) := fun q => nomatch q
  refine ⟨⟨R.inv.now t, R.len, ⟨dw, wl, nl, rl, ls, ll, ts, ?_⟩, fun j q hq => ?_⟩, k.mono fun t q => by rw [q]; exact trivial⟩
  · exact ⟨h, W.lw, W.lwl, k.kp _ _ W.wl (by rw [W.lwl]; exact f), W.lnl, k.kp _ _ W.nl (by rw [W.lnl]; exact fun q => nomatch q), W.lrl, k.kp _ _ W.rl (by rw [W.lrl]; exact fun q => nomatch q), W.lets.keep k f, W.lll, k.kp _ _ W.ll (by rw [W.lll]; exact fun q => nomatch q), W.leds.keep k f⟩
  · exact (R.nd j q hq).keep k f (fun q => nomatch q) (fun q => nomatch q) (fun q => nomatch q) (fun q => nomatch q)
theorem rd_all {K : PySem.W.Frag} {H : Hp} {Q : VK} {p : Addr} {bs : List Bool} (h : H p = some (.lst (bs.map V.bl))) (k : Q (.bl (bs.all id)) H) : rAll K [.ref p] H Q := ⟨p, bs, rfl, SqL.of h, k⟩
theorem rd_zip {K : PySem.W.Frag} {σ : L2.St} {H : Hp} {tas : TA} {R : It → Hp → Prop} (k : tas σ H fun vs H1 => ∃ a b xs ys, vs = [.ref a, .ref b] ∧ SqL K H1 a xs ∧ SqL K H1 b ys ∧ R (Itz K a b) H1) : iZip K tas σ H R := k
theorem ok_elapse {f : Addr} {fd : FuncData} (F : Fun K "elapse" "elapse" s_elapse f fd) (T : Txt K mg c) (O_clock_may_go : Ok P w K mg base "clock_may_go" 1 ["world", "passed", "clock"] (sp_clock_may_go c)) : FnOk P w K mg base CX0 2 f fd ["world", "passed", "clocks"] (sp_elapse c) := by
  refine F.ok sc_elapse (fun vs H Q E h => ?_) (fun cdv A outer s H vs Q E hr h => ?_)
  · obtain ⟨lab, w, ns, s, d, a, l, rfl, _⟩ := h
    rfl
  · skip
    obtain ⟨lab, w, ns, s, d, a, l, rfl, R, hA, lA, hd, hl, h10, k⟩ := h
    obtain ⟨dw, wl, nl, rl, ls, ll, ts, W⟩ := R.wd
    have hW := W.ob
    have hL := W.nl
    have hlen : (ns.map V.ref).length = s.nodes.length := by rw [List.length_map]; exact R.len
    unfold StepI Ag03.step at k
    dsimp only at k
    refine ⟨_, (pss_cons (ps_if (PW.pt (pw_or (pt_cmpR op_gt (pv 1) pe_int (nomark _)) (pw_or1 (pt_cmpR op_ne (pe_callB call_len_seq (by rfl) T.b_len PySem.boot_len (pa_cons (pv 2) pa_nil)) (pe_callB call_len_seq (by rfl) T.b_len PySem.boot_len (pa_cons (pe_fld (pv 0) rfl) pa_nil)) (nomark _)))))
    (pss_one (ps_ret (pe_gint rfl T.g_WRONG)))
    pss_nil)
    (pss_cons (ps_if (pt_not (pt_val (pe_callB (cr_all rfl) (by rfl) T.b_all (by decide +kernel) (pa_cons (pe_lc (own := [("clock", 4)]) (g := (gName 4)) (tt := tYes) (te := (tCall (sp_clock_may_go c) [] E0 (tCons (tVar 0) (tCons (tVar 1) (tCons (tVar 4) tNil))))) rfl sc_elapse.nd (pi_list (pv 2)) (blkOk_by (own := [("clock", 4)]) (N := N_elapse) (sc := defScope s_elapse) (by decide +kernel)) (fun _ _ _ _ _ => (pg_name (i := 4) sc_elapse.nd rfl (Or.inl rfl))) (fun _ _ _ _ _ => pts_nil) (fun _ _ _ _ _ => (pe_ok O_clock_may_go hr (by decide) rfl (pa_cons (pv 0) (pa_cons (pv 1) (pa_cons (pv 4) pa_nil)))))) pa_nil))))
    (pss_one (ps_ret (pe_gint rfl T.g_WRONG)))
    pss_nil)
    (pss_cons (ps_fld (pv 0) (pe_op op_add (pe_fld (pv 0) rfl) (pv 1)) rfl)
    (pss_cons (ps_for PassesOwn.never rfl (pi_zip (by rfl) T.b_zip (pa_cons (pe_fld (pv 0) rfl) (pa_cons (pv 2) pa_nil))) (pg_tup rfl (pgs_cons (pg_name (i := 3) sc_elapse.nd rfl (Or.inl rfl)) (pgs_cons (pg_name (i := 4) sc_elapse.nd rfl (Or.inl rfl)) pgs_nil)))
    (pss_one (ps_fld (pv 3) (pe_op op_add (pe_fld (pv 3) rfl) (pv 4)) rfl)))
    (pss_one (ps_ret (pe_fld (pv 0) rfl))))))), ?_⟩
    walk_at "go"
    refine ite_dec (fun h => ?_) (fun h => ?_)
    · rw [if_pos (.inl (by omega))] at k
      walk_at "rd"
      exact k (-1) s lab H rfl R .refl
    walk_at "rd"
    rw [hlen, List.length_map]
    refine ite_ndec (fun h2 => ?_) (fun h2 => ?_)
    · rw [if_pos (.inr (.inl (by omega)))] at k
      walk_at "rd"
      exact k (-1) s lab H rfl R .refl
    have hln : l.length = s.nodes.length := by omega
    walk_at "rd"
    refine rd_lcM (ys := (l.map (Ag03.fair s.wrong d)).map V.bl) hA (by simp) (by rw [List.length_map]; omega) (fun _ => rfl) ?_ ?_
    · intro i x y H' hx hy s1 QQ kk
      rw [List.getElem?_map] at hx
      rw [List.getElem?_map, List.getElem?_map] at hy
      cases e : l[i]? with
      | none => rw [e] at hx; cases hx
      | some m =>
        rw [e] at hx hy
        cases hx
        cases hy
        walk_at "rd"
        exact ⟨lab, w, ns, s, d, m, rfl, R.same s1, hd, hl m (List.mem_of_getElem? e), kk⟩
    · intro D H1 hD hd1 s1
      have R1 := R.same s1
      walk_at "rd"
      refine rd_all hd1 ?_
      have ea : (l.map (Ag03.fair s.wrong d)).all id = l.all (Ag03.fair s.wrong d) := by rw [List.all_map]; rfl
      rw [ea]
      walk_at "rd"
      refine ite_nb (fun e => ?_) (fun e => ?_)
      · rw [if_pos (.inr (.inr e))] at k
        walk_at "rd"
        exact k (-1) s lab H1 rfl R1 (.ofSame s1)
      · rw [if_neg (by rw [e]; simp; omega)] at k
        have hW1 := s1 _ _ hW
        obtain ⟨dw1, wl1, nl1, rl1, ls1, ll1, ts1, W1⟩ := R1.wd
        have ew := W1.ob.symm.trans hW1
        cases ew
        walk_at "rd"
        intro H2 h2 u2
        obtain ⟨R2, K2⟩ := R1.timed (t := s.now + d) W1 u2 h2
        have K02 : Keep Tag.any lab H lab H2 := (Keep.ofSame s1).trans K2
        have hA2 : H2 a = some (.lst (l.map vn)) := K02.kp _ _ hA (by rw [lA]; exact id)
        have hL2 : H2 nl = some (.lst (ns.map V.ref)) := K02.kp _ _ hL (by rw [W.lnl]; exact id)
        walk_at "rd"
        refine rd_zip ?_
        walk_at "rd"
        refine ⟨nl, a, _, _, rfl, SqL.of hL2, SqL.of hA2, ?_⟩
        refine RZ.for_zipL (xs := ns.map V.ref) (ys := l.map vn) (by rw [hlen, List.length_map, hln]) (fun i σ H' => ∃ (v3 v4 : Option V) (lab' : Lab), σ = [some (.ref w), some (vn d), some (.ref a), v3, v4] ∧ Rep c lab' H' w ns (upTo { s with now := s.now + d } l i) ∧ Keep Tag.any lab H lab' H')
          ⟨none, none, lab, rfl, by rw [upTo_zero]; exact R2, K02⟩ ?_ ?_ ?_
        · rintro i σ H' ⟨v3, v4, lab', _, _, K'⟩
          exact ⟨SqL.of (K'.kp _ _ hL (by rw [W.lnl]; exact id)), SqL.of (K'.kp _ _ hA (by rw [lA]; exact id))⟩
        · rintro i x y Tt σ H' hx hy ⟨v3, v4, lab', rfl, R', K'⟩ hT
          rw [List.getElem?_map] at hx hy
          cases e1 : ns[i]? with
          | none => rw [e1] at hx; cases hx
          | some p =>
            cases e2 : l[i]? with
            | none => rw [e2] at hy; cases hy
            | some m =>
              rw [e1] at hx
              rw [e2] at hy
              cases hx
              cases hy
              have hi : i < s.nodes.length := by
                rw [← R.len]
                exact (List.getElem?_eq_some_iff.mp e1).1
              have sT : Same H' (upd H' Tt (.tup [.ref p, vn m])) := Same.alloc hT
              have R3 := R'.same sT
              obtain ⟨dx, pr, wv, va, ga, hN, hP, hWo, lv, hV, lg, hG, d1, d2, d3⟩ := (R3.nd i p e1).apart
              have lp := (R3.nd i p e1).lb
              have N := R3.inv.gnode (i := i) (by rw [upTo_len]; exact hi)
              have en : Ag03.node (upTo { s with now := s.now + d } l i) i = Ag03.node s i := upTo_node (s := { s with now := s.now + d }) hi
              rw [en] at hN hP hWo hV hG N
              refine ⟨Tt, _, rfl, SqT.of upd_same, rfl, _, _, rfl, _, _, rfl, rfl, ?_⟩
              walk_at "rd"
              intro H4 h4 u4
              refine R3.shut e1 u4 (n := clk (Ag03.node s i) m) (wv := wv) h4 (.old hP u4 (by rw [lp]; exact fun q => nomatch q)) (.old hWo u4 (by rw [lp]; exact fun q => nomatch q)) (.old lv hV u4 (by rw [lp]; exact fun q => nomatch q)) (.old lg hG u4 (by rw [lp]; exact fun q => nomatch q)) d1 d2 d3 ⟨N.would, N.votes, N.given⟩ fun lab4 R4 K4 => ?_
              refine ⟨_, _, lab4, rfl, ?_, (K'.trans (.ofSame sT)).trans K4⟩
              rw [upTo_succ (s := { s with now := s.now + d }) hi e2]
              exact R4
        · rintro σ H' ⟨v3, v4, lab', rfl, R', K'⟩
          rw [hlen] at R'
          obtain ⟨dw3, wl3, nl3, rl3, ls3, ll3, ts3, W3⟩ := R'.wd
          have hW3 := W3.ob
          walk_at "rd"
          have eu := upTo_all (s := { s with now := s.now + d }) (l := l) hln
          exact k _ _ lab' H' rfl (by rw [← eu]; exact R') K'
end
end Hfs
namespace Hfs
open PySem PySem.Spec PyProof.Rows L2
set_option hygiene false in
local macro_rules | `(tactic| walk_at "rd") => `(tactic| repeat (first
  | (with_reducible refine rd_seq ?_) | (with_reducible refine rd_next ?_) | (with_reducible refine rd_asg ?_) | (with_reducible refine rd_ret ?_) | (with_reducible refine rd_retN ?_) | (with_reducible refine rd_drop ?_)
  | (with_reducible refine rd_ifS ?_) | (with_reducible refine rd_test ?_) | (with_reducible refine rd_tB ?_) | (with_reducible refine rd_not ?_) | (with_reducible refine rd_and ?_) | (with_reducible refine rd_or ?_)
  | (with_reducible refine rd_andV ?_) | (with_reducible refine rd_orV ?_) | (with_reducible refine rd_notV ?_) | (with_reducible refine rd_if ?_) | (with_reducible refine rd_op ?_) | (with_reducible refine rd_I0 ?_)
  | (with_reducible refine rd_eqI ?_) | (with_reducible refine rd_neI ?_) | (with_reducible refine rd_eqB ?_) | (with_reducible refine rd_nil ?_) | (with_reducible refine rd_cons ?_) | (with_reducible refine rd_call ?_)
  | (with_reducible refine rd_cb ?_) | (with_reducible refine rd_fld ?_) | (with_reducible refine rd_sfld ?_) | (with_reducible refine rd_lst ?_) | (with_reducible refine rd_make ?_) | (with_reducible refine rd_c ?_)
  | (with_reducible refine rd_bm ?_) | (with_reducible refine rd_for ?_) | (with_reducible refine rd_rng1 ?_) | (with_reducible refine rd_gname ?_)
  | ((with_reducible refine' And.intro (tyL ?h1) ?_); (case h1 => assumption))
  | ((with_reducible refine' rd_len ?h1 ?_); (case h1 => assumption))
  | (refine ⟨_, _, (rfl : [V.int _, V.int _] = [V.int _, V.int _]), ?_⟩) | (with_reducible refine rd_ilist ?_) | (with_reducible refine rd_lc ?_) | (with_reducible refine rd_yes ?_) | (with_reducible refine rd_chain ?_)
  | ((with_reducible refine' rd_ilistR ?h1 ?_); (case h1 => assumption))
  | ((with_reducible refine' rd_in ?h1 ?_); (case h1 => assumption)) | (with_reducible refine rd_eqVn ?_) | (with_reducible refine rd_eqVs ?_)
  | (with_reducible refine rd_bl ?_) | (with_reducible refine And.intro (rfl : V.non = V.non) ?_) | (with_reducible refine iteT ?_) | (with_reducible refine iteF ?_)
  | (with_reducible refine ite_rn ?_) | (with_reducible refine ite_nn ?_) | (with_reducible refine ite_nrn ?_) | (with_reducible refine ite_nnn ?_)
  | ((with_reducible refine' rd_var ?h1 ?_); (case h1 => rfl))
  | ((with_reducible refine' rd_fN T ?h1 ?h2 ?h3 ?_); (case h1 => assumption); (case h2 => rfl); (case h3 => decide +kernel))
  | ((with_reducible refine' rd_fW T ?h1 ?h2 ?h3 ?_); (case h1 => assumption); (case h2 => rfl); (case h3 => decide +kernel))
  | ((with_reducible refine' rd_fL T ?h1 ?h2 ?h3 ?_); (case h1 => assumption); (case h2 => rfl); (case h3 => decide +kernel))
  | ((with_reducible refine' rd_fP T ?h1 ?h2 ?h3 ?_); (case h1 => assumption); (case h2 => rfl); (case h3 => decide +kernel))
  | ((with_reducible refine' rd_ixL ?h1 ?h2 ?_); (case h1 => assumption); (case h2 => assumption))
  | ((with_reducible refine' rd_stN T ?h1 ?h2 ?h3 ?_); (case h1 => assumption); (case h2 => rfl); (case h3 => decide +kernel))
  | ((with_reducible refine' rd_stW T ?h1 ?h2 ?h3 ?_); (case h1 => assumption); (case h2 => rfl); (case h3 => decide +kernel))
  | ((with_reducible refine' rd_lstR ?h1 ?_); (case h1 => first | (show 0 ≤ sizeLine; decide +kernel) | (show 1 ≤ sizeLine; decide +kernel) | (show 2 ≤ sizeLine; decide +kernel) | (show 3 ≤ sizeLine; decide +kernel) | (show 4 ≤ sizeLine; decide +kernel) | (show 5 ≤ sizeLine; decide +kernel) | (show 6 ≤ sizeLine; decide +kernel)))
  | (with_reducible refine rd_tup ?_) | ((with_reducible refine' rd_tupR ?h1 ?_); (case h1 => (show 2 ≤ sizeLine; decide +kernel)))
  | (with_reducible refine rd_asgG ?_) | (with_reducible refine rd_gsub ?_) | (with_reducible refine rd_sl ?_) | (with_reducible refine rd_nopart ?_) | (with_reducible refine rd_part ?_) | (with_reducible refine rd_pint ?_) | (with_reducible refine rd_enum ?_)
  | ((with_reducible refine' rd_ix0 ?h1 ?_); (case h1 => assumption)) | ((with_reducible refine' rd_ix1 ?h1 ?_); (case h1 => assumption)) | ((with_reducible refine' rd_ix2 ?h1 ?_); (case h1 => assumption))
  | (with_reducible refine ite_bit ?_)))
set_option hygiene false in
local macro_rules | `(tactic| walk_at "go") => `(tactic| ((try simp only [cxK]); walk_at "rd"))
set_option hygiene false in
local macro_rules | `(tactic| walk_at "lit") => `(tactic| ((repeat (walk_at "rd"; first | (refine ite_decF (by decide) ?_) | (refine ite_decT (by decide) ?_))); walk_at "rd"))
section
variable {P : Program} {w : World} {K : PySem.W.Frag} {mg : Str → Option Value} {base : Heap} {c : Cs}
theorem rd_mkN {H : Hp} {Q : VK} (k : ∀ q dq va ga H', H q = none → H va = none → H ga = none → va ≠ q → ga ≠ q → va ≠ ga → H' q = some (.ins c.CN dq (fNew va ga)) → H' va = some (.lst []) → H' ga = some (.lst []) → Same H H' → Q (.ref q) H') : MakeR c.CN (sp_Node_init c) [] H Q := by
  intro x dx hx hdx ne
  refine ⟨x, dx, rfl, upd_same, fun H' va ga h nva nga dvg hva hga u => ⟨rfl, ?_⟩⟩
  have un : ∀ b, (upd (upd H dx (.own x)) x (.ins c.CN dx [])) b = none → b ≠ x ∧ H b = none := fun b e => by
    have e1 : b ≠ x := fun z => by rw [z, upd_same] at e; cases e
    rw [upd_ne e1] at e
    have e2 : b ≠ dx := fun z => by rw [z, upd_same] at e; cases e
    rw [upd_ne e2] at e
    exact ⟨e1, e⟩
  obtain ⟨vx, nva'⟩ := un _ nva
  obtain ⟨gx, nga'⟩ := un _ nga
  exact k x dx va ga H' hx nva' nga' vx gx dvg h hva hga fun b o e => u b o (by rw [upd_ne (ne_of_none e hx), upd_ne (ne_of_none e hdx)]; exact e) (ne_of_none e hx)
theorem ok_begin_anew {f : Addr} {fd : FuncData} (F : Fun K "begin_anew" "begin_anew" s_begin_anew f fd) (T : Txt K mg c) (M_Node : MkOk P w K mg base "Node" c.CN 1 ["self"] (sp_Node_init c)) : FnOk P w K mg base CX0 3 f fd ["world", "place"] (sp_begin_anew c) := by
  refine F.ok sc_begin_anew (fun vs H Q E h => ?_) (fun cdv A outer s H vs Q E hr h => ?_)
  · obtain ⟨lab, w, ns, s, i, rfl, _⟩ := h
    rfl
  · skip
    obtain ⟨lab, w, ns, s, i, rfl, R, hi, k⟩ := h
    obtain ⟨dw, wl, nl, rl, ls, ll, ts, W⟩ := R.wd
    have hW := W.ob
    have hL := W.nl
    have hlen : (ns.map V.ref).length = s.nodes.length := by rw [List.length_map]; exact R.len
    obtain ⟨p, hp⟩ := R.at_ hi
    have hp' : (ns.map V.ref)[i]? = some (.ref p) := by rw [List.getElem?_map, hp]; rfl
    obtain ⟨dx, pr, wv, va, ga, hN, hP, hWo, lv, hV, lg, hG, d1, d2, d3⟩ := (R.nd i p hp).apart
    have lp := (R.nd i p hp).lb
    have N := R.inv.gnode hi
    refine ⟨_, (pss_cons (ps_set (i := 2) sc_begin_anew.nd rfl (Or.inl rfl) (pe_ix ix_list (pe_fld (pv 0) rfl) (pv 1) (fun _ _ => rfl)))
    (pss_cons (ps_set (i := 3) sc_begin_anew.nd rfl (Or.inl rfl) (pe_mk0 M_Node hr (by decide) rfl))
    (pss_cons (ps_fld (pv 3) (pe_fld (pv 2) rfl) rfl)
    (pss_cons (ps_fld (pv 3) (pe_fld (pv 2) rfl) rfl)
    (pss_cons (ps_fld (pv 3) (pe_fld (pv 2) rfl) rfl)
    (pss_cons (ps_fld (pv 3) (pe_fld (pv 2) rfl) rfl)
    (pss_cons (ps_fld (pv 3) (pe_op op_add (pe_fld (pv 3) rfl) (pe_fld (pv 0) rfl)) rfl)
    (pss_one (ps_asg (pv 3) (pg_sub (pe_fld (pv 0) rfl) (pv 1) set_list)))))))))), ?_⟩
    walk_at "go"
    refine rd_mkN fun q dq vb gb H0 nq nvb ngb vq gq dvg h0 hvb hgb s0 => ?_
    have pq : p ≠ q := ne_of_none hN nq
    have wq : w ≠ q := ne_of_none hW nq
    have hN0 := s0 _ _ hN
    have hW0 := s0 _ _ hW
    walk_at "rd"
    intro H1 h1 u1
    have hN1 := u1 _ _ hN0 pq
    have hW1 := u1 _ _ hW0 wq
    walk_at "rd"
    intro H2 h2 u2
    have hN2 := u2 _ _ hN1 pq
    have hW2 := u2 _ _ hW1 wq
    walk_at "rd"
    intro H3 h3 u3
    have hN3 := u3 _ _ hN2 pq
    have hW3 := u3 _ _ hW2 wq
    walk_at "rd"
    intro H4 h4 u4
    have hN4 := u4 _ _ hN3 pq
    have hW4 := u4 _ _ hW3 wq
    walk_at "rd"
    intro H5 h5 u5
    have hW5 := u5 _ _ hW4 wq
    have ua : Pres q H0 H5 := (((u1.trans u2).trans u3).trans u4).trans u5
    have sm : Same H H5 := Same.thru s0 ua nq
    have lo : ∀ b o, H b = some o → relab (relab (relab lab q (.nd i)) vb (.vo i)) gb (.gi i) b = lab b := fun b o e => by
      rw [relab_ne (ne_of_none e ngb), relab_ne (ne_of_none e nvb), relab_ne (ne_of_none e nq)]
    have KK : ∀ S : Tag → Prop, Keep S lab H (relab (relab (relab lab q (.nd i)) vb (.vo i)) gb (.gi i)) H5 := fun S => ⟨lo, fun b o e _ => sm b o e, fun b o e => ⟨o, sm b o e⟩⟩
    have R1 := R.keep (KK _)
    have W1 := W.keep (KK (fun _ => False)) id id id id id
    have lq : relab (relab (relab lab q (.nd i)) vb (.vo i)) gb (.gi i) q = .nd i := by rw [relab_ne gq.symm, relab_ne vq.symm, relab_same]
    have NA : NodeAt c (relab (relab (relab lab q (.nd i)) vb (.vo i)) gb (.gi i)) H5 i q (anewOf s i) := by
      refine ⟨lq, dq, .non, .non, vb, gb, h5, rfl, rfl, ⟨?_, ua _ _ hvb vq⟩, relab_same, ua _ _ hgb gq⟩
      rw [relab_ne dvg, relab_same]
    walk_at "rd"
    refine rd_setL W1.nl (by rw [hlen]; exact hi) (fun H6 h6 u6 => ?_)
    have kp : Keep (fun t => t = .nds) (relab (relab (relab lab q (.nd i)) vb (.vo i)) gb (.gi i)) H5 (relab (relab (relab lab q (.nd i)) vb (.vo i)) gb (.gi i)) H6 := .pres u6 W1.lnl ⟨_, h6⟩
    walk_at "rd"
    refine k (ns.set i q) _ H6 (R1.anew W1 hi kp (by rw [← map_set]; exact h6) (NA.keep kp (fun z => nomatch z) (fun z => nomatch z) (fun z => nomatch z) (fun z => nomatch z) (fun z => nomatch z)) ⟨(fun l h => none_ne h), Mem.nil, Mem.nil⟩) ((KK _).trans (kp.mono fun t z => by rw [z]; exact trivial))
theorem ok_start {f : Addr} {fd : FuncData} (F : Fun K "start" "start" s_start f fd) (T : Txt K mg c) (O_begin_anew : Ok P w K mg base "begin_anew" 3 ["world", "place"] (sp_begin_anew c)) : FnOk P w K mg base CX0 4 f fd ["world", "place"] (sp_start c) := by
  refine F.ok sc_start (fun vs H Q E h => ?_) (fun cdv A outer s H vs Q E hr h => ?_)
  · obtain ⟨lab, w, ns, s, i, rfl, _⟩ := h
    rfl
  · skip
    obtain ⟨lab, w, ns, s, i, rfl, R, k⟩ := h
    obtain ⟨dw, wl, nl, rl, ls, ll, ts, W⟩ := R.wd
    have hW := W.ob
    have hL := W.nl
    have hlen : (ns.map V.ref).length = s.nodes.length := by rw [List.length_map]; exact R.len
    unfold StepN Ag03.step at k
    dsimp only at k
    refine ⟨_, (pss_cons (ps_if (pt_cmpR op_ge (pv 1) (pe_callB call_len_seq (by rfl) T.b_len PySem.boot_len (pa_cons (pe_fld (pv 0) rfl) pa_nil)) (nomark _))
    (pss_one (ps_ret (pe_gint rfl T.g_WRONG)))
    pss_nil)
    (pss_cons (ps_if (pt_val (pe_fld (pe_ix ix_list (pe_fld (pv 0) rfl) (pv 1) (fun _ _ => rfl)) rfl))
    (pss_one (ps_ret (pe_gint rfl T.g_UNFIT)))
    pss_nil)
    (pss_cons (ps_expr (pe_ok O_begin_anew hr (by decide) rfl (pa_cons (pv 0) (pa_cons (pv 1) pa_nil))))
    (pss_one (ps_ret (pe_gint rfl T.g_DONE)))))), ?_⟩
    walk_at "go"
    rw [hlen]
    refine ite_dec (fun h => ?_) (fun h => ?_)
    · rw [if_pos (by omega)] at k
      walk_at "rd"
      exact k (-1) s ns lab H rfl R .refl
    · rw [if_neg (by omega)] at k
      have hi : i < s.nodes.length := by omega
      obtain ⟨p, hp⟩ := R.at_ hi
      have hp' : (ns.map V.ref)[i]? = some (.ref p) := by rw [List.getElem?_map, hp]; rfl
      obtain ⟨dx, pr, wv, va, ga, hN, hP, hWo, lv, hV, lg, hG, d1, d2, d3⟩ := (R.nd i p hp).apart
      have lp := (R.nd i p hp).lb
      have N := R.inv.gnode hi
      walk_at "rd"
      refine ite_b (fun e => ?_) (fun e => ?_)
      · rw [if_pos e] at k
        walk_at "rd"
        exact k (-2) s ns lab H rfl R .refl
      · rw [if_neg (by rw [e]; exact Bool.false_ne_true)] at k
        walk_at "rd"
        refine ⟨lab, w, ns, s, i, rfl, R, hi, fun ns' lab' H' R' K' => ?_⟩
        walk_at "rd"
        exact k 0 _ ns' lab' H' rfl R' K'
theorem ok_stop {f : Addr} {fd : FuncData} (F : Fun K "stop" "stop" s_stop f fd) (T : Txt K mg c)  : FnOk P w K mg base CX0 1 f fd ["world", "place"] (sp_stop c) := by
  refine F.ok sc_stop (fun vs H Q E h => ?_) (fun cdv A outer s H vs Q E hr h => ?_)
  · obtain ⟨lab, w, ns, s, i, rfl, _⟩ := h
    rfl
  · skip
    obtain ⟨lab, w, ns, s, i, rfl, R, k⟩ := h
    obtain ⟨dw, wl, nl, rl, ls, ll, ts, W⟩ := R.wd
    have hW := W.ob
    have hL := W.nl
    have hlen : (ns.map V.ref).length = s.nodes.length := by rw [List.length_map]; exact R.len
    unfold StepI Ag03.step at k
    dsimp only at k
    refine ⟨_, (pss_cons (ps_if (pt_cmpR op_ge (pv 1) (pe_callB call_len_seq (by rfl) T.b_len PySem.boot_len (pa_cons (pe_fld (pv 0) rfl) pa_nil)) (nomark _))
    (pss_one (ps_ret (pe_gint rfl T.g_WRONG)))
    pss_nil)
    (pss_cons (ps_if (pt_not (pt_val (pe_fld (pe_ix ix_list (pe_fld (pv 0) rfl) (pv 1) (fun _ _ => rfl)) rfl)))
    (pss_one (ps_ret (pe_gint rfl T.g_UNFIT)))
    pss_nil)
    (pss_cons (ps_fld (pe_ix ix_list (pe_fld (pv 0) rfl) (pv 1) (fun _ _ => rfl)) pe_bl rfl)
    (pss_one (ps_ret (pe_gint rfl T.g_DONE)))))), ?_⟩
    walk_at "go"
    rw [hlen]
    refine ite_dec (fun h => ?_) (fun h => ?_)
    · rw [if_pos (by omega)] at k
      walk_at "rd"
      exact k (-1) s lab H rfl R .refl
    · rw [if_neg (by omega)] at k
      have hi : i < s.nodes.length := by omega
      obtain ⟨p, hp⟩ := R.at_ hi
      have hp' : (ns.map V.ref)[i]? = some (.ref p) := by rw [List.getElem?_map, hp]; rfl
      obtain ⟨dx, pr, wv, va, ga, hN, hP, hWo, lv, hV, lg, hG, d1, d2, d3⟩ := (R.nd i p hp).apart
      have lp := (R.nd i p hp).lb
      have N := R.inv.gnode hi
      walk_at "rd"
      refine ite_nb (fun e => ?_) (fun e => ?_)
      · rw [if_pos e] at k
        walk_at "rd"
        exact k (-2) s lab H rfl R .refl
      · rw [if_neg (by rw [e]; exact fun q => nomatch q)] at k
        walk_at "rd"
        intro H1 h1 u1
        refine R.shut hp u1 (n := { Ag03.node s i with up := false }) (wv := wv) h1 (.old hP u1 (by rw [lp]; exact fun q => nomatch q)) (.old hWo u1 (by rw [lp]; exact fun q => nomatch q)) (.old lv hV u1 (by rw [lp]; exact fun q => nomatch q)) (.old lg hG u1 (by rw [lp]; exact fun q => nomatch q)) d1 d2 d3 ⟨N.would, N.votes, N.given⟩ fun lab1 R1 K1 => ?_
        walk_at "rd"
        exact k 0 _ lab1 H1 rfl R1 K1
theorem ok_lose {f : Addr} {fd : FuncData} (F : Fun K "lose" "lose" s_lose f fd) (T : Txt K mg c)  : FnOk P w K mg base CX0 1 f fd ["world", "place"] (sp_lose c) := by
  refine F.ok sc_lose (fun vs H Q E h => ?_) (fun cdv A outer s H vs Q E hr h => ?_)
  · obtain ⟨lab, w, ns, s, k, rfl, _⟩ := h
    rfl
  · skip
    obtain ⟨lab, w, ns, s, i, rfl, R, h200, k⟩ := h
    obtain ⟨dw, wl, nl, rl, ls, ll, ts, W⟩ := R.wd
    have hW := W.ob
    have hL := W.nl
    have hlen : (ns.map V.ref).length = s.nodes.length := by rw [List.length_map]; exact R.len
    have hR := W.rl
    have hll : (ls.map V.ref).length = s.letters.length := by rw [List.length_map]; exact W.lets.len
    unfold StepI Ag03.step at k
    dsimp only at k
    refine ⟨_, (pss_cons (ps_if (pt_cmpR op_ge (pv 1) (pe_callB call_len_seq (by rfl) T.b_len PySem.boot_len (pa_cons (pe_fld (pv 0) rfl) pa_nil)) (nomark _))
    (pss_one (ps_ret (pe_gint rfl T.g_WRONG)))
    pss_nil)
    (pss_cons (ps_expr (pe_bm PySem.F.plainAttrs_list PySem.F.slot_list_pop PySem.F.type_list_pop mt_popAt (pe_fld (pv 0) rfl) (pa_cons (pv 1) pa_nil)))
    (pss_one (ps_ret (pe_gint rfl T.g_DONE))))), ?_⟩
    walk_at "go"
    rw [hll]
    refine ite_dec (fun h => ?_) (fun h => ?_)
    · rw [if_pos (by omega)] at k
      walk_at "rd"
      exact k (-1) s lab H rfl R .refl
    · obtain ⟨a, x, e1, e2, hA⟩ := W.lets.get (k := i) (by omega)
      rw [if_neg (by omega)] at k
      walk_at "rd"
      refine rd_popat hR h200 (y := .ref a) (by rw [List.getElem?_map, e1]; rfl) (fun H1 h1 u1 => ?_)
      have kp : Keep (fun t => t = .row) lab H lab H1 := .pres u1 W.lrl ⟨_, h1⟩
      have R1 := R.rowed (ls' := ls.eraseIdx i) (l := s.letters.eraseIdx i) W kp (by rw [← map_erase]; exact h1) ((lets_erase W.lets i).keep kp (fun q => nomatch q)) (R.inv.erase i)
      walk_at "rd"
      exact k 0 _ lab H1 rfl R1 (kp.mono fun t q => by rw [q]; exact trivial)
theorem ok_holds_now {f : Addr} {fd : FuncData} (F : Fun K "holds_now" "holds_now" s_holds_now f fd) (T : Txt K mg c)  : FnOk P w K mg base CX0 1 f fd ["node"] (sp_holds_now c) := by
  refine F.ok sc_holds_now (fun vs H Q E h => ?_) (fun cdv A outer s H vs Q E hr h => ?_)
  · obtain ⟨lab, i, p, n, rfl, _⟩ := h
    rfl
  · skip
    obtain ⟨lab, i, p, n, rfl, ⟨lb, dx, pr, wv, va, ga, hN, hP, _⟩, k⟩ := h
    refine ⟨_, (pss_one (ps_ret (pe_and (pe_fld (pv 0) rfl) (pe_and (pe_cmpR op_eq (pe_fld (pv 0) rfl) (pe_gint rfl T.g_LEADS) (nomark _)) (pe_one (pe_cmpR op_lt (pe_fld (pv 0) rfl) (pe_fld (pv 0) rfl) (nomark _))))))), ?_⟩
    walk_at "go"
    unfold Ag03.holding at k
    have e1 : (n.role == 2) = decide ((n.role : Int) = 2) := by
      rw [Bool.eq_iff_iff]
      simp
      omega
    have e2 : decide (n.clock < n.holds) = decide ((n.clock : Int) < (n.holds : Int)) := decide_eq_decide.mpr (by omega)
    rw [e1, e2] at k
    refine ite_and (b := decide ((n.role : Int) = 2) && decide ((n.clock : Int) < (n.holds : Int))) (fun Q' q => ?_) k
    walk_at "rd"
    refine ite_and (fun Q2 q2 => ?_) q
    walk_at "rd"
    exact q2
end
end Hfs
namespace Hfs
open PySem PySem.Spec PyProof.Rows L2
set_option hygiene false in
local macro_rules | `(tactic| walk_at "rd") => `(tactic| repeat (first
  | (with_reducible refine rd_seq ?_) | (with_reducible refine rd_next ?_) | (with_reducible refine rd_asg ?_) | (with_reducible refine rd_ret ?_) | (with_reducible refine rd_retN ?_) | (with_reducible refine rd_drop ?_)
  | (with_reducible refine rd_ifS ?_) | (with_reducible refine rd_test ?_) | (with_reducible refine rd_tB ?_) | (with_reducible refine rd_not ?_) | (with_reducible refine rd_and ?_) | (with_reducible refine rd_or ?_)
  | (with_reducible refine rd_andV ?_) | (with_reducible refine rd_orV ?_) | (with_reducible refine rd_notV ?_) | (with_reducible refine rd_if ?_) | (with_reducible refine rd_op ?_) | (with_reducible refine rd_I0 ?_)
  | (with_reducible refine rd_eqI ?_) | (with_reducible refine rd_neI ?_) | (with_reducible refine rd_eqB ?_) | (with_reducible refine rd_nil ?_) | (with_reducible refine rd_cons ?_) | (with_reducible refine rd_call ?_)
  | (with_reducible refine rd_cb ?_) | (with_reducible refine rd_fld ?_) | (with_reducible refine rd_sfld ?_) | (with_reducible refine rd_lst ?_) | (with_reducible refine rd_make ?_) | (with_reducible refine rd_c ?_)
  | (with_reducible refine rd_bm ?_) | (with_reducible refine rd_for ?_) | (with_reducible refine rd_rng1 ?_) | (with_reducible refine rd_gname ?_)
  | ((with_reducible refine' And.intro (tyL ?h1) ?_); (case h1 => assumption))
  | ((with_reducible refine' rd_len ?h1 ?_); (case h1 => assumption))
  | (refine ⟨_, _, (rfl : [V.int _, V.int _] = [V.int _, V.int _]), ?_⟩) | (with_reducible refine rd_ilist ?_) | (with_reducible refine rd_lc ?_) | (with_reducible refine rd_yes ?_) | (with_reducible refine rd_chain ?_)
  | ((with_reducible refine' rd_ilistR ?h1 ?_); (case h1 => assumption))
  | ((with_reducible refine' rd_in ?h1 ?_); (case h1 => assumption)) | (with_reducible refine rd_eqVn ?_) | (with_reducible refine rd_eqVs ?_)
  | (with_reducible refine rd_bl ?_) | (with_reducible refine And.intro (rfl : V.non = V.non) ?_) | (with_reducible refine iteT ?_) | (with_reducible refine iteF ?_)
  | (with_reducible refine ite_rn ?_) | (with_reducible refine ite_nn ?_) | (with_reducible refine ite_nrn ?_) | (with_reducible refine ite_nnn ?_)
  | ((with_reducible refine' rd_var ?h1 ?_); (case h1 => rfl))
  | ((with_reducible refine' rd_fN T ?h1 ?h2 ?h3 ?_); (case h1 => assumption); (case h2 => rfl); (case h3 => decide +kernel))
  | ((with_reducible refine' rd_fW T ?h1 ?h2 ?h3 ?_); (case h1 => assumption); (case h2 => rfl); (case h3 => decide +kernel))
  | ((with_reducible refine' rd_fL T ?h1 ?h2 ?h3 ?_); (case h1 => assumption); (case h2 => rfl); (case h3 => decide +kernel))
  | ((with_reducible refine' rd_fP T ?h1 ?h2 ?h3 ?_); (case h1 => assumption); (case h2 => rfl); (case h3 => decide +kernel))
  | ((with_reducible refine' rd_ixL ?h1 ?h2 ?_); (case h1 => assumption); (case h2 => assumption))
  | ((with_reducible refine' rd_stN T ?h1 ?h2 ?h3 ?_); (case h1 => assumption); (case h2 => rfl); (case h3 => decide +kernel))
  | ((with_reducible refine' rd_stW T ?h1 ?h2 ?h3 ?_); (case h1 => assumption); (case h2 => rfl); (case h3 => decide +kernel))
  | ((with_reducible refine' rd_lstR ?h1 ?_); (case h1 => first | (show 0 ≤ sizeLine; decide +kernel) | (show 1 ≤ sizeLine; decide +kernel) | (show 2 ≤ sizeLine; decide +kernel) | (show 3 ≤ sizeLine; decide +kernel) | (show 4 ≤ sizeLine; decide +kernel) | (show 5 ≤ sizeLine; decide +kernel) | (show 6 ≤ sizeLine; decide +kernel)))
  | (with_reducible refine rd_tup ?_) | ((with_reducible refine' rd_tupR ?h1 ?_); (case h1 => (show 2 ≤ sizeLine; decide +kernel)))
  | (with_reducible refine rd_asgG ?_) | (with_reducible refine rd_gsub ?_) | (with_reducible refine rd_sl ?_) | (with_reducible refine rd_nopart ?_) | (with_reducible refine rd_part ?_) | (with_reducible refine rd_pint ?_) | (with_reducible refine rd_enum ?_)
  | ((with_reducible refine' rd_ix0 ?h1 ?_); (case h1 => assumption)) | ((with_reducible refine' rd_ix1 ?h1 ?_); (case h1 => assumption)) | ((with_reducible refine' rd_ix2 ?h1 ?_); (case h1 => assumption))
  | (with_reducible refine ite_bit ?_)))
set_option hygiene false in
local macro_rules | `(tactic| walk_at "go") => `(tactic| ((try simp only [cxK]); walk_at "rd"))
set_option hygiene false in
local macro_rules | `(tactic| walk_at "lit") => `(tactic| ((repeat (walk_at "rd"; first | (refine ite_decF (by decide) ?_) | (refine ite_decT (by decide) ?_))); walk_at "rd"))
section
variable {P : Program} {w : World} {K : PySem.W.Frag} {mg : Str → Option Value} {base : Heap} {c : Cs}
theorem small2000 {n : Nat} (h : n ≤ 2000) : n ≤ sizeLine := Nat.le_trans h (by decide +kernel)
theorem lt2000 {n : Nat} (h : n < 2000) : n < sizeLine := Nat.lt_of_lt_of_le h (by decide +kernel)
theorem ok_with_length {f : Addr} {fd : FuncData} (F : Fun K "with_length" "with_length" s_with_length f fd) (T : Txt K mg c)  : FnOk P w K mg base CX0 1 f fd ["members"] (sp_with_length c) := by
  refine F.ok sc_with_length (fun vs H Q E h => ?_) (fun cdv A outer s H vs Q E hr h => ?_)
  · obtain ⟨a, l, rfl, _⟩ := h
    rfl
  · skip
    obtain ⟨a, l, rfl, hA, hl, k⟩ := h
    refine ⟨_, (pss_one (ps_ret (pe_op op_cat (pe_lst (pa_cons (pe_callB call_len_seq (by rfl) T.b_len PySem.boot_len (pa_cons (pv 0) pa_nil)) pa_nil)) (pv 0)))), ?_⟩
    walk_at "go"
    intro q G nq hq sq
    walk_at "rd"
    refine rd_cat hq (sq _ _ hA) (small2000 (by simp; omega)) fun r G2 nr hr2 sr => ?_
    refine k r G2 (none_of sq nr) ?_ (fun b o e => sr _ _ (sq _ _ e))
    rw [hr2]
    unfold Ag03.row
    rw [nums_vn, List.map_cons, List.length_map]
    rfl
theorem ok_report_promise {f : Addr} {fd : FuncData} (F : Fun K "report_promise" "report_promise" s_report_promise f fd) (T : Txt K mg c)  : FnOk P w K mg base CX0 1 f fd ["node"] (sp_report_promise c) := by
  refine F.ok sc_report_promise (fun vs H Q E h => ?_) (fun cdv A outer s H vs Q E hr h => ?_)
  · obtain ⟨lab, i, p, n, rfl, _⟩ := h
    rfl
  · skip
    obtain ⟨lab, i, p, n, rfl, ⟨lb, dx, pr, wv, va, ga, hN, hP, _⟩, k⟩ := h
    refine ⟨_, (pss_cons (ps_if (pt_cmpR op_isN (pe_fld (pv 0) rfl) pe_non (nomark _))
    (pss_one (ps_ret (pe_callTy call_list_of (by rfl) T.b_list (by decide +kernel) (pa_cons (pe_glob (v := V.ref _) rfl T.g_NO_PROMISE rfl) pa_nil))))
    pss_nil)
    (pss_one (ps_ret (pe_lst (pa_cons (pe_fld (pe_fld (pv 0) rfl) rfl) (pa_cons (pe_fld (pe_fld (pv 0) rfl) rfl) (pa_cons (pe_fld (pe_fld (pv 0) rfl) rfl) pa_nil))))))), ?_⟩
    walk_at "go"
    cases e : n.promise with
    | none =>
      rw [e] at hP k
      have hP : pr = .non := hP
      subst hP
      walk_at "rd"
      refine ⟨_, _, rfl, .inr (T.v_NO_PROMISE H), fun l hl => k l _ hl upd_same (Same.alloc hl)⟩
    | some q =>
      rw [e] at hP k
      obtain ⟨a, da, rfl, _, hq⟩ := hP
      walk_at "rd"
      exact k
theorem ok_report_letters {f : Addr} {fd : FuncData} (F : Fun K "report_letters" "report_letters" s_report_letters f fd) (T : Txt K mg c)  : FnOk P w K mg base CX0 1 f fd ["world"] (sp_report_letters c) := by
  refine F.ok sc_report_letters (fun vs H Q E h => ?_) (fun cdv A outer s H vs Q E hr h => ?_)
  · obtain ⟨lab, w, ns, s, rfl, _⟩ := h
    rfl
  · skip
    obtain ⟨lab, w, ns, s, rfl, R, k⟩ := h
    obtain ⟨dw, wl, nl, rl, ls, ll, ts, W⟩ := R.wd
    have hW := W.ob
    have hL := W.nl
    have hlen : (ns.map V.ref).length = s.nodes.length := by rw [List.length_map]; exact R.len
    have hR := W.rl
    have hll : (ls.map V.ref).length = s.letters.length := by rw [List.length_map]; exact W.lets.len
    have h100 := R.inv.room
    refine ⟨_, (pss_cons (ps_set (i := 1) sc_report_letters.nd rfl (Or.inl rfl) (pe_lst (pa_cons (pe_callB call_len_seq (by rfl) T.b_len PySem.boot_len (pa_cons (pe_fld (pv 0) rfl) pa_nil)) pa_nil)))
    (pss_cons (ps_for PassesOwn.never rfl (pi_list (pe_fld (pv 0) rfl)) (pg_name (i := 2) sc_report_letters.nd rfl (Or.inl rfl))
    (pss_cons (ps_expr (pe_bm PySem.F.plainAttrs_list PySem.F.slot_list_extend PySem.F.type_list_extend mt_extend (pv 1) (pa_cons (pe_lst (pa_cons (pe_fld (pv 2) rfl) (pa_cons (pe_fld (pv 2) rfl) (pa_cons (pe_fld (pv 2) rfl) (pa_cons (pe_fld (pv 2) rfl) (pa_cons (pe_fld (pv 2) rfl) pa_nil)))))) pa_nil)))
    (pss_one (ps_expr (pe_bm PySem.F.plainAttrs_list PySem.F.slot_list_append PySem.F.type_list_append mt_append (pv 1) (pa_cons (pe_ifExp (pt_val (pe_fld (pv 2) rfl)) pe_int pe_int) pa_nil))))))
    (pss_one (ps_ret (pv 1))))), ?_⟩
    walk_at "go"
    intro tl G nt ht st
    have hW1 := st _ _ hW
    have hR1 := st _ _ hR
    walk_at "rd"
    let f : Ag03.Letter → List Nat := fun (x : Ag03.Letter) => [x.kind, x.to_, x.from_, x.term, x.num, Ag03.bit x.yes]
    have fl : ∀ l : List Ag03.Letter, (l.flatMap f).length = 6 * l.length := fun l => by
      induction l with
      | nil => rfl
      | cons x l ih =>
        have h0 : (f x).length = 6 := rfl
        rw [List.flatMap_cons, List.length_append, ih, h0, List.length_cons]
        omega
    refine for_list (K := K) (a := rl) (xs := ls.map V.ref) (fun j σ H' => ∃ v : Option V, σ = [some (.ref w), some (.ref tl), v] ∧ Same H H' ∧ H' tl = some (.lst ((s.letters.length :: (s.letters.take j).flatMap f).map vn))) ⟨none, rfl, st, ?_⟩ ?_ ?_ ?_
    · rw [ht, hll]
      rfl
    · rintro j σ H' _ ⟨v, _, sm, _⟩
      exact SqL.of (sm _ _ hR)
    · rintro j x σ H' hx ⟨v, rfl, sm, htl⟩
      have hj : j < s.letters.length := by
        rw [← hll]
        exact (List.getElem?_eq_some_iff.mp hx).1
      have hj2 : j < ls.length := by rw [W.lets.len]; exact hj
      have e1 : ls[j]? = some ls[j] := List.getElem?_eq_getElem hj2
      have e2 : s.letters[j]? = some s.letters[j] := List.getElem?_eq_getElem hj
      rw [List.getElem?_map, e1] at hx
      cases hx
      obtain ⟨dl, la, hX⟩ := W.lets.at_ j _ _ e1 e2
      generalize s.letters[j] = y at e2 hX
      generalize ls[j] = a at hX
      have hX1 := sm _ _ hX
      walk_at "rd"
      intro q G2 nq hq sq
      have ntq : tl ≠ q := ne_of_none htl nq
      walk_at "rd"
      refine rd_ext (sq _ _ htl) hq (small2000 (by rw [List.length_map, List.length_cons, fl, List.length_take]; show _ + 5 ≤ _; omega)) fun H2 h2 u2 => ?_
      have s2 : Same H H2 := Same.thru (fun b o e => sq _ _ (sm _ _ e)) u2 nt
      have hX2 := s2 _ _ hX
      walk_at "rd"
      refine rd_app h2 (lt2000 (by rw [List.length_append, List.length_map, List.length_cons, fl, List.length_take]; show _ + 5 < _; omega)) fun H3 h3 u3 => ?_
      walk_at "rd"
      refine ⟨_, rfl, Same.thru s2 u3 nt, ?_⟩
      rw [h3, take_snoc e2, List.flatMap_append, List.map_cons, List.map_cons, List.map_append, List.flatMap_cons, List.flatMap_nil, List.append_nil, List.cons_append, List.cons_append, List.append_assoc]
      rfl
    · rintro σ H' ⟨v, rfl, sm, htl⟩
      rw [hll, List.take_length] at htl
      walk_at "rd"
      refine k tl H' nt ?_ sm
      rw [htl, nums_vn]
theorem ok_report_led {f : Addr} {fd : FuncData} (F : Fun K "report_led" "report_led" s_report_led f fd) (T : Txt K mg c)  : FnOk P w K mg base CX0 1 f fd ["world"] (sp_report_led c) := by
  refine F.ok sc_report_led (fun vs H Q E h => ?_) (fun cdv A outer s H vs Q E hr h => ?_)
  · obtain ⟨lab, w, ns, s, rfl, _⟩ := h
    rfl
  · skip
    obtain ⟨lab, w, ns, s, rfl, R, hlo, k⟩ := h
    obtain ⟨dw, wl, nl, rl, ls, ll, ts, W⟩ := R.wd
    have hW := W.ob
    have hL := W.nl
    have hlen : (ns.map V.ref).length = s.nodes.length := by rw [List.length_map]; exact R.len
    have hR := W.ll
    have hll : (ts.map V.ref).length = s.led.length := by rw [List.length_map]; exact W.leds.len
    have h100 : s.led.length ≤ 100 := hlo
    refine ⟨_, (pss_cons (ps_set (i := 1) sc_report_led.nd rfl (Or.inl rfl) (pe_lst (pa_cons (pe_callB call_len_seq (by rfl) T.b_len PySem.boot_len (pa_cons (pe_fld (pv 0) rfl) pa_nil)) pa_nil)))
    (pss_cons (ps_for PassesOwn.never rfl (pi_list (pe_fld (pv 0) rfl)) (pg_tup rfl (pgs_cons (pg_name (i := 2) sc_report_led.nd rfl (Or.inl rfl)) (pgs_cons (pg_name (i := 3) sc_report_led.nd rfl (Or.inl rfl)) pgs_nil)))
    (pss_one (ps_expr (pe_bm PySem.F.plainAttrs_list PySem.F.slot_list_extend PySem.F.type_list_extend mt_extend (pv 1) (pa_cons (pe_lst (pa_cons (pv 2) (pa_cons (pv 3) pa_nil))) pa_nil)))))
    (pss_one (ps_ret (pv 1))))), ?_⟩
    walk_at "go"
    intro tl G nt ht st
    have hW1 := st _ _ hW
    have hR1 := st _ _ hR
    walk_at "rd"
    let f : Nat × Nat → List Nat := fun (x : Nat × Nat) => [x.1, x.2]
    have fl : ∀ l : List (Nat × Nat), (l.flatMap f).length = 2 * l.length := fun l => by
      induction l with
      | nil => rfl
      | cons x l ih =>
        have h0 : (f x).length = 2 := rfl
        rw [List.flatMap_cons, List.length_append, ih, h0, List.length_cons]
        omega
    refine for_list (K := K) (a := ll) (xs := ts.map V.ref) (fun j σ H' => ∃ v1 v2 : Option V, σ = [some (.ref w), some (.ref tl), v1, v2] ∧ Same H H' ∧ H' tl = some (.lst ((s.led.length :: (s.led.take j).flatMap f).map vn))) ⟨none, none, rfl, st, ?_⟩ ?_ ?_ ?_
    · rw [ht, hll]
      rfl
    · rintro j σ H' _ ⟨v1, v2, _, sm, _⟩
      exact SqL.of (sm _ _ hR)
    · rintro j x σ H' hx ⟨v1, v2, rfl, sm, htl⟩
      have hj : j < s.led.length := by
        rw [← hll]
        exact (List.getElem?_eq_some_iff.mp hx).1
      have hj2 : j < ts.length := by rw [W.leds.len]; exact hj
      have e1 : ts[j]? = some ts[j] := List.getElem?_eq_getElem hj2
      have e2 : s.led[j]? = some s.led[j] := List.getElem?_eq_getElem hj
      rw [List.getElem?_map, e1] at hx
      cases hx
      obtain ⟨la, hX⟩ := W.leds.at_ j _ _ e1 e2
      generalize s.led[j] = y at e2 hX
      generalize ts[j] = a at hX
      have hX1 := sm _ _ hX
      refine ⟨a, _, rfl, SqT.of hX1, rfl, _, _, rfl, _, _, rfl, rfl, ?_⟩
      walk_at "rd"
      intro q G2 nq hq sq
      walk_at "rd"
      refine rd_ext (sq _ _ htl) hq (small2000 (by rw [List.length_map, List.length_cons, fl, List.length_take]; show _ + 2 ≤ _; omega)) fun H2 h2 u2 => ?_
      have s2 : Same H H2 := Same.thru (fun b o e => sq _ _ (sm _ _ e)) u2 nt
      walk_at "rd"
      refine ⟨_, _, rfl, s2, ?_⟩
      rw [h2, take_snoc e2, List.flatMap_append, List.map_cons, List.map_cons, List.map_append, List.flatMap_cons, List.flatMap_nil, List.append_nil, List.cons_append]
      rfl
    · rintro σ H' ⟨v1, v2, rfl, sm, htl⟩
      rw [hll, List.take_length] at htl
      walk_at "rd"
      refine k tl H' nt ?_ sm
      rw [htl, nums_vn]
end
end Hfs
namespace Hfs
open PySem PySem.Spec PyProof.Rows L2
set_option hygiene false in
local macro_rules | `(tactic| walk_at "rd") => `(tactic| repeat (first
  | (with_reducible refine rd_seq ?_) | (with_reducible refine rd_next ?_) | (with_reducible refine rd_asg ?_) | (with_reducible refine rd_ret ?_) | (with_reducible refine rd_retN ?_) | (with_reducible refine rd_drop ?_)
  | (with_reducible refine rd_ifS ?_) | (with_reducible refine rd_test ?_) | (with_reducible refine rd_tB ?_) | (with_reducible refine rd_not ?_) | (with_reducible refine rd_and ?_) | (with_reducible refine rd_or ?_)
  | (with_reducible refine rd_andV ?_) | (with_reducible refine rd_orV ?_) | (with_reducible refine rd_notV ?_) | (with_reducible refine rd_if ?_) | (with_reducible refine rd_op ?_) | (with_reducible refine rd_I0 ?_)
  | (with_reducible refine rd_eqI ?_) | (with_reducible refine rd_neI ?_) | (with_reducible refine rd_eqB ?_) | (with_reducible refine rd_nil ?_) | (with_reducible refine rd_cons ?_) | (with_reducible refine rd_call ?_)
  | (with_reducible refine rd_cb ?_) | (with_reducible refine rd_fld ?_) | (with_reducible refine rd_sfld ?_) | (with_reducible refine rd_lst ?_) | (with_reducible refine rd_make ?_) | (with_reducible refine rd_c ?_)
  | (with_reducible refine rd_bm ?_) | (with_reducible refine rd_for ?_) | (with_reducible refine rd_rng1 ?_) | (with_reducible refine rd_gname ?_)
  | ((with_reducible refine' And.intro (tyL ?h1) ?_); (case h1 => assumption))
  | ((with_reducible refine' rd_len ?h1 ?_); (case h1 => assumption))
  | (refine ⟨_, _, (rfl : [V.int _, V.int _] = [V.int _, V.int _]), ?_⟩) | (with_reducible refine rd_ilist ?_) | (with_reducible refine rd_lc ?_) | (with_reducible refine rd_yes ?_) | (with_reducible refine rd_chain ?_)
  | ((with_reducible refine' rd_ilistR ?h1 ?_); (case h1 => assumption))
  | ((with_reducible refine' rd_in ?h1 ?_); (case h1 => assumption)) | (with_reducible refine rd_eqVn ?_) | (with_reducible refine rd_eqVs ?_)
  | (with_reducible refine rd_bl ?_) | (with_reducible refine And.intro (rfl : V.non = V.non) ?_) | (with_reducible refine iteT ?_) | (with_reducible refine iteF ?_)
  | (with_reducible refine ite_rn ?_) | (with_reducible refine ite_nn ?_) | (with_reducible refine ite_nrn ?_) | (with_reducible refine ite_nnn ?_)
  | ((with_reducible refine' rd_var ?h1 ?_); (case h1 => rfl))
  | ((with_reducible refine' rd_fN T ?h1 ?h2 ?h3 ?_); (case h1 => assumption); (case h2 => rfl); (case h3 => decide +kernel))
  | ((with_reducible refine' rd_fW T ?h1 ?h2 ?h3 ?_); (case h1 => assumption); (case h2 => rfl); (case h3 => decide +kernel))
  | ((with_reducible refine' rd_fL T ?h1 ?h2 ?h3 ?_); (case h1 => assumption); (case h2 => rfl); (case h3 => decide +kernel))
  | ((with_reducible refine' rd_fP T ?h1 ?h2 ?h3 ?_); (case h1 => assumption); (case h2 => rfl); (case h3 => decide +kernel))
  | ((with_reducible refine' rd_ixL ?h1 ?h2 ?_); (case h1 => assumption); (case h2 => assumption))
  | ((with_reducible refine' rd_stN T ?h1 ?h2 ?h3 ?_); (case h1 => assumption); (case h2 => rfl); (case h3 => decide +kernel))
  | ((with_reducible refine' rd_stW T ?h1 ?h2 ?h3 ?_); (case h1 => assumption); (case h2 => rfl); (case h3 => decide +kernel))
  | ((with_reducible refine' rd_lstR ?h1 ?_); (case h1 => first | (show 0 ≤ sizeLine; decide +kernel) | (show 1 ≤ sizeLine; decide +kernel) | (show 2 ≤ sizeLine; decide +kernel) | (show 3 ≤ sizeLine; decide +kernel) | (show 4 ≤ sizeLine; decide +kernel) | (show 5 ≤ sizeLine; decide +kernel) | (show 6 ≤ sizeLine; decide +kernel)))
  | (with_reducible refine rd_tup ?_) | ((with_reducible refine' rd_tupR ?h1 ?_); (case h1 => (show 2 ≤ sizeLine; decide +kernel)))
  | (with_reducible refine rd_asgG ?_) | (with_reducible refine rd_gsub ?_) | (with_reducible refine rd_sl ?_) | (with_reducible refine rd_nopart ?_) | (with_reducible refine rd_part ?_) | (with_reducible refine rd_pint ?_) | (with_reducible refine rd_enum ?_)
  | ((with_reducible refine' rd_ix0 ?h1 ?_); (case h1 => assumption)) | ((with_reducible refine' rd_ix1 ?h1 ?_); (case h1 => assumption)) | ((with_reducible refine' rd_ix2 ?h1 ?_); (case h1 => assumption))
  | (with_reducible refine ite_bit ?_)))
set_option hygiene false in
local macro_rules | `(tactic| walk_at "go") => `(tactic| ((try simp only [cxK]); walk_at "rd"))
set_option hygiene false in
local macro_rules | `(tactic| walk_at "lit") => `(tactic| ((repeat (walk_at "rd"; first | (refine ite_decF (by decide) ?_) | (refine ite_decT (by decide) ?_))); walk_at "rd"))
section
variable {P : Program} {w : World} {K : PySem.W.Frag} {mg : Str → Option Value} {base : Heap} {c : Cs}
theorem promiseOf_len (o : Option Ag03.Promise) : ((Ag03.promiseOf o).map V.int).length = 3 := by
  cases o <;> rfl
theorem row_len (l : List Nat) : ((Ag03.row l).map V.int).length = l.length + 1 := by
  unfold Ag03.row Ag03.nums
  simp
theorem voted_v (o : Option Nat) : (Ag03.votedOf o).map V.int = [vOpt o] := by
  cases o <;> rfl
theorem ok_report_node {f : Addr} {fd : FuncData} (F : Fun K "report_node" "report_node" s_report_node f fd) (T : Txt K mg c) (O_report_promise : Ok P w K mg base "report_promise" 1 ["node"] (sp_report_promise c)) (O_with_length : Ok P w K mg base "with_length" 1 ["members"] (sp_with_length c)) : FnOk P w K mg base CX0 2 f fd ["node"] (sp_report_node c) := by
  refine F.ok sc_report_node (fun vs H Q E h => ?_) (fun cdv A outer s H vs Q E hr h => ?_)
  · obtain ⟨lab, i, p, n, k5, rfl, _⟩ := h
    rfl
  · skip
    obtain ⟨lab, i, p, n, k5, rfl, NA, NK, h5, k⟩ := h
    obtain ⟨dx, pr, wv, va, ga, hN, hP, hWo, lv, hV, lg, hG, d1, d2, d3⟩ := NA.apart
    refine ⟨_, (pss_cons (ps_set (i := 1) sc_report_node.nd rfl (Or.inl rfl) (pe_lst (pa_cons (pe_ifExp (pt_val (pe_fld (pv 0) rfl)) pe_int pe_int) (pa_cons (pe_fld (pv 0) rfl) (pa_cons (pe_fld (pv 0) rfl) (pa_cons (pe_fld (pv 0) rfl) (pa_cons (pe_fld (pv 0) rfl) (pa_cons (pe_fld (pv 0) rfl) pa_nil))))))))
    (pss_cons (ps_expr (pe_bm PySem.F.plainAttrs_list PySem.F.slot_list_extend PySem.F.type_list_extend mt_extend (pv 1) (pa_cons (pe_ok O_report_promise hr (by decide) rfl (pa_cons (pv 0) pa_nil)) pa_nil)))
    (pss_cons (ps_expr (pe_bm PySem.F.plainAttrs_list PySem.F.slot_list_append PySem.F.type_list_append mt_append (pv 1) (pa_cons (pe_fld (pv 0) rfl) pa_nil)))
    (pss_cons (ps_expr (pe_bm PySem.F.plainAttrs_list PySem.F.slot_list_extend PySem.F.type_list_extend mt_extend (pv 1) (pa_cons (pe_ifExp (pt_cmpR op_isN (pe_fld (pv 0) rfl) pe_non (nomark _)) (pe_lst (pa_cons (pe_gint rfl T.g_NO_WISH) pa_nil)) (pe_ok O_with_length hr (by decide) rfl (pa_cons (pe_fld (pv 0) rfl) pa_nil))) pa_nil)))
    (pss_cons (ps_expr (pe_bm PySem.F.plainAttrs_list PySem.F.slot_list_extend PySem.F.type_list_extend mt_extend (pv 1) (pa_cons (pe_ok O_with_length hr (by decide) rfl (pa_cons (pe_fld (pv 0) rfl) pa_nil)) pa_nil)))
    (pss_cons (ps_expr (pe_bm PySem.F.plainAttrs_list PySem.F.slot_list_extend PySem.F.type_list_extend mt_extend (pv 1) (pa_cons (pe_lst (pa_cons (pe_fld (pv 0) rfl) (pa_cons (pe_fld (pv 0) rfl) pa_nil))) pa_nil)))
    (pss_cons (ps_expr (pe_bm PySem.F.plainAttrs_list PySem.F.slot_list_extend PySem.F.type_list_extend mt_extend (pv 1) (pa_cons (pe_ok O_with_length hr (by decide) rfl (pa_cons (pe_fld (pv 0) rfl) pa_nil)) pa_nil)))
    (pss_cons (ps_expr (pe_bm PySem.F.plainAttrs_list PySem.F.slot_list_append PySem.F.type_list_append mt_append (pv 1) (pa_cons (pe_fld (pv 0) rfl) pa_nil)))
    (pss_one (ps_ret (pv 1))))))))))), ?_⟩
    walk_at "go"
    intro tl G1 nt h1 s1
    have l1 : [vn (Ag03.bit n.up), vn n.clock, vn n.term, vOpt n.voted, vn n.rank, vn n.role].length ≤ 6 := Nat.le_refl _
    generalize e1 : [vn (Ag03.bit n.up), vn n.clock, vn n.term, vOpt n.voted, vn n.rank, vn n.role] = X1 at h1 l1
    walk_at "rd"
    refine ⟨lab, i, p, n, rfl, NA.keep (Keep.ofSame (S := fun _ => False) s1) id id id id id, fun q2 G2 nq2 hq2 sq2 => ?_⟩
    walk_at "rd"
    refine rd_ext (sq2 _ _ h1) hq2 (small2000 (by rw [promiseOf_len]; omega)) fun H2 h2 u2 => ?_
    have s2 : Same H H2 := Same.thru (fun b o e => sq2 _ _ (s1 _ _ e)) u2 nt
    have l2 : (X1 ++ (Ag03.promiseOf n.promise).map V.int).length ≤ 9 := by rw [List.length_append, promiseOf_len]; omega
    generalize e2 : X1 ++ (Ag03.promiseOf n.promise).map V.int = X2 at h2 l2
    have hN2 := s2 _ _ hN
    walk_at "rd"
    refine rd_app h2 (lt2000 (by omega)) fun H3 h3 u3 => ?_
    have s3 : Same H H3 := Same.thru s2 u3 nt
    have l3 : (X2 ++ [vn n.still]).length ≤ 10 := by rw [List.length_append]; show _ + 1 ≤ _; omega
    generalize e3 : X2 ++ [vn n.still] = X3 at h3 l3
    have hN3 := s3 _ _ hN
    cases ew : n.would with
    | none =>
      rw [ew] at hWo
      have hWo : wv = .non := hWo
      subst hWo
      walk_at "rd"
      intro qw Gw nqw hqw sw
      have lw : ((Ag03.wouldOf n.would).map V.int).length ≤ 6 := by rw [ew]; show 1 ≤ 6; decide
      have hqw : Gw qw = some (.lst ((Ag03.wouldOf n.would).map V.int)) := by rw [ew]; exact hqw
      walk_at "rd"
      refine rd_ext (sw _ _ h3) hqw (small2000 (by omega)) fun H4 h4 u4 => ?_
      have s4 : Same H H4 := Same.thru (fun b o e => sw _ _ (s3 _ _ e)) u4 nt
      have l4 : (X3 ++ (Ag03.wouldOf n.would).map V.int).length ≤ 16 := by rw [List.length_append]; omega
      generalize e4 : X3 ++ (Ag03.wouldOf n.would).map V.int = X4 at h4 l4
      have hN4 := s4 _ _ hN
      walk_at "rd"
      refine ⟨va, n.votes, rfl, s4 _ _ hV, by have := NK.votes.len; omega, fun q5 G5 nq5 hq5 sq5 => ?_⟩
      walk_at "rd"
      refine rd_ext (sq5 _ _ h4) hq5 (small2000 (by rw [row_len]; have := NK.votes.len; omega)) fun H5 h5 u5 => ?_
      have s5 : Same H H5 := Same.thru (fun b o e => sq5 _ _ (s4 _ _ e)) u5 nt
      have l5 : (X4 ++ (Ag03.row n.votes).map V.int).length ≤ 22 := by rw [List.length_append, row_len]; have := NK.votes.len; omega
      generalize e5 : X4 ++ (Ag03.row n.votes).map V.int = X5 at h5 l5
      have hN5 := s5 _ _ hN
      walk_at "rd"
      intro q6 G6 nq6 hq6 sq6
      walk_at "rd"
      refine rd_ext (sq6 _ _ h5) hq6 (small2000 (by show _ + 2 ≤ _; omega)) fun H6 h6 u6 => ?_
      have s6 : Same H H6 := Same.thru (fun b o e => sq6 _ _ (s5 _ _ e)) u6 nt
      have l6 : (X5 ++ [vn n.round, vn n.sent]).length ≤ 24 := by rw [List.length_append]; show _ + 2 ≤ _; omega
      generalize e6 : X5 ++ [vn n.round, vn n.sent] = X6 at h6 l6
      have hN6 := s6 _ _ hN
      walk_at "rd"
      refine ⟨ga, n.given, rfl, s6 _ _ hG, by have := NK.given.len; omega, fun q7 G7 nq7 hq7 sq7 => ?_⟩
      walk_at "rd"
      refine rd_ext (sq7 _ _ h6) hq7 (small2000 (by rw [row_len]; have := NK.given.len; omega)) fun H7 h7 u7 => ?_
      have s7 : Same H H7 := Same.thru (fun b o e => sq7 _ _ (s6 _ _ e)) u7 nt
      have l7 : (X6 ++ (Ag03.row n.given).map V.int).length ≤ 30 := by rw [List.length_append, row_len]; have := NK.given.len; omega
      generalize e7 : X6 ++ (Ag03.row n.given).map V.int = X7 at h7 l7
      have hN7 := s7 _ _ hN
      walk_at "rd"
      refine rd_app h7 (lt2000 (by omega)) fun H8 h8 u8 => ?_
      walk_at "rd"
      refine k tl H8 nt ?_ (Same.thru s7 u8 nt)
      rw [h8, ← e7, ← e6, ← e5, ← e4, ← e3, ← e2, ← e1]
      unfold nodeTold
      simp only [List.map_append, List.map_cons, nums_vn, voted_v, List.append_assoc, List.map_nil, List.cons_append, List.nil_append]
    | some l =>
      rw [ew] at hWo
      obtain ⟨wa, rfl, lwa, hwa⟩ := hWo
      have ll := (NK.would l ew).len
      walk_at "rd"
      refine ⟨wa, l, rfl, s3 _ _ hwa, by omega, fun qw Gw nqw hqw sw => ?_⟩
      have lw : ((Ag03.wouldOf n.would).map V.int).length ≤ 6 := by rw [ew]; show ((Ag03.row l).map V.int).length ≤ 6; rw [row_len]; omega
      have hqw : Gw qw = some (.lst ((Ag03.wouldOf n.would).map V.int)) := by rw [ew]; exact hqw
      walk_at "rd"
      refine rd_ext (sw _ _ h3) hqw (small2000 (by omega)) fun H4 h4 u4 => ?_
      have s4 : Same H H4 := Same.thru (fun b o e => sw _ _ (s3 _ _ e)) u4 nt
      have l4 : (X3 ++ (Ag03.wouldOf n.would).map V.int).length ≤ 16 := by rw [List.length_append]; omega
      generalize e4 : X3 ++ (Ag03.wouldOf n.would).map V.int = X4 at h4 l4
      have hN4 := s4 _ _ hN
      walk_at "rd"
      refine ⟨va, n.votes, rfl, s4 _ _ hV, by have := NK.votes.len; omega, fun q5 G5 nq5 hq5 sq5 => ?_⟩
      walk_at "rd"
      refine rd_ext (sq5 _ _ h4) hq5 (small2000 (by rw [row_len]; have := NK.votes.len; omega)) fun H5 h5 u5 => ?_
      have s5 : Same H H5 := Same.thru (fun b o e => sq5 _ _ (s4 _ _ e)) u5 nt
      have l5 : (X4 ++ (Ag03.row n.votes).map V.int).length ≤ 22 := by rw [List.length_append, row_len]; have := NK.votes.len; omega
      generalize e5 : X4 ++ (Ag03.row n.votes).map V.int = X5 at h5 l5
      have hN5 := s5 _ _ hN
      walk_at "rd"
      intro q6 G6 nq6 hq6 sq6
      walk_at "rd"
      refine rd_ext (sq6 _ _ h5) hq6 (small2000 (by show _ + 2 ≤ _; omega)) fun H6 h6 u6 => ?_
      have s6 : Same H H6 := Same.thru (fun b o e => sq6 _ _ (s5 _ _ e)) u6 nt
      have l6 : (X5 ++ [vn n.round, vn n.sent]).length ≤ 24 := by rw [List.length_append]; show _ + 2 ≤ _; omega
      generalize e6 : X5 ++ [vn n.round, vn n.sent] = X6 at h6 l6
      have hN6 := s6 _ _ hN
      walk_at "rd"
      refine ⟨ga, n.given, rfl, s6 _ _ hG, by have := NK.given.len; omega, fun q7 G7 nq7 hq7 sq7 => ?_⟩
      walk_at "rd"
      refine rd_ext (sq7 _ _ h6) hq7 (small2000 (by rw [row_len]; have := NK.given.len; omega)) fun H7 h7 u7 => ?_
      have s7 : Same H H7 := Same.thru (fun b o e => sq7 _ _ (s6 _ _ e)) u7 nt
      have l7 : (X6 ++ (Ag03.row n.given).map V.int).length ≤ 30 := by rw [List.length_append, row_len]; have := NK.given.len; omega
      generalize e7 : X6 ++ (Ag03.row n.given).map V.int = X7 at h7 l7
      have hN7 := s7 _ _ hN
      walk_at "rd"
      refine rd_app h7 (lt2000 (by omega)) fun H8 h8 u8 => ?_
      walk_at "rd"
      refine k tl H8 nt ?_ (Same.thru s7 u8 nt)
      rw [h8, ← e7, ← e6, ← e5, ← e4, ← e3, ← e2, ← e1]
      unfold nodeTold
      simp only [List.map_append, List.map_cons, nums_vn, voted_v, List.append_assoc, List.map_nil, List.cons_append, List.nil_append]
theorem ok_report_holding {f : Addr} {fd : FuncData} (F : Fun K "report_holding" "report_holding" s_report_holding f fd) (T : Txt K mg c) (O_with_length : Ok P w K mg base "with_length" 1 ["members"] (sp_with_length c)) (O_holds_now : Ok P w K mg base "holds_now" 1 ["node"] (sp_holds_now c)) : FnOk P w K mg base CX0 2 f fd ["world"] (sp_report_holding c) := by
  refine F.ok sc_report_holding (fun vs H Q E h => ?_) (fun cdv A outer s H vs Q E hr h => ?_)
  · obtain ⟨lab, w, ns, s, rfl, _⟩ := h
    rfl
  · skip
    obtain ⟨lab, w, ns, s, rfl, R, k⟩ := h
    obtain ⟨dw, wl, nl, rl, ls, ll, ts, W⟩ := R.wd
    have hW := W.ob
    have hL := W.nl
    have hlen : (ns.map V.ref).length = s.nodes.length := by rw [List.length_map]; exact R.len
    have h5 := R.inv.five
    refine ⟨_, (pss_cons (ps_setLc (i := 1) (own := [("place", 2), ("node", 3)]) (g := (gTup K 2 (gCons (gName 2) (gCons (gName 3) gNil)))) (tt := (tB (tCall (sp_holds_now c) [] E0 (tCons (tVar 3) tNil)))) (te := (tVar 2)) rfl sc_report_holding.nd rfl rfl (sw_true rfl rfl rfl (by decide +kernel)) (pi_enum (by rfl) T.b_enumerate (pa_cons (pe_fld (pv 0) rfl) pa_nil)) (blkOk_by (own := [("place", 2), ("node", 3)]) (N := N_report_holding) (sc := defScope s_report_holding) (by decide +kernel)) (fun _ _ _ _ _ => (pg_tup rfl (pgs_cons (pg_name (i := 2) sc_report_holding.nd rfl (Or.inl rfl)) (pgs_cons (pg_name (i := 3) sc_report_holding.nd rfl (Or.inl rfl)) pgs_nil)))) (fun _ _ _ _ _ => (pts_one (pt_val (pe_ok O_holds_now hr (by decide) rfl (pa_cons (pv 3) pa_nil))))) (fun _ _ _ _ _ => (pv 2)))
    (pss_one (ps_ret (pe_op op_cat (pe_lst (pa_cons (pe_fld (pv 0) rfl) pa_nil)) (pe_ok O_with_length hr (by decide) rfl (pa_cons (pv 1) pa_nil)))))), ?_⟩
    walk_at "go"
    refine ⟨nl, ns.map V.ref, rfl, SqL.of hL, ?_⟩
    intro D hD
    have fl : ∀ j, ((List.range j).filter fun (i : Nat) => Ag03.holding (Ag03.node s i)).length ≤ j := fun j => by
      have := List.length_filter_le (fun (i : Nat) => Ag03.holding (Ag03.node s i)) (List.range j)
      rw [List.length_range] at this
      exact this
    refine lc_it (walk_enum (K := K) (a := nl) (xs := ns.map V.ref)) (fun j H' => Same H H' ∧ H' D = some (.lst (((List.range j).filter fun (i : Nat) => Ag03.holding (Ag03.node s i)).map vn))) ⟨Same.alloc hD, upd_same⟩ ?_ ?_ ?_
    · rintro j H' _ ⟨sm, _⟩
      exact SqL.of (sm _ _ hL)
    · rintro j x H' H'' hj ⟨sm, hd⟩ ⟨Tt, x1, y1, rfl, nT, rfl, ex, ey⟩
      rw [hlen] at hj
      obtain ⟨p, hp⟩ := R.at_ hj
      have ey : (ns.map V.ref)[j]? = some y1 := ey
      rw [List.getElem?_map, hp] at ey
      cases ey
      cases ex
      have sT : Same H' (upd H' Tt (.tup [.int (j : Nat), .ref p])) := Same.alloc nT
      have s2 : Same H (upd H' Tt (.tup [.int (j : Nat), .ref p])) := fun b o e => sT _ _ (sm _ _ e)
      have NA := (R.nd j p hp).keep (Keep.ofSame (S := fun _ => False) s2) id id id id id
      have er : (List.range (j + 1)).filter (fun (i : Nat) => Ag03.holding (Ag03.node s i)) = (List.range j).filter (fun (i : Nat) => Ag03.holding (Ag03.node s i)) ++ (if Ag03.holding (Ag03.node s j) = true then [j] else []) := by
        rw [List.range_succ, List.filter_append, List.filter_cons, List.filter_nil]
      refine ⟨Tt, _, rfl, SqT.of upd_same, rfl, _, _, rfl, _, _, rfl, rfl, rfl, ?_⟩
      walk_at "rd"
      refine ⟨lab, j, p, _, rfl, NA, ?_⟩
      walk_at "rd"
      refine ite_b (fun e => ?_) (fun e => ?_)
      · walk_at "rd"
        refine ⟨_, sT _ _ hd, lt2000 (by rw [List.length_map]; have := fl j; omega), ?_, ?_⟩
        · intro b o eb
          rw [upd_ne (ne_of_none eb hD)]
          exact s2 _ _ eb
        · rw [upd_same, er, if_pos e, List.map_append]
          rfl
      · refine ⟨s2, ?_⟩
        rw [er, if_neg (by rw [e]; exact Bool.false_ne_true), List.append_nil]
        exact sT _ _ hd
    · rintro H' ⟨sm, hd⟩
      rw [hlen] at hd
      have hd : H' D = some (.lst ((Ag03.holders s).map vn)) := hd
      have hW1 := sm _ _ hW
      have lh : (Ag03.holders s).length ≤ s.nodes.length := fl _
      walk_at "rd"
      intro q G nq hq sq
      walk_at "rd"
      refine ⟨D, Ag03.holders s, rfl, sq _ _ hd, by omega, fun q2 G2 nq2 hq2 sq2 => ?_⟩
      walk_at "rd"
      refine rd_cat (sq2 _ _ hq) hq2 (small2000 (by rw [row_len]; show 1 + _ ≤ _; omega)) fun r G3 nr hr3 sr => ?_
      have sa : Same H G2 := fun b o e => sq2 _ _ (sq _ _ (sm _ _ e))
      refine k r G3 (none_of sa nr) ?_ (fun b o e => sr _ _ (sa _ _ e))
      rw [hr3]
      unfold Ag03.row
      rw [nums_vn, nums_vn]
      rfl
end
end Hfs
namespace Hfs
open PySem PySem.Spec PyProof.Rows L2
set_option hygiene false in
local macro_rules | `(tactic| walk_at "rd") => `(tactic| repeat (first
  | (with_reducible refine rd_seq ?_) | (with_reducible refine rd_next ?_) | (with_reducible refine rd_asg ?_) | (with_reducible refine rd_ret ?_) | (with_reducible refine rd_retN ?_) | (with_reducible refine rd_drop ?_)
  | (with_reducible refine rd_ifS ?_) | (with_reducible refine rd_test ?_) | (with_reducible refine rd_tB ?_) | (with_reducible refine rd_not ?_) | (with_reducible refine rd_and ?_) | (with_reducible refine rd_or ?_)
  | (with_reducible refine rd_andV ?_) | (with_reducible refine rd_orV ?_) | (with_reducible refine rd_notV ?_) | (with_reducible refine rd_if ?_) | (with_reducible refine rd_op ?_) | (with_reducible refine rd_I0 ?_)
  | (with_reducible refine rd_eqI ?_) | (with_reducible refine rd_neI ?_) | (with_reducible refine rd_eqB ?_) | (with_reducible refine rd_nil ?_) | (with_reducible refine rd_cons ?_) | (with_reducible refine rd_call ?_)
  | (with_reducible refine rd_cb ?_) | (with_reducible refine rd_fld ?_) | (with_reducible refine rd_sfld ?_) | (with_reducible refine rd_lst ?_) | (with_reducible refine rd_make ?_) | (with_reducible refine rd_c ?_)
  | (with_reducible refine rd_bm ?_) | (with_reducible refine rd_for ?_) | (with_reducible refine rd_rng1 ?_) | (with_reducible refine rd_gname ?_)
  | ((with_reducible refine' And.intro (tyL ?h1) ?_); (case h1 => assumption))
  | ((with_reducible refine' rd_len ?h1 ?_); (case h1 => assumption))
  | (refine ⟨_, _, (rfl : [V.int _, V.int _] = [V.int _, V.int _]), ?_⟩) | (with_reducible refine rd_ilist ?_) | (with_reducible refine rd_lc ?_) | (with_reducible refine rd_yes ?_) | (with_reducible refine rd_chain ?_)
  | ((with_reducible refine' rd_ilistR ?h1 ?_); (case h1 => assumption))
  | ((with_reducible refine' rd_in ?h1 ?_); (case h1 => assumption)) | (with_reducible refine rd_eqVn ?_) | (with_reducible refine rd_eqVs ?_)
  | (with_reducible refine rd_bl ?_) | (with_reducible refine And.intro (rfl : V.non = V.non) ?_) | (with_reducible refine iteT ?_) | (with_reducible refine iteF ?_)
  | (with_reducible refine ite_rn ?_) | (with_reducible refine ite_nn ?_) | (with_reducible refine ite_nrn ?_) | (with_reducible refine ite_nnn ?_)
  | ((with_reducible refine' rd_var ?h1 ?_); (case h1 => rfl))
  | ((with_reducible refine' rd_fN T ?h1 ?h2 ?h3 ?_); (case h1 => assumption); (case h2 => rfl); (case h3 => decide +kernel))
  | ((with_reducible refine' rd_fW T ?h1 ?h2 ?h3 ?_); (case h1 => assumption); (case h2 => rfl); (case h3 => decide +kernel))
  | ((with_reducible refine' rd_fL T ?h1 ?h2 ?h3 ?_); (case h1 => assumption); (case h2 => rfl); (case h3 => decide +kernel))
  | ((with_reducible refine' rd_fP T ?h1 ?h2 ?h3 ?_); (case h1 => assumption); (case h2 => rfl); (case h3 => decide +kernel))
  | ((with_reducible refine' rd_ixL ?h1 ?h2 ?_); (case h1 => assumption); (case h2 => assumption))
  | ((with_reducible refine' rd_stN T ?h1 ?h2 ?h3 ?_); (case h1 => assumption); (case h2 => rfl); (case h3 => decide +kernel))
  | ((with_reducible refine' rd_stW T ?h1 ?h2 ?h3 ?_); (case h1 => assumption); (case h2 => rfl); (case h3 => decide +kernel))
  | ((with_reducible refine' rd_lstR ?h1 ?_); (case h1 => first | (show 0 ≤ sizeLine; decide +kernel) | (show 1 ≤ sizeLine; decide +kernel) | (show 2 ≤ sizeLine; decide +kernel) | (show 3 ≤ sizeLine; decide +kernel) | (show 4 ≤ sizeLine; decide +kernel) | (show 5 ≤ sizeLine; decide +kernel) | (show 6 ≤ sizeLine; decide +kernel)))
  | (with_reducible refine rd_tup ?_) | ((with_reducible refine' rd_tupR ?h1 ?_); (case h1 => (show 2 ≤ sizeLine; decide +kernel)))
  | (with_reducible refine rd_asgG ?_) | (with_reducible refine rd_gsub ?_) | (with_reducible refine rd_sl ?_) | (with_reducible refine rd_nopart ?_) | (with_reducible refine rd_part ?_) | (with_reducible refine rd_pint ?_) | (with_reducible refine rd_enum ?_)
  | ((with_reducible refine' rd_ix0 ?h1 ?_); (case h1 => assumption)) | ((with_reducible refine' rd_ix1 ?h1 ?_); (case h1 => assumption)) | ((with_reducible refine' rd_ix2 ?h1 ?_); (case h1 => assumption))
  | (with_reducible refine ite_bit ?_)))
set_option hygiene false in
local macro_rules | `(tactic| walk_at "go") => `(tactic| ((try simp only [cxK]); walk_at "rd"))
set_option hygiene false in
local macro_rules | `(tactic| walk_at "lit") => `(tactic| ((repeat (walk_at "rd"; first | (refine ite_decF (by decide) ?_) | (refine ite_decT (by decide) ?_))); walk_at "rd"))
section
variable {P : Program} {w : World} {K : PySem.W.Frag} {mg : Str → Option Value} {base : Heap} {c : Cs}
theorem cut_from (k : Nat) (xs : List V) (h : k ≤ xs.length) : cutV xs (some (k : Int)) none = xs.drop k := by
  unfold cutV
  rw [HT.sIx_nat, HT.sIx_none, Nat.min_eq_left h, List.take_of_length_le]
  rw [List.length_drop]
  omega
theorem cut_mid (i j : Nat) (xs : List V) (h : i ≤ j) (hj : j ≤ xs.length) : cutV xs (some (i : Int)) (some (j : Int)) = (xs.drop i).take (j - i) := by
  unfold cutV
  rw [HT.sIx_nat, HT.sIx_nat, Nat.min_eq_left hj, Nat.min_eq_left (by omega)]
theorem ints_vn (l : List Nat) : (intsOf l).map V.int = l.map vn := (map_vn l).symm
theorem ok_carry_out {f : Addr} {fd : FuncData} (F : Fun K "carry_out" "carry_out" s_carry_out f fd) (T : Txt K mg c) (O_start : Ok P w K mg base "start" 4 ["world", "place"] (sp_start c)) (O_elapse : Ok P w K mg base "elapse" 2 ["world", "passed", "clocks"] (sp_elapse c)) (O_wish : Ok P w K mg base "wish" 7 ["world", "place"] (sp_wish c)) (O_renew : Ok P w K mg base "renew" 5 ["world", "place"] (sp_renew c)) (O_leave : Ok P w K mg base "leave" 5 ["world", "place", "heir"] (sp_leave c)) (O_raise_rank : Ok P w K mg base "raise_rank" 1 ["world", "place", "rank"] (sp_raise_rank c)) (O_take : Ok P w K mg base "take" 8 ["world", "place"] (sp_take c)) (O_keep : Ok P w K mg base "keep" 8 ["world", "place"] (sp_keep c)) (O_lose : Ok P w K mg base "lose" 1 ["world", "place"] (sp_lose c)) (O_stop : Ok P w K mg base "stop" 1 ["world", "place"] (sp_stop c)) : FnOk P w K mg base CX0 9 f fd ["world", "call"] (sp_carry_out c) := by
  refine F.ok sc_carry_out (fun vs H Q E h => ?_) (fun cdv A outer s H vs Q E hr h => ?_)
  · obtain ⟨lab, w, ns, s, a, x, rfl, _⟩ := h
    rfl
  · skip
    obtain ⟨lab, w, ns, s, a, x, rfl, R, hlo, hA, hb, hc, k⟩ := h
    refine ⟨_, (pss_cons (ps_if (pt_cmpR op_eq (pe_ix ix_list (pv 1) pe_int (fun _ _ => rfl)) (pe_gint rfl T.g_ELAPSE) (nomark _))
    (pss_one (ps_ret (pe_ok O_elapse hr (by decide) rfl (pa_cons (pv 0) (pa_cons (pe_ix ix_list (pv 1) pe_int (fun _ _ => rfl)) (pa_cons (pe_slice sl_list (pv 1) (po_some pe_int) po_none) pa_nil))))))
    pss_nil)
    (pss_cons (ps_if (pt_cmpR op_eq (pe_ix ix_list (pv 1) pe_int (fun _ _ => rfl)) (pe_gint rfl T.g_WISH) (nomark _))
    (pss_one (ps_ret (pe_ok O_wish hr (by decide) rfl (pa_cons (pv 0) (pa_cons (pe_ix ix_list (pv 1) pe_int (fun _ _ => rfl)) pa_nil)))))
    pss_nil)
    (pss_cons (ps_if (pt_cmpR op_eq (pe_ix ix_list (pv 1) pe_int (fun _ _ => rfl)) (pe_gint rfl T.g_RENEW) (nomark _))
    (pss_one (ps_ret (pe_ok O_renew hr (by decide) rfl (pa_cons (pv 0) (pa_cons (pe_ix ix_list (pv 1) pe_int (fun _ _ => rfl)) pa_nil)))))
    pss_nil)
    (pss_cons (ps_if (pt_cmpR op_eq (pe_ix ix_list (pv 1) pe_int (fun _ _ => rfl)) (pe_gint rfl T.g_LEAVE) (nomark _))
    (pss_one (ps_ret (pe_ok O_leave hr (by decide) rfl (pa_cons (pv 0) (pa_cons (pe_ix ix_list (pv 1) pe_int (fun _ _ => rfl)) (pa_cons (pe_ix ix_list (pv 1) pe_int (fun _ _ => rfl)) pa_nil))))))
    pss_nil)
    (pss_cons (ps_if (pt_cmpR op_eq (pe_ix ix_list (pv 1) pe_int (fun _ _ => rfl)) (pe_gint rfl T.g_RANK) (nomark _))
    (pss_one (ps_ret (pe_ok O_raise_rank hr (by decide) rfl (pa_cons (pv 0) (pa_cons (pe_ix ix_list (pv 1) pe_int (fun _ _ => rfl)) (pa_cons (pe_ix ix_list (pv 1) pe_int (fun _ _ => rfl)) pa_nil))))))
    pss_nil)
    (pss_cons (ps_if (pt_cmpR op_eq (pe_ix ix_list (pv 1) pe_int (fun _ _ => rfl)) (pe_gint rfl T.g_TAKE) (nomark _))
    (pss_one (ps_ret (pe_ok O_take hr (by decide) rfl (pa_cons (pv 0) (pa_cons (pe_ix ix_list (pv 1) pe_int (fun _ _ => rfl)) pa_nil)))))
    pss_nil)
    (pss_cons (ps_if (pt_cmpR op_eq (pe_ix ix_list (pv 1) pe_int (fun _ _ => rfl)) (pe_gint rfl T.g_KEEP) (nomark _))
    (pss_one (ps_ret (pe_ok O_keep hr (by decide) rfl (pa_cons (pv 0) (pa_cons (pe_ix ix_list (pv 1) pe_int (fun _ _ => rfl)) pa_nil)))))
    pss_nil)
    (pss_cons (ps_if (pt_cmpR op_eq (pe_ix ix_list (pv 1) pe_int (fun _ _ => rfl)) (pe_gint rfl T.g_LOSE) (nomark _))
    (pss_one (ps_ret (pe_ok O_lose hr (by decide) rfl (pa_cons (pv 0) (pa_cons (pe_ix ix_list (pv 1) pe_int (fun _ _ => rfl)) pa_nil)))))
    pss_nil)
    (pss_cons (ps_if (pt_cmpR op_eq (pe_ix ix_list (pv 1) pe_int (fun _ _ => rfl)) (pe_gint rfl T.g_STOP) (nomark _))
    (pss_one (ps_ret (pe_ok O_stop hr (by decide) rfl (pa_cons (pv 0) (pa_cons (pe_ix ix_list (pv 1) pe_int (fun _ _ => rfl)) pa_nil)))))
    pss_nil)
    (pss_one (ps_ret (pe_ok O_start hr (by decide) rfl (pa_cons (pv 0) (pa_cons (pe_ix ix_list (pv 1) pe_int (fun _ _ => rfl)) pa_nil)))))))))))))), ?_⟩
    (try simp only [cxK])
    cases x with
    | begin_ => exact hc.elim
    | letters => exact hc.elim
    | node => exact hc.elim
    | holds => exact hc.elim
    | led => exact hc.elim
    | pass d l =>
      have hA1 : H a = some (.lst (V.int 1 :: vn d :: vn l.length :: l.map vn)) := by rw [hA, ← ints_vn]; rfl
      obtain ⟨hd, h10, h3⟩ : d ≤ 2000 ∧ l.length ≤ 10 ∧ ∀ x ∈ l, x ≤ 3000 := hb
      walk_at "lit"
      refine rd_slL (SqL.of hA1) fun r G nr hr3 sr => ?_
      have ec : cutV (V.int 1 :: vn d :: vn l.length :: l.map vn) (some 3) none = l.map vn := cut_from 3 _ (by simp)
      rw [ec] at hr3
      walk_at "rd"
      exact ⟨relab lab r .free, w, ns, s, d, r, l, rfl, R.alloc nr sr, hr3, relab_same, hd, h3, h10, fun v s' lab' H' e R' K' => k v s' ns lab' H' e R' ((Keep.alloc nr sr).trans K').all⟩
    | wish i =>
      have hA1 : H a = some (.lst [V.int 2, vn i]) := hA
      walk_at "lit"
      exact ⟨lab, w, ns, s, i, rfl, R, hlo, k.of⟩
    | renew i =>
      have hA1 : H a = some (.lst [V.int 3, vn i]) := hA
      walk_at "lit"
      exact ⟨lab, w, ns, s, i, rfl, R, k.of⟩
    | leave i j =>
      have hA1 : H a = some (.lst [V.int 4, vn i, vn j]) := hA
      walk_at "lit"
      exact ⟨lab, w, ns, s, i, j, rfl, R, k.of⟩
    | rank i r =>
      have hA1 : H a = some (.lst [V.int 5, vn i, vn r]) := hA
      walk_at "lit"
      exact ⟨lab, w, ns, s, i, r, rfl, R, k.of⟩
    | take i =>
      have hA1 : H a = some (.lst [V.int 6, vn i]) := hA
      walk_at "lit"
      exact ⟨lab, w, ns, s, i, rfl, R, hb, hlo, k.of⟩
    | keep i =>
      have hA1 : H a = some (.lst [V.int 7, vn i]) := hA
      walk_at "lit"
      exact ⟨lab, w, ns, s, i, rfl, R, hlo, k.of⟩
    | lose i =>
      have hA1 : H a = some (.lst [V.int 8, vn i]) := hA
      walk_at "lit"
      exact ⟨lab, w, ns, s, i, rfl, R, hb, k.of⟩
    | halt_ i =>
      have hA1 : H a = some (.lst [V.int 9, vn i]) := hA
      walk_at "lit"
      exact ⟨lab, w, ns, s, i, rfl, R, k.of⟩
    | start i =>
      have hA1 : H a = some (.lst [V.int 10, vn i]) := hA
      walk_at "lit"
      exact ⟨lab, w, ns, s, i, rfl, R, k⟩
theorem ok_answer_in {f : Addr} {fd : FuncData} (F : Fun K "answer_in" "answer_in" s_answer_in f fd) (T : Txt K mg c) (O_report_led : Ok P w K mg base "report_led" 1 ["world"] (sp_report_led c)) (O_report_letters : Ok P w K mg base "report_letters" 1 ["world"] (sp_report_letters c)) (O_report_holding : Ok P w K mg base "report_holding" 2 ["world"] (sp_report_holding c)) (O_carry_out : Ok P w K mg base "carry_out" 9 ["world", "call"] (sp_carry_out c)) (O_report_node : Ok P w K mg base "report_node" 2 ["node"] (sp_report_node c)) : FnOk P w K mg base CX0 10 f fd ["world", "call"] (sp_answer_in c) := by
  refine F.ok sc_answer_in (fun vs H Q E h => ?_) (fun cdv A outer s H vs Q E hr h => ?_)
  · obtain ⟨lab, w, ns, s, a, x, rfl, _⟩ := h
    rfl
  · skip
    obtain ⟨lab, w, ns, s, a, x, rfl, R, hlo, hA, hb, hc, k⟩ := h
    obtain ⟨dw, wl, nl, rl, ls, ll, ts, W⟩ := R.wd
    have hW := W.ob
    have hL := W.nl
    have hlen : (ns.map V.ref).length = s.nodes.length := by rw [List.length_map]; exact R.len
    refine ⟨_, (pss_cons (ps_if (pt_cmpR op_lt (pe_ix ix_list (pv 1) pe_int (fun _ _ => rfl)) (pe_gint rfl T.g_LETTERS) (nomark _))
    (pss_one (ps_ret (pe_lst (pa_cons (pe_ok O_carry_out hr (by decide) rfl (pa_cons (pv 0) (pa_cons (pv 1) pa_nil))) pa_nil))))
    pss_nil)
    (pss_cons (ps_if (pt_cmpR op_eq (pe_ix ix_list (pv 1) pe_int (fun _ _ => rfl)) (pe_gint rfl T.g_LETTERS) (nomark _))
    (pss_one (ps_ret (pe_ok O_report_letters hr (by decide) rfl (pa_cons (pv 0) pa_nil))))
    pss_nil)
    (pss_cons (ps_if (pt_cmpR op_eq (pe_ix ix_list (pv 1) pe_int (fun _ _ => rfl)) (pe_gint rfl T.g_NODE) (nomark _))
    (pss_one (ps_ret (pe_ifExp (pt_cmpR op_lt (pe_ix ix_list (pv 1) pe_int (fun _ _ => rfl)) (pe_callB call_len_seq (by rfl) T.b_len PySem.boot_len (pa_cons (pe_fld (pv 0) rfl) pa_nil)) (nomark _)) (pe_ok O_report_node hr (by decide) rfl (pa_cons (pe_ix ix_list (pe_fld (pv 0) rfl) (pe_ix ix_list (pv 1) pe_int (fun _ _ => rfl)) (fun _ _ => rfl)) pa_nil)) (pe_lst (pa_cons (pe_gint rfl T.g_WRONG) pa_nil)))))
    pss_nil)
    (pss_cons (ps_if (pt_cmpR op_eq (pe_ix ix_list (pv 1) pe_int (fun _ _ => rfl)) (pe_gint rfl T.g_HOLDS) (nomark _))
    (pss_one (ps_ret (pe_ok O_report_holding hr (by decide) rfl (pa_cons (pv 0) pa_nil))))
    pss_nil)
    (pss_one (ps_ret (pe_ok O_report_led hr (by decide) rfl (pa_cons (pv 0) pa_nil)))))))), ?_⟩
    (try simp only [cxK])
    cases x with
    | begin_ => exact hc.elim
    | letters =>
      have hA1 : H a = some (.lst [V.int 11]) := hA
      walk_at "lit"
      exact ⟨lab, w, ns, s, rfl, R, fun q G nq hq sq => k q s _ ns lab G rfl (R.same sq) (.ofSame sq) nq hq⟩
    | holds =>
      have hA1 : H a = some (.lst [V.int 13]) := hA
      walk_at "lit"
      exact ⟨lab, w, ns, s, rfl, R, fun q G nq hq sq => k q s _ ns lab G rfl (R.same sq) (.ofSame sq) nq hq⟩
    | led =>
      have hA1 : H a = some (.lst [V.int 14]) := hA
      walk_at "lit"
      exact ⟨lab, w, ns, s, rfl, R, hlo, fun q G nq hq sq => k q s _ ns lab G rfl (R.same sq) (.ofSame sq) nq hq⟩
    | node i =>
      have hA1 : H a = some (.lst [V.int 12, vn i]) := hA
      have es : Ag03.step (some s) (.node i) = (some s, if s.nodes.length ≤ i then [-1] else nodeTold (Ag03.node s i)) := rfl
      rw [es] at k
      walk_at "lit"
      rw [hlen]
      refine ite_dec (fun h => ?_) (fun h => ?_)
      · have hi : i < s.nodes.length := by omega
        rw [if_neg (by omega)] at k
        obtain ⟨p, hp⟩ := R.at_ hi
        have hp' : (ns.map V.ref)[i]? = some (.ref p) := by rw [List.getElem?_map, hp]; rfl
        walk_at "rd"
        exact ⟨lab, i, p, _, s.nodes.length, rfl, R.nd i p hp, R.inv.gnode hi, R.inv.five, fun q G nq hq sq => k q s _ ns lab G rfl (R.same sq) (.ofSame sq) nq hq⟩
      · rw [if_pos (by omega)] at k
        walk_at "rd"
        intro q G nq hq sq
        exact k q s _ ns lab G rfl (R.same sq) (.ofSame sq) nq hq
    | pass d l =>
      have hA1 : H a = some (.lst (V.int 1 :: vn d :: vn l.length :: l.map vn)) := by rw [hA, ← ints_vn]; rfl
      walk_at "lit"
      refine ⟨lab, w, ns, s, a, .pass d l, rfl, R, hlo, hA, hb, trivial, fun v s' ns' lab' H' e R' K' => ?_⟩
      walk_at "rd"
      intro q G nq hq sq
      exact k q s' [v] ns' lab' G e (R'.same sq) (K'.trans (.ofSame sq)) (keep_none K' nq) hq
    | wish i =>
      have hA1 : H a = some (.lst [V.int 2, vn i]) := hA
      walk_at "lit"
      refine ⟨lab, w, ns, s, a, .wish i, rfl, R, hlo, hA, hb, trivial, fun v s' ns' lab' H' e R' K' => ?_⟩
      walk_at "rd"
      intro q G nq hq sq
      exact k q s' [v] ns' lab' G e (R'.same sq) (K'.trans (.ofSame sq)) (keep_none K' nq) hq
    | renew i =>
      have hA1 : H a = some (.lst [V.int 3, vn i]) := hA
      walk_at "lit"
      refine ⟨lab, w, ns, s, a, .renew i, rfl, R, hlo, hA, hb, trivial, fun v s' ns' lab' H' e R' K' => ?_⟩
      walk_at "rd"
      intro q G nq hq sq
      exact k q s' [v] ns' lab' G e (R'.same sq) (K'.trans (.ofSame sq)) (keep_none K' nq) hq
    | leave i j =>
      have hA1 : H a = some (.lst [V.int 4, vn i, vn j]) := hA
      walk_at "lit"
      refine ⟨lab, w, ns, s, a, .leave i j, rfl, R, hlo, hA, hb, trivial, fun v s' ns' lab' H' e R' K' => ?_⟩
      walk_at "rd"
      intro q G nq hq sq
      exact k q s' [v] ns' lab' G e (R'.same sq) (K'.trans (.ofSame sq)) (keep_none K' nq) hq
    | rank i r =>
      have hA1 : H a = some (.lst [V.int 5, vn i, vn r]) := hA
      walk_at "lit"
      refine ⟨lab, w, ns, s, a, .rank i r, rfl, R, hlo, hA, hb, trivial, fun v s' ns' lab' H' e R' K' => ?_⟩
      walk_at "rd"
      intro q G nq hq sq
      exact k q s' [v] ns' lab' G e (R'.same sq) (K'.trans (.ofSame sq)) (keep_none K' nq) hq
    | take i =>
      have hA1 : H a = some (.lst [V.int 6, vn i]) := hA
      walk_at "lit"
      refine ⟨lab, w, ns, s, a, .take i, rfl, R, hlo, hA, hb, trivial, fun v s' ns' lab' H' e R' K' => ?_⟩
      walk_at "rd"
      intro q G nq hq sq
      exact k q s' [v] ns' lab' G e (R'.same sq) (K'.trans (.ofSame sq)) (keep_none K' nq) hq
    | keep i =>
      have hA1 : H a = some (.lst [V.int 7, vn i]) := hA
      walk_at "lit"
      refine ⟨lab, w, ns, s, a, .keep i, rfl, R, hlo, hA, hb, trivial, fun v s' ns' lab' H' e R' K' => ?_⟩
      walk_at "rd"
      intro q G nq hq sq
      exact k q s' [v] ns' lab' G e (R'.same sq) (K'.trans (.ofSame sq)) (keep_none K' nq) hq
    | lose i =>
      have hA1 : H a = some (.lst [V.int 8, vn i]) := hA
      walk_at "lit"
      refine ⟨lab, w, ns, s, a, .lose i, rfl, R, hlo, hA, hb, trivial, fun v s' ns' lab' H' e R' K' => ?_⟩
      walk_at "rd"
      intro q G nq hq sq
      exact k q s' [v] ns' lab' G e (R'.same sq) (K'.trans (.ofSame sq)) (keep_none K' nq) hq
    | halt_ i =>
      have hA1 : H a = some (.lst [V.int 9, vn i]) := hA
      walk_at "lit"
      refine ⟨lab, w, ns, s, a, .halt_ i, rfl, R, hlo, hA, hb, trivial, fun v s' ns' lab' H' e R' K' => ?_⟩
      walk_at "rd"
      intro q G nq hq sq
      exact k q s' [v] ns' lab' G e (R'.same sq) (K'.trans (.ofSame sq)) (keep_none K' nq) hq
    | start i =>
      have hA1 : H a = some (.lst [V.int 10, vn i]) := hA
      walk_at "lit"
      refine ⟨lab, w, ns, s, a, .start i, rfl, R, hlo, hA, hb, trivial, fun v s' ns' lab' H' e R' K' => ?_⟩
      walk_at "rd"
      intro q G nq hq sq
      exact k q s' [v] ns' lab' G e (R'.same sq) (K'.trans (.ofSame sq)) (keep_none K' nq) hq
theorem at_pre (pre l : List Int) (j : Nat) : ((pre ++ l).map V.int)[pre.length + j]? = (l.map V.int)[j]? := by
  rw [List.map_append, List.getElem?_append_right (by rw [List.length_map]; omega), List.length_map]
  congr 1
  omega
theorem ok_end_of_call {f : Addr} {fd : FuncData} (F : Fun K "end_of_call" "end_of_call" s_end_of_call f fd) (T : Txt K mg c)  : FnOk P w K mg base CX0 1 f fd ["calls", "at"] (sp_end_of_call K) := by
  refine F.ok sc_end_of_call (fun vs H Q E h => ?_) (fun cdv A outer s H vs Q E hr h => ?_)
  · obtain ⟨a, pre, post, x, rfl, _⟩ := h
    rfl
  · skip
    obtain ⟨a, pre, post, x, rfl, hS, k⟩ := h
    refine ⟨_, (pss_cons (ps_set (i := 2) sc_end_of_call.nd rfl (Or.inl rfl) (pe_op op_add (pe_op op_add (pv 1) pe_int) (pe_ix ix_tup (pe_glob (v := V.ref _) rfl T.g_PLAIN_NUMBERS rfl) (pe_ix ix_list (pv 0) (pv 1) (fun _ _ => rfl)) (fun _ _ => rfl))))
    (pss_cons (ps_if (PW.pt (pw_or (pt_cmpR op_eq (pe_ix ix_list (pv 0) (pv 1) (fun _ _ => rfl)) (pe_gint rfl T.g_BEGIN) (nomark _)) (pw_or1 (pt_cmpR op_eq (pe_ix ix_list (pv 0) (pv 1) (fun _ _ => rfl)) (pe_gint rfl T.g_ELAPSE) (nomark _)))))
    (pss_one (ps_ret (pe_op op_add (pe_op op_add (pv 2) pe_int) (pe_ix ix_list (pv 0) (pv 2) (fun _ _ => rfl)))))
    pss_nil)
    (pss_one (ps_ret (pv 2))))), ?_⟩
    (try simp only [cxK])
    cases x with
    | begin_ w l p =>
      have hx : ((pre ++ enc (.begin_ w l p) ++ post).map V.int)[pre.length]? = some (V.int 0) := by
        rw [List.append_assoc]
        exact at_pre pre _ 0
      have rdc : ∀ Q' : VK, Q' (.int 0) H → rIxL K (.ref a) (.int (pre.length : Int)) H Q' := fun Q' q => rd_ixS hS hx q
      walk_at "rd"
      refine rdc _ ?_
      refine ⟨_, _, _, .int 2, rfl, rfl, T.v_PLAIN_NUMBERS H, rfl, ?_⟩
      walk_at "rd"
      refine rdc _ ?_
      walk_at "lit"
      have e : ((pre.length : Int) + 1 + 2) = ((pre.length + 3 : Nat) : Int) := by omega
      rw [e]
      refine rd_ixS (v := vn p.length) hS ?_ ?_
      · rw [List.append_assoc]
        exact at_pre pre _ 3
      · walk_at "rd"
        have e2 : (((pre.length + 3 : Nat) : Int) + 1 + (p.length : Int)) = ((pre.length + (enc (.begin_ w l p)).length : Nat) : Int) := by
          have : (enc (.begin_ w l p)).length = p.length + 4 := by show (intsOf p).length + 4 = _; rw [List.length_map]
          omega
        rw [e2]
        exact k
    | pass d l =>
      have hx : ((pre ++ enc (.pass d l) ++ post).map V.int)[pre.length]? = some (V.int 1) := by
        rw [List.append_assoc]
        exact at_pre pre _ 0
      have rdc : ∀ Q' : VK, Q' (.int 1) H → rIxL K (.ref a) (.int (pre.length : Int)) H Q' := fun Q' q => rd_ixS hS hx q
      walk_at "rd"
      refine rdc _ ?_
      refine ⟨_, _, _, .int 1, rfl, rfl, T.v_PLAIN_NUMBERS H, rfl, ?_⟩
      walk_at "rd"
      refine rdc _ ?_
      walk_at "lit"
      refine rdc _ ?_
      walk_at "lit"
      have e : ((pre.length : Int) + 1 + 1) = ((pre.length + 2 : Nat) : Int) := by omega
      rw [e]
      refine rd_ixS (v := vn l.length) hS ?_ ?_
      · rw [List.append_assoc]
        exact at_pre pre _ 2
      · walk_at "rd"
        have e2 : (((pre.length + 2 : Nat) : Int) + 1 + (l.length : Int)) = ((pre.length + (enc (.pass d l)).length : Nat) : Int) := by
          have : (enc (.pass d l)).length = l.length + 3 := by show (intsOf l).length + 3 = _; rw [List.length_map]
          omega
        rw [e2]
        exact k
    | wish i =>
      have hx : ((pre ++ enc (.wish i) ++ post).map V.int)[pre.length]? = some (V.int 2) := by
        rw [List.append_assoc]
        exact at_pre pre _ 0
      have rdc : ∀ Q' : VK, Q' (.int 2) H → rIxL K (.ref a) (.int (pre.length : Int)) H Q' := fun Q' q => rd_ixS hS hx q
      walk_at "rd"
      refine rdc _ ?_
      refine ⟨_, _, _, .int 1, rfl, rfl, T.v_PLAIN_NUMBERS H, rfl, ?_⟩
      walk_at "rd"
      refine rdc _ ?_
      walk_at "lit"
      refine rdc _ ?_
      walk_at "lit"
      have e2 : ((pre.length : Int) + 1 + 1) = ((pre.length + (enc (.wish i)).length : Nat) : Int) := by
        show _ = ((pre.length + 2 : Nat) : Int)
        omega
      rw [e2]
      exact k
    | renew i =>
      have hx : ((pre ++ enc (.renew i) ++ post).map V.int)[pre.length]? = some (V.int 3) := by
        rw [List.append_assoc]
        exact at_pre pre _ 0
      have rdc : ∀ Q' : VK, Q' (.int 3) H → rIxL K (.ref a) (.int (pre.length : Int)) H Q' := fun Q' q => rd_ixS hS hx q
      walk_at "rd"
      refine rdc _ ?_
      refine ⟨_, _, _, .int 1, rfl, rfl, T.v_PLAIN_NUMBERS H, rfl, ?_⟩
      walk_at "rd"
      refine rdc _ ?_
      walk_at "lit"
      refine rdc _ ?_
      walk_at "lit"
      have e2 : ((pre.length : Int) + 1 + 1) = ((pre.length + (enc (.renew i)).length : Nat) : Int) := by
        show _ = ((pre.length + 2 : Nat) : Int)
        omega
      rw [e2]
      exact k
    | leave i j =>
      have hx : ((pre ++ enc (.leave i j) ++ post).map V.int)[pre.length]? = some (V.int 4) := by
        rw [List.append_assoc]
        exact at_pre pre _ 0
      have rdc : ∀ Q' : VK, Q' (.int 4) H → rIxL K (.ref a) (.int (pre.length : Int)) H Q' := fun Q' q => rd_ixS hS hx q
      walk_at "rd"
      refine rdc _ ?_
      refine ⟨_, _, _, .int 2, rfl, rfl, T.v_PLAIN_NUMBERS H, rfl, ?_⟩
      walk_at "rd"
      refine rdc _ ?_
      walk_at "lit"
      refine rdc _ ?_
      walk_at "lit"
      have e2 : ((pre.length : Int) + 1 + 2) = ((pre.length + (enc (.leave i j)).length : Nat) : Int) := by
        show _ = ((pre.length + 3 : Nat) : Int)
        omega
      rw [e2]
      exact k
    | rank i r =>
      have hx : ((pre ++ enc (.rank i r) ++ post).map V.int)[pre.length]? = some (V.int 5) := by
        rw [List.append_assoc]
        exact at_pre pre _ 0
      have rdc : ∀ Q' : VK, Q' (.int 5) H → rIxL K (.ref a) (.int (pre.length : Int)) H Q' := fun Q' q => rd_ixS hS hx q
      walk_at "rd"
      refine rdc _ ?_
      refine ⟨_, _, _, .int 2, rfl, rfl, T.v_PLAIN_NUMBERS H, rfl, ?_⟩
      walk_at "rd"
      refine rdc _ ?_
      walk_at "lit"
      refine rdc _ ?_
      walk_at "lit"
      have e2 : ((pre.length : Int) + 1 + 2) = ((pre.length + (enc (.rank i r)).length : Nat) : Int) := by
        show _ = ((pre.length + 3 : Nat) : Int)
        omega
      rw [e2]
      exact k
    | take i =>
      have hx : ((pre ++ enc (.take i) ++ post).map V.int)[pre.length]? = some (V.int 6) := by
        rw [List.append_assoc]
        exact at_pre pre _ 0
      have rdc : ∀ Q' : VK, Q' (.int 6) H → rIxL K (.ref a) (.int (pre.length : Int)) H Q' := fun Q' q => rd_ixS hS hx q
      walk_at "rd"
      refine rdc _ ?_
      refine ⟨_, _, _, .int 1, rfl, rfl, T.v_PLAIN_NUMBERS H, rfl, ?_⟩
      walk_at "rd"
      refine rdc _ ?_
      walk_at "lit"
      refine rdc _ ?_
      walk_at "lit"
      have e2 : ((pre.length : Int) + 1 + 1) = ((pre.length + (enc (.take i)).length : Nat) : Int) := by
        show _ = ((pre.length + 2 : Nat) : Int)
        omega
      rw [e2]
      exact k
    | keep i =>
      have hx : ((pre ++ enc (.keep i) ++ post).map V.int)[pre.length]? = some (V.int 7) := by
        rw [List.append_assoc]
        exact at_pre pre _ 0
      have rdc : ∀ Q' : VK, Q' (.int 7) H → rIxL K (.ref a) (.int (pre.length : Int)) H Q' := fun Q' q => rd_ixS hS hx q
      walk_at "rd"
      refine rdc _ ?_
      refine ⟨_, _, _, .int 1, rfl, rfl, T.v_PLAIN_NUMBERS H, rfl, ?_⟩
      walk_at "rd"
      refine rdc _ ?_
      walk_at "lit"
      refine rdc _ ?_
      walk_at "lit"
      have e2 : ((pre.length : Int) + 1 + 1) = ((pre.length + (enc (.keep i)).length : Nat) : Int) := by
        show _ = ((pre.length + 2 : Nat) : Int)
        omega
      rw [e2]
      exact k
    | lose i =>
      have hx : ((pre ++ enc (.lose i) ++ post).map V.int)[pre.length]? = some (V.int 8) := by
        rw [List.append_assoc]
        exact at_pre pre _ 0
      have rdc : ∀ Q' : VK, Q' (.int 8) H → rIxL K (.ref a) (.int (pre.length : Int)) H Q' := fun Q' q => rd_ixS hS hx q
      walk_at "rd"
      refine rdc _ ?_
      refine ⟨_, _, _, .int 1, rfl, rfl, T.v_PLAIN_NUMBERS H, rfl, ?_⟩
      walk_at "rd"
      refine rdc _ ?_
      walk_at "lit"
      refine rdc _ ?_
      walk_at "lit"
      have e2 : ((pre.length : Int) + 1 + 1) = ((pre.length + (enc (.lose i)).length : Nat) : Int) := by
        show _ = ((pre.length + 2 : Nat) : Int)
        omega
      rw [e2]
      exact k
    | halt_ i =>
      have hx : ((pre ++ enc (.halt_ i) ++ post).map V.int)[pre.length]? = some (V.int 9) := by
        rw [List.append_assoc]
        exact at_pre pre _ 0
      have rdc : ∀ Q' : VK, Q' (.int 9) H → rIxL K (.ref a) (.int (pre.length : Int)) H Q' := fun Q' q => rd_ixS hS hx q
      walk_at "rd"
      refine rdc _ ?_
      refine ⟨_, _, _, .int 1, rfl, rfl, T.v_PLAIN_NUMBERS H, rfl, ?_⟩
      walk_at "rd"
      refine rdc _ ?_
      walk_at "lit"
      refine rdc _ ?_
      walk_at "lit"
      have e2 : ((pre.length : Int) + 1 + 1) = ((pre.length + (enc (.halt_ i)).length : Nat) : Int) := by
        show _ = ((pre.length + 2 : Nat) : Int)
        omega
      rw [e2]
      exact k
    | start i =>
      have hx : ((pre ++ enc (.start i) ++ post).map V.int)[pre.length]? = some (V.int 10) := by
        rw [List.append_assoc]
        exact at_pre pre _ 0
      have rdc : ∀ Q' : VK, Q' (.int 10) H → rIxL K (.ref a) (.int (pre.length : Int)) H Q' := fun Q' q => rd_ixS hS hx q
      walk_at "rd"
      refine rdc _ ?_
      refine ⟨_, _, _, .int 1, rfl, rfl, T.v_PLAIN_NUMBERS H, rfl, ?_⟩
      walk_at "rd"
      refine rdc _ ?_
      walk_at "lit"
      refine rdc _ ?_
      walk_at "lit"
      have e2 : ((pre.length : Int) + 1 + 1) = ((pre.length + (enc (.start i)).length : Nat) : Int) := by
        show _ = ((pre.length + 2 : Nat) : Int)
        omega
      rw [e2]
      exact k
    | letters =>
      have hx : ((pre ++ enc (.letters) ++ post).map V.int)[pre.length]? = some (V.int 11) := by
        rw [List.append_assoc]
        exact at_pre pre _ 0
      have rdc : ∀ Q' : VK, Q' (.int 11) H → rIxL K (.ref a) (.int (pre.length : Int)) H Q' := fun Q' q => rd_ixS hS hx q
      walk_at "rd"
      refine rdc _ ?_
      refine ⟨_, _, _, .int 0, rfl, rfl, T.v_PLAIN_NUMBERS H, rfl, ?_⟩
      walk_at "rd"
      refine rdc _ ?_
      walk_at "lit"
      refine rdc _ ?_
      walk_at "lit"
      have e2 : ((pre.length : Int) + 1 + 0) = ((pre.length + (enc (.letters)).length : Nat) : Int) := by
        show _ = ((pre.length + 1 : Nat) : Int)
        omega
      rw [e2]
      exact k
    | node i =>
      have hx : ((pre ++ enc (.node i) ++ post).map V.int)[pre.length]? = some (V.int 12) := by
        rw [List.append_assoc]
        exact at_pre pre _ 0
      have rdc : ∀ Q' : VK, Q' (.int 12) H → rIxL K (.ref a) (.int (pre.length : Int)) H Q' := fun Q' q => rd_ixS hS hx q
      walk_at "rd"
      refine rdc _ ?_
      refine ⟨_, _, _, .int 1, rfl, rfl, T.v_PLAIN_NUMBERS H, rfl, ?_⟩
      walk_at "rd"
      refine rdc _ ?_
      walk_at "lit"
      refine rdc _ ?_
      walk_at "lit"
      have e2 : ((pre.length : Int) + 1 + 1) = ((pre.length + (enc (.node i)).length : Nat) : Int) := by
        show _ = ((pre.length + 2 : Nat) : Int)
        omega
      rw [e2]
      exact k
    | holds =>
      have hx : ((pre ++ enc (.holds) ++ post).map V.int)[pre.length]? = some (V.int 13) := by
        rw [List.append_assoc]
        exact at_pre pre _ 0
      have rdc : ∀ Q' : VK, Q' (.int 13) H → rIxL K (.ref a) (.int (pre.length : Int)) H Q' := fun Q' q => rd_ixS hS hx q
      walk_at "rd"
      refine rdc _ ?_
      refine ⟨_, _, _, .int 0, rfl, rfl, T.v_PLAIN_NUMBERS H, rfl, ?_⟩
      walk_at "rd"
      refine rdc _ ?_
      walk_at "lit"
      refine rdc _ ?_
      walk_at "lit"
      have e2 : ((pre.length : Int) + 1 + 0) = ((pre.length + (enc (.holds)).length : Nat) : Int) := by
        show _ = ((pre.length + 1 : Nat) : Int)
        omega
      rw [e2]
      exact k
    | led =>
      have hx : ((pre ++ enc (.led) ++ post).map V.int)[pre.length]? = some (V.int 14) := by
        rw [List.append_assoc]
        exact at_pre pre _ 0
      have rdc : ∀ Q' : VK, Q' (.int 14) H → rIxL K (.ref a) (.int (pre.length : Int)) H Q' := fun Q' q => rd_ixS hS hx q
      walk_at "rd"
      refine rdc _ ?_
      refine ⟨_, _, _, .int 0, rfl, rfl, T.v_PLAIN_NUMBERS H, rfl, ?_⟩
      walk_at "rd"
      refine rdc _ ?_
      walk_at "lit"
      refine rdc _ ?_
      walk_at "lit"
      have e2 : ((pre.length : Int) + 1 + 0) = ((pre.length + (enc (.led)).length : Nat) : Int) := by
        show _ = ((pre.length + 1 : Nat) : Int)
        omega
      rw [e2]
      exact k
end
end Hfs
namespace Hfs
open PySem PySem.Spec PyProof.Rows L2
set_option hygiene false in
local macro_rules | `(tactic| walk_at "rd") => `(tactic| repeat (first
  | (with_reducible refine rd_seq ?_) | (with_reducible refine rd_next ?_) | (with_reducible refine rd_asg ?_) | (with_reducible refine rd_ret ?_) | (with_reducible refine rd_retN ?_) | (with_reducible refine rd_drop ?_)
  | (with_reducible refine rd_ifS ?_) | (with_reducible refine rd_test ?_) | (with_reducible refine rd_tB ?_) | (with_reducible refine rd_not ?_) | (with_reducible refine rd_and ?_) | (with_reducible refine rd_or ?_)
  | (with_reducible refine rd_andV ?_) | (with_reducible refine rd_orV ?_) | (with_reducible refine rd_notV ?_) | (with_reducible refine rd_if ?_) | (with_reducible refine rd_op ?_) | (with_reducible refine rd_I0 ?_)
  | (with_reducible refine rd_eqI ?_) | (with_reducible refine rd_neI ?_) | (with_reducible refine rd_eqB ?_) | (with_reducible refine rd_nil ?_) | (with_reducible refine rd_cons ?_) | (with_reducible refine rd_call ?_)
  | (with_reducible refine rd_cb ?_) | (with_reducible refine rd_fld ?_) | (with_reducible refine rd_sfld ?_) | (with_reducible refine rd_lst ?_) | (with_reducible refine rd_make ?_) | (with_reducible refine rd_c ?_)
  | (with_reducible refine rd_bm ?_) | (with_reducible refine rd_for ?_) | (with_reducible refine rd_rng1 ?_) | (with_reducible refine rd_gname ?_)
  | ((with_reducible refine' And.intro (tyL ?h1) ?_); (case h1 => assumption))
  | ((with_reducible refine' rd_len ?h1 ?_); (case h1 => assumption))
  | (refine ⟨_, _, (rfl : [V.int _, V.int _] = [V.int _, V.int _]), ?_⟩) | (with_reducible refine rd_ilist ?_) | (with_reducible refine rd_lc ?_) | (with_reducible refine rd_yes ?_) | (with_reducible refine rd_chain ?_)
  | ((with_reducible refine' rd_ilistR ?h1 ?_); (case h1 => assumption))
  | ((with_reducible refine' rd_in ?h1 ?_); (case h1 => assumption)) | (with_reducible refine rd_eqVn ?_) | (with_reducible refine rd_eqVs ?_)
  | (with_reducible refine rd_bl ?_) | (with_reducible refine And.intro (rfl : V.non = V.non) ?_) | (with_reducible refine iteT ?_) | (with_reducible refine iteF ?_)
  | (with_reducible refine ite_rn ?_) | (with_reducible refine ite_nn ?_) | (with_reducible refine ite_nrn ?_) | (with_reducible refine ite_nnn ?_)
  | ((with_reducible refine' rd_var ?h1 ?_); (case h1 => rfl))
  | ((with_reducible refine' rd_fN T ?h1 ?h2 ?h3 ?_); (case h1 => assumption); (case h2 => rfl); (case h3 => decide +kernel))
  | ((with_reducible refine' rd_fW T ?h1 ?h2 ?h3 ?_); (case h1 => assumption); (case h2 => rfl); (case h3 => decide +kernel))
  | ((with_reducible refine' rd_fL T ?h1 ?h2 ?h3 ?_); (case h1 => assumption); (case h2 => rfl); (case h3 => decide +kernel))
  | ((with_reducible refine' rd_fP T ?h1 ?h2 ?h3 ?_); (case h1 => assumption); (case h2 => rfl); (case h3 => decide +kernel))
  | ((with_reducible refine' rd_ixL ?h1 ?h2 ?_); (case h1 => assumption); (case h2 => assumption))
  | ((with_reducible refine' rd_stN T ?h1 ?h2 ?h3 ?_); (case h1 => assumption); (case h2 => rfl); (case h3 => decide +kernel))
  | ((with_reducible refine' rd_stW T ?h1 ?h2 ?h3 ?_); (case h1 => assumption); (case h2 => rfl); (case h3 => decide +kernel))
  | ((with_reducible refine' rd_lstR ?h1 ?_); (case h1 => first | (show 0 ≤ sizeLine; decide +kernel) | (show 1 ≤ sizeLine; decide +kernel) | (show 2 ≤ sizeLine; decide +kernel) | (show 3 ≤ sizeLine; decide +kernel) | (show 4 ≤ sizeLine; decide +kernel) | (show 5 ≤ sizeLine; decide +kernel) | (show 6 ≤ sizeLine; decide +kernel)))
  | (with_reducible refine rd_tup ?_) | ((with_reducible refine' rd_tupR ?h1 ?_); (case h1 => (show 2 ≤ sizeLine; decide +kernel)))
  | (with_reducible refine rd_asgG ?_) | (with_reducible refine rd_gsub ?_) | (with_reducible refine rd_sl ?_) | (with_reducible refine rd_nopart ?_) | (with_reducible refine rd_part ?_) | (with_reducible refine rd_pint ?_) | (with_reducible refine rd_enum ?_)
  | ((with_reducible refine' rd_ix0 ?h1 ?_); (case h1 => assumption)) | ((with_reducible refine' rd_ix1 ?h1 ?_); (case h1 => assumption)) | ((with_reducible refine' rd_ix2 ?h1 ?_); (case h1 => assumption))
  | (with_reducible refine ite_bit ?_)))
set_option hygiene false in
local macro_rules | `(tactic| walk_at "go") => `(tactic| ((try simp only [cxK]); walk_at "rd"))
set_option hygiene false in
local macro_rules | `(tactic| walk_at "lit") => `(tactic| ((repeat (walk_at "rd"; first | (refine ite_decF (by decide) ?_) | (refine ite_decT (by decide) ?_))); walk_at "rd"))
section
variable {P : Program} {w : World} {K : PySem.W.Frag} {mg : Str → Option Value} {base : Heap} {c : Cs}
theorem size_big {n : Nat} (h : n ≤ 10000000) : n ≤ sizeLine := Nat.le_trans h (by decide +kernel)
theorem size_lt {n : Nat} (h : n < 10000000) : n < sizeLine := Nat.lt_of_lt_of_le h (by decide +kernel)
/-- the list that was handed in -/
def CallsAt (K : PySem.W.Frag) (lab : Lab) (H : Hp) (a : Addr) (xs : List V) : Prop := (Rd H a (.lst xs) ∧ lab a = .free) ∨ ∀ H', SqL K H' a xs
theorem CallsAt.sq {lab : Lab} {H : Hp} {a : Addr} {xs : List V} (h : CallsAt K lab H a xs) : SqL K H a xs := by
  rcases h with h | h
  · exact .inl h.1
  · exact h H
theorem CallsAt.keep {S : Tag → Prop} {lab lab' : Lab} {H H' : Hp} {a : Addr} {xs : List V} (h : CallsAt K lab H a xs) (k : Keep S lab H lab' H') (hs : ¬ S .free) : CallsAt K lab' H' a xs := by
  rcases h with ⟨h | ⟨o, h⟩, l⟩ | h
  · exact .inl ⟨.inl (k.kp _ _ h (by rw [l]; exact hs)), (k.lb _ _ h).trans l⟩
  · exact .inl ⟨.inr ⟨o, k.kp _ _ h (by rw [l]; exact hs)⟩, (k.lb _ _ h).trans l⟩
  · exact .inr h
theorem CallsAt.first {H : Hp} {a : Addr} {xs : List V} (h : SqL K H a xs) : CallsAt K (fun _ => .free) H a xs := by
  rcases h with h | h
  · exact .inl ⟨h, rfl⟩
  · exact .inr fun H' => .inr h
/-- the world, if there is one -/
def WV (c : Cs) (lab : Lab) (H : Hp) (n : Nat) (wv : V) : Ag03.Abs → Prop
  | none => wv = .non
  | some s => ∃ w ns, wv = .ref w ∧ Rep c lab H w ns s ∧ s.led.length ≤ n
theorem WV.keep {lab lab' : Lab} {H H' : Hp} {n m : Nat} {wv : V} {o : Ag03.Abs} (h : WV c lab H n wv o) (k : Keep (fun t => t = .top) lab H lab' H') (hm : n ≤ m) : WV c lab' H' m wv o := by
  cases o with
  | none => exact h
  | some s =>
    obtain ⟨w, ns, e, R, hl⟩ := h
    exact ⟨w, ns, e, R.keep k, by omega⟩
theorem Keep.ext {S : Tag → Prop} {lab lab' : Lab} {H H' : Hp} (h : ∀ b o, H b = some o → lab' b = lab b ∧ H' b = some o) : Keep S lab H lab' H' :=
  ⟨fun b o e => (h b o e).1, fun b o e _ => (h b o e).2, fun b o e => ⟨o, (h b o e).2⟩⟩
theorem rd_mkW {H : Hp} {Q : VK} {lab : Lab} {r : Addr} {w l : Nat} {p : List Nat} (hr : H r = some (.lst (p.map vn))) (lr : lab r = .free) (I : WInv (world0 w l p))
    (k : ∀ (x : Addr) (lab' : Lab) (H' : Hp) (ns : List Addr), Rep c lab' H' x ns (world0 w l p) → (∀ b o, H b = some o → lab' b = lab b ∧ H' b = some o) → Q (.ref x) H') : MakeR c.CW (sp_World_init c) [vn w, vn l, .ref r] H Q := by
  intro x dx hx hdx ne
  refine ⟨lab, x, dx, r, w, l, p, rfl, upd_same, ?_, lr, I, fun lab' H' ns R e => ⟨rfl, k x lab' H' ns R fun b o h => ?_⟩⟩
  · rw [upd_ne (ne_of_none hr hx), upd_ne (ne_of_none hr hdx)]
    exact hr
  · exact e b o (by rw [upd_ne (ne_of_none h hx), upd_ne (ne_of_none h hdx)]; exact h) (ne_of_none h hx)
theorem begin_step (o : Ag03.Abs) (w l : Nat) (p : List Nat) : Ag03.step o (.begin_ w l p) = if beginOk w l p = true then (some (world0 w l p), [0]) else (o, [-1]) := by
  unfold beginOk Ag03.step
  dsimp only
  split
  · next h => rw [decide_eq_true h]; rfl
  · next h => rw [decide_eq_false h]; rfl
theorem begin_inv {w l : Nat} {p : List Nat} (h : beginOk w l p = true) : WInv (world0 w l p) := by
  refine step_inv (o := none) (c := .begin_ w l p) (fun s e => by cases e) _ ?_
  rw [begin_step, if_pos h]
/-- what holds ahead of each turn -/
def Turns (K : PySem.W.Frag) (c : Cs) (a tl : Addr) (ns : List Int) (xs : List Ag03.Call) (σ : L2.St) (H : Hp) : Prop :=
  ∃ (done rest : List Ag03.Call) (lab : Lab) (o : Ag03.Abs) (wv : V) (v4 v5 v6 : Option V) (hist : List Int), xs = done ++ rest ∧ σ = [some (.ref a), some wv, some (.ref tl), some (vn (done.flatMap enc).length), v4, v5, v6] ∧
    CallsAt K lab H a (ns.map V.int) ∧ H tl = some (.lst (hist.map V.int)) ∧ lab tl = .top ∧ WV c lab H done.length wv o ∧ PyAg03.answers ns = hist ++ PyFlat.told (run o rest)
def left (ns : List Int) (σ : L2.St) : Nat := match (σ[3]? : Option (Option V)) with
  | some (some (V.int n)) => ns.length - n.toNat
  | _ => 0
theorem ok_answers {f : Addr} {fd : FuncData} (F : Fun K "answers" "answers" s_answers f fd) (T : Txt K mg c) (O_end_of_call : Ok P w K mg base "end_of_call" 1 ["calls", "at"] (sp_end_of_call K)) (O_begin_is_right : Ok P w K mg base "begin_is_right" 2 ["wrong", "long", "weights"] (sp_begin_is_right c)) (M_World : MkOk P w K mg base "World" c.CW 3 ["self", "wrong", "long", "weights"] (sp_World_init c)) (O_answer_in : Ok P w K mg base "answer_in" 10 ["world", "call"] (sp_answer_in c)) : FnOk P w K mg base CX0 11 f fd ["calls"] (sp_answers K) := by
  refine F.ok sc_answers (fun vs H Q E h => ?_) (fun cdv A outer s H vs Q E hr h => ?_)
  · obtain ⟨a, ns, rfl, _⟩ := h
    rfl
  · skip
    obtain ⟨a, ns, rfl, hS, hask, k⟩ := h
    obtain ⟨xs, exs, hbs, h100, eans⟩ := parse hask
    have hshort := parse_short hask
    refine ⟨_, (pss_cons (ps_set (i := 1) sc_answers.nd rfl (Or.inl rfl) pe_non)
    (pss_cons (ps_set (i := 2) sc_answers.nd rfl (Or.inl rfl) (pe_lst pa_nil))
    (pss_cons (ps_set (i := 3) sc_answers.nd rfl (Or.inl rfl) pe_int)
    (pss_cons (ps_while PassesOwn.never (pt_cmpR op_lt (pv 3) (pe_callB call_len_seq (by rfl) T.b_len PySem.boot_len (pa_cons (pv 0) pa_nil)) (nomark _))
    (pss_cons (ps_set (i := 4) sc_answers.nd rfl (Or.inl rfl) (pe_ok O_end_of_call hr (by decide) rfl (pa_cons (pv 0) (pa_cons (pv 3) pa_nil))))
    (pss_cons (ps_set (i := 5) sc_answers.nd rfl (Or.inl rfl) (pe_slice sl_list (pv 0) (po_some (pv 3)) (po_some (pv 4))))
    (pss_cons (ps_set (i := 3) sc_answers.nd rfl (Or.inl rfl) (pv 4))
    (pss_cons (ps_if (PW.pt (pw_and (pt_cmpR op_eq (pe_ix ix_list (pv 5) pe_int (fun _ _ => rfl)) (pe_gint rfl T.g_BEGIN) (nomark _)) (pw_and1 (pt_val (pe_ok O_begin_is_right hr (by decide) rfl (pa_cons (pe_ix ix_list (pv 5) pe_int (fun _ _ => rfl)) (pa_cons (pe_ix ix_list (pv 5) pe_int (fun _ _ => rfl)) (pa_cons (pe_slice sl_list (pv 5) (po_some pe_int) po_none) pa_nil))))))))
    (pss_cons (ps_set (i := 1) sc_answers.nd rfl (Or.inl rfl) (pe_mk M_World hr (by decide) rfl (pa_cons (pe_ix ix_list (pv 5) pe_int (fun _ _ => rfl)) (pa_cons (pe_ix ix_list (pv 5) pe_int (fun _ _ => rfl)) (pa_cons (pe_slice sl_list (pv 5) (po_some pe_int) po_none) pa_nil)))))
    (pss_one (ps_set (i := 6) sc_answers.nd rfl (Or.inl rfl) (pe_lst (pa_cons (pe_gint rfl T.g_DONE) pa_nil)))))
    (pss_one (ps_if (pt_cmpR op_eq (pe_ix ix_list (pv 5) pe_int (fun _ _ => rfl)) (pe_gint rfl T.g_BEGIN) (nomark _))
    (pss_one (ps_set (i := 6) sc_answers.nd rfl (Or.inl rfl) (pe_lst (pa_cons (pe_gint rfl T.g_WRONG) pa_nil))))
    (pss_one (ps_if (pt_cmpR op_isN (pv 1) pe_non (nomark _))
    (pss_one (ps_set (i := 6) sc_answers.nd rfl (Or.inl rfl) (pe_lst (pa_cons (pe_gint rfl T.g_NO_WORLD) pa_nil))))
    (pss_one (ps_set (i := 6) sc_answers.nd rfl (Or.inl rfl) (pe_ok O_answer_in hr (by decide) rfl (pa_cons (pv 1) (pa_cons (pv 5) pa_nil))))))))))
    (pss_cons (ps_expr (pe_bm PySem.F.plainAttrs_list PySem.F.slot_list_append PySem.F.type_list_append mt_append (pv 2) (pa_cons (pe_callB call_len_seq (by rfl) T.b_len PySem.boot_len (pa_cons (pv 6) pa_nil)) pa_nil)))
    (pss_one (ps_expr (pe_bm PySem.F.plainAttrs_list PySem.F.slot_list_extend PySem.F.type_list_extend mt_extend (pv 2) (pa_cons (pv 6) pa_nil))))))))))
    (pss_one (ps_ret (pv 2))))))), ?_⟩
    walk_at "go"
    intro tl G nt ht st
    walk_at "rd"
    refine while_by (Turns K c a tl ns xs) (fun σ _ => left ns σ) ?_ ?_ ?_
    · refine ⟨[], xs, relab (fun _ => .free) tl .top, none, .non, none, none, none, [], rfl, rfl, (CallsAt.first hS).keep (Keep.alloc (S := fun _ => False) nt st) id, ht, relab_same, rfl, ?_⟩
      rw [eans]
      rfl
    · rintro σ H1 ⟨done, rest, lab, o, wv, v4, v5, v6, hist, rfl, rfl, hC, hT, lT, hV, hans⟩
      walk_at "rd"
      refine rd_lenS hC.sq ?_
      walk_at "rd"
      rw [List.length_map]
      refine ite_dec (fun hlt => ?_) (fun hlt => ?_)
      · cases rest with
        | nil => rw [List.append_nil] at exs; rw [exs] at hlt; omega
        | cons x r =>
          have ens : ns = done.flatMap enc ++ enc x ++ r.flatMap enc := by rw [exs, List.flatMap_append, List.flatMap_cons, List.append_assoc]
          have hsz : ns.length = (done.flatMap enc).length + (enc x).length + (r.flatMap enc).length := by
            have := congrArg List.length ens
            rw [List.length_append, List.length_append] at this
            exact this
          have hdn : done.length ≤ 99 := by rw [List.length_append, List.length_cons] at h100; omega
          have hbx : bnd x := hbs x (by simp)
          walk_at "rd"
          refine ⟨a, done.flatMap enc, r.flatMap enc, x, rfl, by rw [← ens]; exact hC.sq, ?_⟩
          walk_at "rd"
          refine rd_slL hC.sq fun q G2 nq hq sq => ?_
          have ec : cutV (ns.map V.int) (some ((done.flatMap enc).length : Int)) (some (((done.flatMap enc).length + (enc x).length : Nat) : Int)) = (enc x).map V.int := by
            rw [cut_mid _ _ _ (Nat.le_add_right _ _) (by rw [List.length_map]; omega), Nat.add_sub_cancel_left, ← List.map_drop, ← List.map_take]
            congr 1
            rw [ens, List.append_assoc, List.drop_left, List.take_left]
          rw [ec] at hq
          have K2 : ∀ S : Tag → Prop, Keep S lab H1 (relab lab q .free) G2 := fun S => Keep.alloc nq sq
          have hC2 := hC.keep (K2 (fun _ => False)) id
          have hT2 := sq _ _ hT
          have ntq : tl ≠ q := ne_of_none hT nq
          have lT2 : relab lab q .free tl = .top := by rw [relab_ne ntq]; exact lT
          have hV2 := hV.keep (K2 _) (Nat.le_refl _)
          walk_at "rd"
          by_cases hbg : isBegin x
          · cases x with
            | begin_ w l p =>
              obtain ⟨hw9, hl2, hp10⟩ : w ≤ 999 ∧ l ≤ 2000 ∧ p.length ≤ 10 := hbx
              have hq1 : G2 q = some (.lst (V.int 0 :: vn w :: vn l :: vn p.length :: p.map vn)) := by rw [hq, ← ints_vn]; rfl
              have ec4 : cutV (V.int 0 :: vn w :: vn l :: vn p.length :: p.map vn) (some 4) none = p.map vn := cut_from 4 _ (by simp)
              have bs := begin_step o w l p
              walk_at "lit"
              refine rd_slL (SqL.of hq1) fun r1 G3 nr1 hr1 sr1 => ?_
              rw [ec4] at hr1
              have hq3 := sr1 _ _ hq1
              have K3 : ∀ S : Tag → Prop, Keep S (relab lab q .free) G2 (relab (relab lab q .free) r1 .free) G3 := fun S => Keep.alloc nr1 sr1
              have hC30 := hC2.keep (K3 (fun _ => False)) id
              have hT30 := sr1 _ _ hT2
              have lT30 : relab (relab lab q .free) r1 .free tl = .top := by rw [relab_ne (ne_of_none hT2 nr1)]; exact lT2
              have hV30 := hV2.keep (K3 _) (Nat.le_refl _)
              walk_at "rd"
              refine ⟨w, l, r1, p, rfl, hr1, hw9, hl2, hp10, ?_⟩
              walk_at "rd"
              refine ite_b (fun eb => ?_) (fun eb => ?_)
              · rw [if_pos eb] at bs
                walk_at "rd"
                refine rd_slL (SqL.of hq3) fun r2 G4 nr2 hr2 sr2 => ?_
                rw [ec4] at hr2
                walk_at "rd"
                refine rd_mkW (lab := relab (relab (relab lab q .free) r1 .free) r2 .free) hr2 relab_same (begin_inv eb) fun wa lab5 H5 ns5 R5 ex5 => ?_
                have K5 : ∀ S : Tag → Prop, Keep S (relab (relab lab q .free) r1 .free) G3 lab5 H5 := fun S => (Keep.alloc nr2 sr2).trans (Keep.ext ex5)
                have hC5 := hC30.keep (K5 (fun _ => False)) id
                have hT5 := (ex5 _ _ (sr2 _ _ hT30)).2
                have lT5 : lab5 tl = .top := ((K5 (fun _ => False)).lb _ _ hT30).trans lT30
                walk_at "rd"
                intro p1 H3 np1 hP3 sp1
                let lab3 := lab5
                have hC3 := hC5.keep (Keep.ofSame (S := fun _ => False) sp1) id
                have hT3 := sp1 _ _ hT5
                have lT3 : lab3 tl = .top := lT5
                have npt : p1 ≠ tl := (ne_of_none hT5 np1).symm
                have hV3 : WV c lab3 H3 (done.length + 1) (.ref wa) (some (world0 w l p)) := ⟨wa, ns5, rfl, R5.same sp1, Nat.zero_le _⟩
                have es := bs
                let x : Ag03.Call := .begin_ w l p
                obtain ⟨ans, eans2⟩ : ∃ ans : List Int, ans = [0] := ⟨_, rfl⟩
                rw [← eans2] at es
                have hP3 : H3 p1 = some (.lst (ans.map V.int)) := by rw [eans2]; exact hP3
                have ea := told_cons o x r es
                rw [ea] at hans
                have hall := congrArg List.length hans
                rw [List.length_append, List.length_append, List.length_cons] at hall
                walk_at "rd"
                refine rd_app hT3 (by rw [List.length_map]; exact size_lt (by omega)) fun H4 h4 u4 => ?_
                have hP4 := u4 _ _ hP3 npt
                walk_at "rd"
                refine rd_ext h4 hP4 (by rw [List.length_append, List.length_map, List.length_map]; exact size_big (by show _ + 1 + _ ≤ _; omega)) fun H5 h5 u5 => ?_
                have kp : Keep (fun t => t = .top) lab3 H3 lab3 H5 := .pres (u4.trans u5) lT3 ⟨_, h5⟩
                walk_at "rd"
                refine ⟨⟨done ++ [x], r, lab3, _, _, some (vn ((done.flatMap enc).length + (enc x).length)), some (.ref q), some (.ref p1), hist ++ ((ans.length : Int) :: ans), by rw [List.append_assoc]; rfl, ?_, hC3.keep kp (fun q => nomatch q), ?_, lT3, hV3.keep kp (by rw [List.length_append]; exact Nat.le_refl _), by rw [hans, List.append_assoc]⟩, ?_⟩
                · rw [List.flatMap_append, List.length_append, List.flatMap_cons, List.flatMap_nil, List.append_nil]
                  rfl
                · rw [h5, List.map_append, List.map_cons, List.length_map, List.append_assoc]
                  rfl
                · show ns.length - ((((done.flatMap enc).length + (enc x).length : Nat) : Int)).toNat < ns.length - (((done.flatMap enc).length : Nat) : Int).toNat
                  rw [Int.toNat_natCast, Int.toNat_natCast]
                  have := enc_pos x
                  omega
              · rw [if_neg (by rw [eb]; exact Bool.false_ne_true)] at bs
                walk_at "lit"
                intro p1 H3 np1 hP3 sp1
                let lab3 := relab (relab lab q .free) r1 .free
                have hC3 := hC30.keep (Keep.ofSame (S := fun _ => False) sp1) id
                have hT3 := sp1 _ _ hT30
                have lT3 : lab3 tl = .top := lT30
                have npt : p1 ≠ tl := (ne_of_none hT30 np1).symm
                have hV3 : WV c lab3 H3 (done.length + 1) wv o := hV30.keep (.ofSame sp1) (Nat.le_succ _)
                have es := bs
                let x : Ag03.Call := .begin_ w l p
                obtain ⟨ans, eans2⟩ : ∃ ans : List Int, ans = [-1] := ⟨_, rfl⟩
                rw [← eans2] at es
                have hP3 : H3 p1 = some (.lst (ans.map V.int)) := by rw [eans2]; exact hP3
                have ea := told_cons o x r es
                rw [ea] at hans
                have hall := congrArg List.length hans
                rw [List.length_append, List.length_append, List.length_cons] at hall
                walk_at "rd"
                refine rd_app hT3 (by rw [List.length_map]; exact size_lt (by omega)) fun H4 h4 u4 => ?_
                have hP4 := u4 _ _ hP3 npt
                walk_at "rd"
                refine rd_ext h4 hP4 (by rw [List.length_append, List.length_map, List.length_map]; exact size_big (by show _ + 1 + _ ≤ _; omega)) fun H5 h5 u5 => ?_
                have kp : Keep (fun t => t = .top) lab3 H3 lab3 H5 := .pres (u4.trans u5) lT3 ⟨_, h5⟩
                walk_at "rd"
                refine ⟨⟨done ++ [x], r, lab3, _, _, some (vn ((done.flatMap enc).length + (enc x).length)), some (.ref q), some (.ref p1), hist ++ ((ans.length : Int) :: ans), by rw [List.append_assoc]; rfl, ?_, hC3.keep kp (fun q => nomatch q), ?_, lT3, hV3.keep kp (by rw [List.length_append]; exact Nat.le_refl _), by rw [hans, List.append_assoc]⟩, ?_⟩
                · rw [List.flatMap_append, List.length_append, List.flatMap_cons, List.flatMap_nil, List.append_nil]
                  rfl
                · rw [h5, List.map_append, List.map_cons, List.length_map, List.append_assoc]
                  rfl
                · show ns.length - ((((done.flatMap enc).length + (enc x).length : Nat) : Int)).toNat < ns.length - (((done.flatMap enc).length : Nat) : Int).toNat
                  rw [Int.toNat_natCast, Int.toNat_natCast]
                  have := enc_pos x
                  omega
            | _ => exact hbg.elim
          · obtain ⟨cd, t, ee, hcd⟩ := enc_cons x hbg
            have hq1 : G2 q = some (.lst (V.int cd :: t.map V.int)) := by rw [hq, ee]; rfl
            walk_at "rd"
            refine ite_decF hcd ?_
            walk_at "rd"
            refine ite_decF hcd ?_
            walk_at "rd"
            cases o with
            | none =>
              have hV0 : wv = .non := hV
              subst hV0
              walk_at "rd"
              intro p1 H3 np1 hP3 sp1
              let lab3 := relab lab q .free
              have hC3 := hC2.keep (Keep.ofSame (S := fun _ => False) sp1) id
              have hT3 := sp1 _ _ hT2
              have lT3 : lab3 tl = .top := lT2
              have npt : p1 ≠ tl := (ne_of_none hT2 np1).symm
              have hV3 : WV c lab3 H3 (done.length + 1) .non none := rfl
              let o : Ag03.Abs := none
              have es : Ag03.step o x = (none, [-9]) := step_none x hbg
              obtain ⟨ans, eans2⟩ : ∃ ans : List Int, ans = [-9] := ⟨_, rfl⟩
              rw [← eans2] at es
              have hP3 : H3 p1 = some (.lst (ans.map V.int)) := by rw [eans2]; exact hP3
              have ea := told_cons o x r es
              rw [ea] at hans
              have hall := congrArg List.length hans
              rw [List.length_append, List.length_append, List.length_cons] at hall
              walk_at "rd"
              refine rd_app hT3 (by rw [List.length_map]; exact size_lt (by omega)) fun H4 h4 u4 => ?_
              have hP4 := u4 _ _ hP3 npt
              walk_at "rd"
              refine rd_ext h4 hP4 (by rw [List.length_append, List.length_map, List.length_map]; exact size_big (by show _ + 1 + _ ≤ _; omega)) fun H5 h5 u5 => ?_
              have kp : Keep (fun t => t = .top) lab3 H3 lab3 H5 := .pres (u4.trans u5) lT3 ⟨_, h5⟩
              walk_at "rd"
              refine ⟨⟨done ++ [x], r, lab3, _, _, some (vn ((done.flatMap enc).length + (enc x).length)), some (.ref q), some (.ref p1), hist ++ ((ans.length : Int) :: ans), by rw [List.append_assoc]; rfl, ?_, hC3.keep kp (fun q => nomatch q), ?_, lT3, hV3.keep kp (by rw [List.length_append]; exact Nat.le_refl _), by rw [hans, List.append_assoc]⟩, ?_⟩
              · rw [List.flatMap_append, List.length_append, List.flatMap_cons, List.flatMap_nil, List.append_nil]
                rfl
              · rw [h5, List.map_append, List.map_cons, List.length_map, List.append_assoc]
                rfl
              · show ns.length - ((((done.flatMap enc).length + (enc x).length : Nat) : Int)).toNat < ns.length - (((done.flatMap enc).length : Nat) : Int).toNat
                rw [Int.toNat_natCast, Int.toNat_natCast]
                have := enc_pos x
                omega
            | some s0 =>
              obtain ⟨w, ns', rfl, R2, hled⟩ := hV2
              walk_at "rd"
              refine ⟨relab lab q .free, w, ns', s0, q, x, rfl, R2, (by show s0.led.length ≤ 100; omega), hq, hbx, ?_, fun p1 s' ans ns3 lab3 H3 es R3 K3 np1 hP3 => ?_⟩
              · cases x <;> first | trivial | exact absurd trivial hbg
              have hC3 := hC2.keep K3 id
              have hT3 := K3.kp _ _ hT2 (by rw [lT2]; exact id)
              have lT3 : lab3 tl = .top := (K3.lb _ _ hT2).trans lT2
              have npt : p1 ≠ tl := (ne_of_none hT2 np1).symm
              have hV3 : WV c lab3 H3 (done.length + 1) (.ref w) (some s') := ⟨w, ns3, rfl, R3, by have := step_led es; omega⟩
              let o : Ag03.Abs := some s0
              have ea := told_cons o x r es
              rw [ea] at hans
              have hall := congrArg List.length hans
              rw [List.length_append, List.length_append, List.length_cons] at hall
              walk_at "rd"
              refine rd_app hT3 (by rw [List.length_map]; exact size_lt (by omega)) fun H4 h4 u4 => ?_
              have hP4 := u4 _ _ hP3 npt
              walk_at "rd"
              refine rd_ext h4 hP4 (by rw [List.length_append, List.length_map, List.length_map]; exact size_big (by show _ + 1 + _ ≤ _; omega)) fun H5 h5 u5 => ?_
              have kp : Keep (fun t => t = .top) lab3 H3 lab3 H5 := .pres (u4.trans u5) lT3 ⟨_, h5⟩
              walk_at "rd"
              refine ⟨⟨done ++ [x], r, lab3, _, _, some (vn ((done.flatMap enc).length + (enc x).length)), some (.ref q), some (.ref p1), hist ++ ((ans.length : Int) :: ans), by rw [List.append_assoc]; rfl, ?_, hC3.keep kp (fun q => nomatch q), ?_, lT3, hV3.keep kp (by rw [List.length_append]; exact Nat.le_refl _), by rw [hans, List.append_assoc]⟩, ?_⟩
              · rw [List.flatMap_append, List.length_append, List.flatMap_cons, List.flatMap_nil, List.append_nil]
                rfl
              · rw [h5, List.map_append, List.map_cons, List.length_map, List.append_assoc]
                rfl
              · show ns.length - ((((done.flatMap enc).length + (enc x).length : Nat) : Int)).toNat < ns.length - (((done.flatMap enc).length : Nat) : Int).toNat
                rw [Int.toNat_natCast, Int.toNat_natCast]
                have := enc_pos x
                omega
      · cases rest with
        | cons x r =>
          have := enc_pos x
          have := congrArg List.length exs
          rw [List.flatMap_append, List.flatMap_cons, List.length_append, List.length_append] at this
          omega
        | nil =>
          walk_at "rd"
          have e : PyAg03.answers ns = hist := by rw [hans]; exact List.append_nil _
          exact k H1 tl (by rw [e]; exact hT)
    · intro σ H Q Q' m h
      obtain ⟨v, e1, w, e2, a, ys, e3, e4, i, j, e5, e6, k, e7, q⟩ := h
      exact ⟨v, e1, w, e2, a, ys, e3, e4, i, j, e5, e6, k, e7, m _ _ q⟩
end
end Hfs
namespace Hfs
open PySem PySem.Spec PyProof.Rows L2
/-! ### what the top has written -/
structure DefAt (K : PySem.W.Frag) (mg : Str → Option Value) (x : Str) (st : Stmt) (ps : List Str) : Prop where
  ex : ∃ (f : Addr) (fd : FuncData), Fun K x x st f fd ∧ mg x = some (.ref f) ∧ Binds K fd ps []
theorem def_mk {K : PySem.W.Frag} {h : Heap} {mg : Str → Option Value} {x : Str} {st : Stmt} {ps : List Str} {f : Addr} {oc : Value} {od an : Option Addr} {osl : Array (Option Value)} {kV doc pm cdv ct : Value} (X : K.In h) (G : h.Ns mainGlobals mg)
    (a : PySem.W.nsIn K mainGlobals x = some (some (.ref f))) (l : K.lookup f = some ⟨oc, od, .func (PySem.W.fnOf x x (defArgs st) (defBody st) (defScope st) .none kV doc pm an cdv ct), osl⟩) (cc : PySem.W.codeIn K cdv x = true) (k : PySem.W.keepIn K (.ref f) = true)
    (hb : ∀ (kV doc pm : Value) (an : Option Addr) (cdv ct : Value) (us : List Value), us.length = ps.length → bindArgs (PySem.W.fnOf x x (defArgs st) (defBody st) (defScope st) .none kV doc pm an cdv ct) ⟨us, []⟩ = pure (ps.zip us)) : DefAt K mg x st ps :=
  ⟨f, _, fun_mk l cc k, PySem.W.mg_of X G a, (fun_mk l cc k).binds hb⟩
theorem DefAt.ok {P : Program} {w : World} {K : PySem.W.Frag} {mg : Str → Option Value} {base : Heap} {x : Str} {st : Stmt} {ps : List Str} {k : Nat} {sp : Sp} (D : DefAt K mg x st ps) (h : ∀ (f : Addr) (fd : FuncData), Fun K x x st f fd → FnOk P w K mg base CX0 k f fd ps sp) : Ok P w K mg base x k ps sp := by
  obtain ⟨f, fd, F, hm, hb⟩ := D.ex
  exact ⟨f, fd, h f fd F, hm, F.kp, hb⟩
structure ClsAt (K : PySem.W.Frag) (mg : Str → Option Value) (x qual : Str) (C : Addr) (st : Stmt) (ps : List Str) : Prop where
  cl : Cls K C
  gl : mg x = some (.ref C)
  ex : ∃ (f : Addr) (fd : FuncData), Fun K "__init__" qual st f fd ∧ Mk K C f ∧ Binds K fd ps []
theorem cls_mk {K : PySem.W.Frag} {h : Heap} {mg : Str → Option Value} {x qual : Str} {C : Addr} {st : Stmt} {ps : List Str} {f : Addr} {oc : Value} {od an : Option Addr} {osl : Array (Option Value)} {kV doc pm cdv ct : Value} (X : K.In h) (G : h.Ns mainGlobals mg)
    (a : PySem.W.nsIn K mainGlobals x = some (some (.ref C))) (a1 : PySem.W.findIn K (.ref C) "__init__" = some (some (.ref f))) (i1 : PySem.W.isFn K (.ref f) = true)
    (l : K.lookup f = some ⟨oc, od, .func (PySem.W.fnOf "__init__" qual (defArgs st) (defBody st) (defScope st) .none kV doc pm an cdv ct), osl⟩) (cc : PySem.W.codeIn K cdv qual = true) (k : PySem.W.keepIn K (.ref f) = true)
    (pg : PySem.W.plainGet K C Str.empty = true) (hd : PySem.W.hasDictIn K C = true) (po : PySem.W.plainOver K C = true) (sa : PySem.W.findIn K (.ref C) "__setattr__" = some (some (.builtin "object.__setattr__"))) (mk : PySem.W.makesIn K C = true) (kc : PySem.W.keepIn K (.ref C) = true)
    (hb : ∀ (kV doc pm : Value) (an : Option Addr) (cdv ct : Value) (us : List Value), us.length = ps.length → bindArgs (PySem.W.fnOf "__init__" qual (defArgs st) (defBody st) (defScope st) .none kV doc pm an cdv ct) ⟨us, []⟩ = pure (ps.zip us)) : ClsAt K mg x qual C st ps :=
  ⟨⟨pg, hd, po, sa⟩, PySem.W.mg_of X G a, f, _, fun_mk l cc k, ⟨mk, a1, i1, kc⟩, (fun_mk l cc k).binds hb⟩
theorem ClsAt.ok {P : Program} {w : World} {K : PySem.W.Frag} {mg : Str → Option Value} {base : Heap} {x qual : Str} {C : Addr} {st : Stmt} {ps : List Str} {k : Nat} {sp : Sp} (D : ClsAt K mg x qual C st ps) (h : ∀ (f : Addr) (fd : FuncData), Fun K "__init__" qual st f fd → FnOk P w K mg base CX0 k f fd ps sp) : MkOk P w K mg base x C k ps sp := by
  obtain ⟨f, fd, F, M, hb⟩ := D.ex
  exact ⟨⟨f, fd, M, h f fd F, hb⟩, D.gl⟩
theorem noP_mk {K : PySem.W.Frag} {C : Addr} (h0 : PySem.W.findIn K (.ref C) "whom" = some none) (h1 : PySem.W.findIn K (.ref C) "term" = some none) (h2 : PySem.W.findIn K (.ref C) "until" = some none) : ∀ f ∈ fldsP, NoAttr K C f := by
  intro f hf
  rcases List.mem_cons.mp hf with rfl | hf
  · exact h0
  rcases List.mem_cons.mp hf with rfl | hf
  · exact h1
  · rcases List.mem_cons.mp hf with rfl | hf
    · exact h2
    · cases hf
theorem noL_mk {K : PySem.W.Frag} {C : Addr} (h0 : PySem.W.findIn K (.ref C) "kind" = some none) (h1 : PySem.W.findIn K (.ref C) "whom" = some none) (h2 : PySem.W.findIn K (.ref C) "sender" = some none) (h3 : PySem.W.findIn K (.ref C) "term" = some none) (h4 : PySem.W.findIn K (.ref C) "number" = some none) (h5 : PySem.W.findIn K (.ref C) "yes" = some none) : ∀ f ∈ fldsL, NoAttr K C f := by
  intro f hf
  rcases List.mem_cons.mp hf with rfl | hf
  · exact h0
  rcases List.mem_cons.mp hf with rfl | hf
  · exact h1
  rcases List.mem_cons.mp hf with rfl | hf
  · exact h2
  rcases List.mem_cons.mp hf with rfl | hf
  · exact h3
  rcases List.mem_cons.mp hf with rfl | hf
  · exact h4
  · rcases List.mem_cons.mp hf with rfl | hf
    · exact h5
    · cases hf
theorem noN_mk {K : PySem.W.Frag} {C : Addr} (h0 : PySem.W.findIn K (.ref C) "runs" = some none) (h1 : PySem.W.findIn K (.ref C) "clock" = some none) (h2 : PySem.W.findIn K (.ref C) "term" = some none) (h3 : PySem.W.findIn K (.ref C) "voted" = some none) (h4 : PySem.W.findIn K (.ref C) "rank" = some none) (h5 : PySem.W.findIn K (.ref C) "state" = some none) (h6 : PySem.W.findIn K (.ref C) "promise" = some none) (h7 : PySem.W.findIn K (.ref C) "still_until" = some none) (h8 : PySem.W.findIn K (.ref C) "would" = some none) (h9 : PySem.W.findIn K (.ref C) "votes" = some none) (h10 : PySem.W.findIn K (.ref C) "round_number" = some none) (h11 : PySem.W.findIn K (.ref C) "round_begun" = some none) (h12 : PySem.W.findIn K (.ref C) "given" = some none) (h13 : PySem.W.findIn K (.ref C) "holds_until" = some none) : ∀ f ∈ fldsN, NoAttr K C f := by
  intro f hf
  rcases List.mem_cons.mp hf with rfl | hf
  · exact h0
  rcases List.mem_cons.mp hf with rfl | hf
  · exact h1
  rcases List.mem_cons.mp hf with rfl | hf
  · exact h2
  rcases List.mem_cons.mp hf with rfl | hf
  · exact h3
  rcases List.mem_cons.mp hf with rfl | hf
  · exact h4
  rcases List.mem_cons.mp hf with rfl | hf
  · exact h5
  rcases List.mem_cons.mp hf with rfl | hf
  · exact h6
  rcases List.mem_cons.mp hf with rfl | hf
  · exact h7
  rcases List.mem_cons.mp hf with rfl | hf
  · exact h8
  rcases List.mem_cons.mp hf with rfl | hf
  · exact h9
  rcases List.mem_cons.mp hf with rfl | hf
  · exact h10
  rcases List.mem_cons.mp hf with rfl | hf
  · exact h11
  rcases List.mem_cons.mp hf with rfl | hf
  · exact h12
  · rcases List.mem_cons.mp hf with rfl | hf
    · exact h13
    · cases hf
theorem noW_mk {K : PySem.W.Frag} {C : Addr} (h0 : PySem.W.findIn K (.ref C) "wrong" = some none) (h1 : PySem.W.findIn K (.ref C) "long" = some none) (h2 : PySem.W.findIn K (.ref C) "span" = some none) (h3 : PySem.W.findIn K (.ref C) "weights" = some none) (h4 : PySem.W.findIn K (.ref C) "true_time" = some none) (h5 : PySem.W.findIn K (.ref C) "nodes" = some none) (h6 : PySem.W.findIn K (.ref C) "row" = some none) (h7 : PySem.W.findIn K (.ref C) "led" = some none) : ∀ f ∈ fldsW, NoAttr K C f := by
  intro f hf
  rcases List.mem_cons.mp hf with rfl | hf
  · exact h0
  rcases List.mem_cons.mp hf with rfl | hf
  · exact h1
  rcases List.mem_cons.mp hf with rfl | hf
  · exact h2
  rcases List.mem_cons.mp hf with rfl | hf
  · exact h3
  rcases List.mem_cons.mp hf with rfl | hf
  · exact h4
  rcases List.mem_cons.mp hf with rfl | hf
  · exact h5
  rcases List.mem_cons.mp hf with rfl | hf
  · exact h6
  · rcases List.mem_cons.mp hf with rfl | hf
    · exact h7
    · cases hf
theorem gtup_mk {K : PySem.W.Frag} {h : Heap} {mg : Str → Option Value} {x : Str} {a : Addr} {od : Option Addr} {its : Array Value} {n : Nat} {sl : Array (Option Value)} {xs : List V} (X : K.In h) (G : h.Ns mainGlobals mg) (g : PySem.W.nsIn K mainGlobals x = some (some (.ref a))) (l : K.lookup a = some ⟨.type "tuple", od, .seq its n, sl⟩) (hs : its.size ≤ sizeLine) (v : Vals xs its.toList) : ∃ a, mg x = some (.ref a) ∧ ∀ H : Hp, SqT K H a xs := ⟨a, PySem.W.mg_of X G g, fun H => Or.inr ⟨_, its, n, l, rfl, rfl, hs, v⟩⟩
theorem gint_mk {K : PySem.W.Frag} {h : Heap} {mg : Str → Option Value} {x : Str} {n : Int} {t : Nat} (X : K.In h) (G : h.Ns mainGlobals mg) (a : PySem.W.nsIn K mainGlobals x = some (some (.int n t))) : ∃ t, mg x = some (.int n t) := ⟨t, PySem.W.mg_of X G a⟩
theorem all_mk {P : Program} {w : World} {K : PySem.W.Frag} {h : Heap} {mg : Str → Option Value} {fa : Addr} (X : K.In h) (G : h.Ns mainGlobals mg) (hfa : mg "answers" = some (.ref fa))
    (DPromise : ∃ C, ClsAt K mg "Promise" "Promise.__init__" C s_Promise_init ["self", "whom", "term", "until"] ∧ ∀ f ∈ fldsP, NoAttr K C f)
    (DLetter : ∃ C, ClsAt K mg "Letter" "Letter.__init__" C s_Letter_init ["self", "kind", "whom", "sender", "term", "number", "yes"] ∧ ∀ f ∈ fldsL, NoAttr K C f)
    (DNode : ∃ C, ClsAt K mg "Node" "Node.__init__" C s_Node_init ["self"] ∧ ∀ f ∈ fldsN, NoAttr K C f)
    (DWorld : ∃ C, ClsAt K mg "World" "World.__init__" C s_World_init ["self", "wrong", "long", "weights"] ∧ ∀ f ∈ fldsW, NoAttr K C f)
    (D_span_of : DefAt K mg "span_of" s_span_of ["wrong", "long"])
    (D_is_most : DefAt K mg "is_most" s_is_most ["world", "members"])
    (D_is_bound : DefAt K mg "is_bound" s_is_bound ["node", "against"])
    (D_holds_now : DefAt K mg "holds_now" s_holds_now ["node"])
    (D_hear_of_term : DefAt K mg "hear_of_term" s_hear_of_term ["node", "term"])
    (D_send : DefAt K mg "send" s_send ["world", "letter"])
    (D_send_to_others : DefAt K mg "send_to_others" s_send_to_others ["world", "sender", "kind", "term", "number", "yes_to"])
    (D_begin_wish : DefAt K mg "begin_wish" s_begin_wish ["world", "place"])
    (D_ask_if_most_would : DefAt K mg "ask_if_most_would" s_ask_if_most_would ["world", "place"])
    (D_ask : DefAt K mg "ask" s_ask ["world", "place"])
    (D_lead : DefAt K mg "lead" s_lead ["world", "place"])
    (D_promise_to : DefAt K mg "promise_to" s_promise_to ["world", "node", "whom", "term"])
    (D_begin_round : DefAt K mg "begin_round" s_begin_round ["world", "place"])
    (D_hold_if_most_gave : DefAt K mg "hold_if_most_gave" s_hold_if_most_gave ["world", "node"])
    (D_let_go : DefAt K mg "let_go" s_let_go ["world", "place", "heir"])
    (D_begin_anew : DefAt K mg "begin_anew" s_begin_anew ["world", "place"])
    (D_hand_over : DefAt K mg "hand_over" s_hand_over ["world", "letter"])
    (D_reply : DefAt K mg "reply" s_reply ["world", "letter", "kind", "term", "number", "yes"])
    (D_get_would_you : DefAt K mg "get_would_you" s_get_would_you ["world", "letter"])
    (D_get_would : DefAt K mg "get_would" s_get_would ["world", "letter"])
    (D_get_vote : DefAt K mg "get_vote" s_get_vote ["world", "letter"])
    (D_get_voted : DefAt K mg "get_voted" s_get_voted ["world", "letter"])
    (D_get_promise : DefAt K mg "get_promise" s_get_promise ["world", "letter"])
    (D_get_promised : DefAt K mg "get_promised" s_get_promised ["world", "letter"])
    (D_get_free : DefAt K mg "get_free" s_get_free ["world", "letter"])
    (D_with_length : DefAt K mg "with_length" s_with_length ["members"])
    (D_report_letters : DefAt K mg "report_letters" s_report_letters ["world"])
    (D_report_node : DefAt K mg "report_node" s_report_node ["node"])
    (D_report_promise : DefAt K mg "report_promise" s_report_promise ["node"])
    (D_report_holding : DefAt K mg "report_holding" s_report_holding ["world"])
    (D_report_led : DefAt K mg "report_led" s_report_led ["world"])
    (D_end_of_call : DefAt K mg "end_of_call" s_end_of_call ["calls", "at"])
    (D_answer_in : DefAt K mg "answer_in" s_answer_in ["world", "call"])
    (D_carry_out : DefAt K mg "carry_out" s_carry_out ["world", "call"])
    (D_begin_is_right : DefAt K mg "begin_is_right" s_begin_is_right ["wrong", "long", "weights"])
    (D_elapse : DefAt K mg "elapse" s_elapse ["world", "passed", "clocks"])
    (D_clock_may_go : DefAt K mg "clock_may_go" s_clock_may_go ["world", "passed", "clock"])
    (D_wish : DefAt K mg "wish" s_wish ["world", "place"])
    (D_renew : DefAt K mg "renew" s_renew ["world", "place"])
    (D_leave : DefAt K mg "leave" s_leave ["world", "place", "heir"])
    (D_refusal_of : DefAt K mg "refusal_of" s_refusal_of ["world", "place", "must_lead"])
    (D_raise_rank : DefAt K mg "raise_rank" s_raise_rank ["world", "place", "rank"])
    (D_take : DefAt K mg "take" s_take ["world", "place"])
    (D_keep : DefAt K mg "keep" s_keep ["world", "place"])
    (D_lose : DefAt K mg "lose" s_lose ["world", "place"])
    (D_stop : DefAt K mg "stop" s_stop ["world", "place"])
    (D_start : DefAt K mg "start" s_start ["world", "place"])
    (g_NOBODY : ∃ t, mg "NOBODY" = some (.int (-1) t))
    (g_FOLLOWS : ∃ t, mg "FOLLOWS" = some (.int (0) t))
    (g_LEADS : ∃ t, mg "LEADS" = some (.int (2) t))
    (g_ROOM : ∃ t, mg "ROOM" = some (.int (100) t))
    (g_WOULD_YOU : ∃ t, mg "WOULD_YOU" = some (.int (0) t))
    (g_NOT_MOST_YET : ∃ t, mg "NOT_MOST_YET" = some (.int (2) t))
    (g_ASKS : ∃ t, mg "ASKS" = some (.int (1) t))
    (g_ASKS_NOW : ∃ t, mg "ASKS_NOW" = some (.int (3) t))
    (g_VOTE : ∃ t, mg "VOTE" = some (.int (2) t))
    (g_LEADS_NOW : ∃ t, mg "LEADS_NOW" = some (.int (4) t))
    (g_PROMISE : ∃ t, mg "PROMISE" = some (.int (4) t))
    (g_FREE : ∃ t, mg "FREE" = some (.int (6) t))
    (g_NO_USE : ∃ t, mg "NO_USE" = some (.int (0) t))
    (g_WOULD : ∃ t, mg "WOULD" = some (.int (1) t))
    (g_VOTED : ∃ t, mg "VOTED" = some (.int (3) t))
    (g_PROMISED : ∃ t, mg "PROMISED" = some (.int (5) t))
    (g_ANSWERED : ∃ t, mg "ANSWERED" = some (.int (1) t))
    (g_COUNTED : ∃ t, mg "COUNTED" = some (.int (2) t))
    (g_HEARD_OF_TERM : ∃ t, mg "HEARD_OF_TERM" = some (.int (6) t))
    (g_HOLDS_LATER : ∃ t, mg "HOLDS_LATER" = some (.int (5) t))
    (g_PROMISE_GONE : ∃ t, mg "PROMISE_GONE" = some (.int (7) t))
    (g_NO_WISH : ∃ t, mg "NO_WISH" = some (.int (-1) t))
    (g_NO_PROMISE : ∃ a, mg "NO_PROMISE" = some (.ref a) ∧ ∀ H : Hp, SqT K H a (([-1, -1, -1] : List Int).map V.int))
    (g_BEGIN : ∃ t, mg "BEGIN" = some (.int (0) t))
    (g_DONE : ∃ t, mg "DONE" = some (.int (0) t))
    (g_WRONG : ∃ t, mg "WRONG" = some (.int (-1) t))
    (g_NO_WORLD : ∃ t, mg "NO_WORLD" = some (.int (-9) t))
    (g_PLAIN_NUMBERS : ∃ a, mg "PLAIN_NUMBERS" = some (.ref a) ∧ ∀ H : Hp, SqT K H a (([2, 1, 1, 1, 2, 2, 1, 1, 1, 1, 1, 0, 1, 0, 0] : List Int).map V.int))
    (g_ELAPSE : ∃ t, mg "ELAPSE" = some (.int (1) t))
    (g_LETTERS : ∃ t, mg "LETTERS" = some (.int (11) t))
    (g_NODE : ∃ t, mg "NODE" = some (.int (12) t))
    (g_HOLDS : ∃ t, mg "HOLDS" = some (.int (13) t))
    (g_WISH : ∃ t, mg "WISH" = some (.int (2) t))
    (g_RENEW : ∃ t, mg "RENEW" = some (.int (3) t))
    (g_LEAVE : ∃ t, mg "LEAVE" = some (.int (4) t))
    (g_RANK : ∃ t, mg "RANK" = some (.int (5) t))
    (g_TAKE : ∃ t, mg "TAKE" = some (.int (6) t))
    (g_KEEP : ∃ t, mg "KEEP" = some (.int (7) t))
    (g_LOSE : ∃ t, mg "LOSE" = some (.int (8) t))
    (g_STOP : ∃ t, mg "STOP" = some (.int (9) t))
    (g_STOPPED : ∃ t, mg "STOPPED" = some (.int (-3) t))
    (g_UNFIT : ∃ t, mg "UNFIT" = some (.int (-2) t))
    (b_sum : mg "sum" = none)
    (b_len : mg "len" = none)
    (b_range : mg "range" = none)
    (b_max : mg "max" = none)
    (b_list : mg "list" = none)
    (b_enumerate : mg "enumerate" = none)
    (b_zip : mg "zip" = none)
    (b_all : mg "all" = none)
    {f : Addr} {oc : Value} {od an : Option Addr} {osl : Array (Option Value)} {kV doc pm cdv ct : Value}
    (ta : PySem.W.nsIn K mainGlobals "answers" = some (some (.ref f))) (tl : K.lookup f = some ⟨oc, od, .func (PySem.W.fnOf "answers" "answers" (defArgs s_answers) (defBody s_answers) (defScope s_answers) .none kV doc pm an cdv ct), osl⟩) (tc : PySem.W.codeIn K cdv "answers" = true) (tk : PySem.W.keepIn K (.ref f) = true) :
    ∃ fd : FuncData, (∀ (s : Shared) (us : List Value), us.length = (["calls"] : List Str).length → BindsTo s fd ⟨us, []⟩ ((["calls"] : List Str).zip us)) ∧ ∀ base : Heap, K.In base → base.Ns mainGlobals mg → FnOk P w K mg base CX0 11 fa fd ["calls"] (sp_answers K) := by
  have e := hfa.symm.trans (PySem.W.mg_of X G ta)
  cases e
  have F0 := fun_mk (st := s_answers) tl tc tk
  obtain ⟨CPromise, DPromise, noPromise⟩ := DPromise
  obtain ⟨CLetter, DLetter, noLetter⟩ := DLetter
  obtain ⟨CNode, DNode, noNode⟩ := DNode
  obtain ⟨CWorld, DWorld, noWorld⟩ := DWorld
  obtain ⟨a_NO_PROMISE, g_NO_PROMISE, v_NO_PROMISE⟩ := g_NO_PROMISE
  obtain ⟨a_PLAIN_NUMBERS, g_PLAIN_NUMBERS, v_PLAIN_NUMBERS⟩ := g_PLAIN_NUMBERS
  have T : Txt K mg ⟨CPromise, CLetter, CNode, CWorld, a_NO_PROMISE, a_PLAIN_NUMBERS⟩ := ⟨DPromise.cl, noPromise, DLetter.cl, noLetter, DNode.cl, noNode, DWorld.cl, noWorld, g_NOBODY, g_FOLLOWS, g_LEADS, g_ROOM, g_WOULD_YOU, g_NOT_MOST_YET, g_ASKS, g_ASKS_NOW, g_VOTE, g_LEADS_NOW, g_PROMISE, g_FREE, g_NO_USE, g_WOULD, g_VOTED, g_PROMISED, g_ANSWERED, g_COUNTED, g_HEARD_OF_TERM, g_HOLDS_LATER, g_PROMISE_GONE, g_NO_WISH, g_NO_PROMISE, v_NO_PROMISE, g_BEGIN, g_DONE, g_WRONG, g_NO_WORLD, g_PLAIN_NUMBERS, v_PLAIN_NUMBERS, g_ELAPSE, g_LETTERS, g_NODE, g_HOLDS, g_WISH, g_RENEW, g_LEAVE, g_RANK, g_TAKE, g_KEEP, g_LOSE, g_STOP, g_STOPPED, g_UNFIT, b_sum, b_len, b_range, b_max, b_list, b_enumerate, b_zip, b_all⟩
  refine ⟨PySem.W.fnOf "answers" "answers" (defArgs s_answers) (defBody s_answers) (defScope s_answers) .none kV doc pm an cdv ct, fun s us hu => match us, hu with | [_], _ => .of_eq rfl, fun base _ _ => ?_⟩
  have M_Promise : MkOk P w K mg base "Promise" CPromise 1 ["self", "whom", "term", "until"] (sp_Promise_init ⟨CPromise, CLetter, CNode, CWorld, a_NO_PROMISE, a_PLAIN_NUMBERS⟩) := DPromise.ok (fun f fd F => ok_Promise_init F T )
  have M_Letter : MkOk P w K mg base "Letter" CLetter 1 ["self", "kind", "whom", "sender", "term", "number", "yes"] (sp_Letter_init ⟨CPromise, CLetter, CNode, CWorld, a_NO_PROMISE, a_PLAIN_NUMBERS⟩) := DLetter.ok (fun f fd F => ok_Letter_init F T )
  have M_Node : MkOk P w K mg base "Node" CNode 1 ["self"] (sp_Node_init ⟨CPromise, CLetter, CNode, CWorld, a_NO_PROMISE, a_PLAIN_NUMBERS⟩) := DNode.ok (fun f fd F => ok_Node_init F T )
  have O_span_of : Ok P w K mg base "span_of" 1 ["wrong", "long"] (sp_span_of ⟨CPromise, CLetter, CNode, CWorld, a_NO_PROMISE, a_PLAIN_NUMBERS⟩) := D_span_of.ok (fun f fd F => ok_span_of F T )
  have O_is_most : Ok P w K mg base "is_most" 1 ["world", "members"] (sp_is_most ⟨CPromise, CLetter, CNode, CWorld, a_NO_PROMISE, a_PLAIN_NUMBERS⟩) := D_is_most.ok (fun f fd F => ok_is_most F T )
  have O_is_bound : Ok P w K mg base "is_bound" 1 ["node", "against"] (sp_is_bound ⟨CPromise, CLetter, CNode, CWorld, a_NO_PROMISE, a_PLAIN_NUMBERS⟩) := D_is_bound.ok (fun f fd F => ok_is_bound F T )
  have O_holds_now : Ok P w K mg base "holds_now" 1 ["node"] (sp_holds_now ⟨CPromise, CLetter, CNode, CWorld, a_NO_PROMISE, a_PLAIN_NUMBERS⟩) := D_holds_now.ok (fun f fd F => ok_holds_now F T )
  have O_hear_of_term : Ok P w K mg base "hear_of_term" 1 ["node", "term"] (sp_hear_of_term ⟨CPromise, CLetter, CNode, CWorld, a_NO_PROMISE, a_PLAIN_NUMBERS⟩) := D_hear_of_term.ok (fun f fd F => ok_hear_of_term F T )
  have O_send : Ok P w K mg base "send" 1 ["world", "letter"] (sp_send ⟨CPromise, CLetter, CNode, CWorld, a_NO_PROMISE, a_PLAIN_NUMBERS⟩) := D_send.ok (fun f fd F => ok_send F T )
  have O_lead : Ok P w K mg base "lead" 1 ["world", "place"] (sp_lead ⟨CPromise, CLetter, CNode, CWorld, a_NO_PROMISE, a_PLAIN_NUMBERS⟩) := D_lead.ok (fun f fd F => ok_lead F T )
  have O_with_length : Ok P w K mg base "with_length" 1 ["members"] (sp_with_length ⟨CPromise, CLetter, CNode, CWorld, a_NO_PROMISE, a_PLAIN_NUMBERS⟩) := D_with_length.ok (fun f fd F => ok_with_length F T )
  have O_report_letters : Ok P w K mg base "report_letters" 1 ["world"] (sp_report_letters ⟨CPromise, CLetter, CNode, CWorld, a_NO_PROMISE, a_PLAIN_NUMBERS⟩) := D_report_letters.ok (fun f fd F => ok_report_letters F T )
  have O_report_promise : Ok P w K mg base "report_promise" 1 ["node"] (sp_report_promise ⟨CPromise, CLetter, CNode, CWorld, a_NO_PROMISE, a_PLAIN_NUMBERS⟩) := D_report_promise.ok (fun f fd F => ok_report_promise F T )
  have O_report_led : Ok P w K mg base "report_led" 1 ["world"] (sp_report_led ⟨CPromise, CLetter, CNode, CWorld, a_NO_PROMISE, a_PLAIN_NUMBERS⟩) := D_report_led.ok (fun f fd F => ok_report_led F T )
  have O_end_of_call : Ok P w K mg base "end_of_call" 1 ["calls", "at"] (sp_end_of_call K) := D_end_of_call.ok (fun f fd F => ok_end_of_call F T )
  have O_clock_may_go : Ok P w K mg base "clock_may_go" 1 ["world", "passed", "clock"] (sp_clock_may_go ⟨CPromise, CLetter, CNode, CWorld, a_NO_PROMISE, a_PLAIN_NUMBERS⟩) := D_clock_may_go.ok (fun f fd F => ok_clock_may_go F T )
  have O_refusal_of : Ok P w K mg base "refusal_of" 1 ["world", "place", "must_lead"] (sp_refusal_of ⟨CPromise, CLetter, CNode, CWorld, a_NO_PROMISE, a_PLAIN_NUMBERS⟩) := D_refusal_of.ok (fun f fd F => ok_refusal_of F T )
  have O_raise_rank : Ok P w K mg base "raise_rank" 1 ["world", "place", "rank"] (sp_raise_rank ⟨CPromise, CLetter, CNode, CWorld, a_NO_PROMISE, a_PLAIN_NUMBERS⟩) := D_raise_rank.ok (fun f fd F => ok_raise_rank F T )
  have O_lose : Ok P w K mg base "lose" 1 ["world", "place"] (sp_lose ⟨CPromise, CLetter, CNode, CWorld, a_NO_PROMISE, a_PLAIN_NUMBERS⟩) := D_lose.ok (fun f fd F => ok_lose F T )
  have O_stop : Ok P w K mg base "stop" 1 ["world", "place"] (sp_stop ⟨CPromise, CLetter, CNode, CWorld, a_NO_PROMISE, a_PLAIN_NUMBERS⟩) := D_stop.ok (fun f fd F => ok_stop F T )
  have O_hold_if_most_gave : Ok P w K mg base "hold_if_most_gave" 2 ["world", "node"] (sp_hold_if_most_gave ⟨CPromise, CLetter, CNode, CWorld, a_NO_PROMISE, a_PLAIN_NUMBERS⟩) := D_hold_if_most_gave.ok (fun f fd F => ok_hold_if_most_gave F T O_is_most)
  have O_get_voted : Ok P w K mg base "get_voted" 2 ["world", "letter"] (sp_get_voted ⟨CPromise, CLetter, CNode, CWorld, a_NO_PROMISE, a_PLAIN_NUMBERS⟩) := D_get_voted.ok (fun f fd F => ok_get_voted F T O_is_most O_hear_of_term O_lead)
  have O_report_node : Ok P w K mg base "report_node" 2 ["node"] (sp_report_node ⟨CPromise, CLetter, CNode, CWorld, a_NO_PROMISE, a_PLAIN_NUMBERS⟩) := D_report_node.ok (fun f fd F => ok_report_node F T O_report_promise O_with_length)
  have O_report_holding : Ok P w K mg base "report_holding" 2 ["world"] (sp_report_holding ⟨CPromise, CLetter, CNode, CWorld, a_NO_PROMISE, a_PLAIN_NUMBERS⟩) := D_report_holding.ok (fun f fd F => ok_report_holding F T O_with_length O_holds_now)
  have O_begin_is_right : Ok P w K mg base "begin_is_right" 2 ["wrong", "long", "weights"] (sp_begin_is_right ⟨CPromise, CLetter, CNode, CWorld, a_NO_PROMISE, a_PLAIN_NUMBERS⟩) := D_begin_is_right.ok (fun f fd F => ok_begin_is_right F T O_span_of)
  have O_elapse : Ok P w K mg base "elapse" 2 ["world", "passed", "clocks"] (sp_elapse ⟨CPromise, CLetter, CNode, CWorld, a_NO_PROMISE, a_PLAIN_NUMBERS⟩) := D_elapse.ok (fun f fd F => ok_elapse F T O_clock_may_go)
  have M_World : MkOk P w K mg base "World" CWorld 3 ["self", "wrong", "long", "weights"] (sp_World_init ⟨CPromise, CLetter, CNode, CWorld, a_NO_PROMISE, a_PLAIN_NUMBERS⟩) := DWorld.ok (fun f fd F => ok_World_init F T O_span_of M_Node)
  have O_send_to_others : Ok P w K mg base "send_to_others" 3 ["world", "sender", "kind", "term", "number", "yes_to"] (sp_send_to_others ⟨CPromise, CLetter, CNode, CWorld, a_NO_PROMISE, a_PLAIN_NUMBERS⟩) := D_send_to_others.ok (fun f fd F => ok_send_to_others F T O_send M_Letter)
  have O_promise_to : Ok P w K mg base "promise_to" 3 ["world", "node", "whom", "term"] (sp_promise_to ⟨CPromise, CLetter, CNode, CWorld, a_NO_PROMISE, a_PLAIN_NUMBERS⟩) := D_promise_to.ok (fun f fd F => ok_promise_to F T M_Promise)
  have O_begin_anew : Ok P w K mg base "begin_anew" 3 ["world", "place"] (sp_begin_anew ⟨CPromise, CLetter, CNode, CWorld, a_NO_PROMISE, a_PLAIN_NUMBERS⟩) := D_begin_anew.ok (fun f fd F => ok_begin_anew F T M_Node)
  have O_reply : Ok P w K mg base "reply" 3 ["world", "letter", "kind", "term", "number", "yes"] (sp_reply ⟨CPromise, CLetter, CNode, CWorld, a_NO_PROMISE, a_PLAIN_NUMBERS⟩) := D_reply.ok (fun f fd F => ok_reply F T O_send M_Letter)
  have O_get_promised : Ok P w K mg base "get_promised" 3 ["world", "letter"] (sp_get_promised ⟨CPromise, CLetter, CNode, CWorld, a_NO_PROMISE, a_PLAIN_NUMBERS⟩) := D_get_promised.ok (fun f fd F => ok_get_promised F T O_hold_if_most_gave O_hear_of_term)
  have O_ask : Ok P w K mg base "ask" 4 ["world", "place"] (sp_ask ⟨CPromise, CLetter, CNode, CWorld, a_NO_PROMISE, a_PLAIN_NUMBERS⟩) := D_ask.ok (fun f fd F => ok_ask F T O_send_to_others O_is_most O_lead)
  have O_begin_round : Ok P w K mg base "begin_round" 4 ["world", "place"] (sp_begin_round ⟨CPromise, CLetter, CNode, CWorld, a_NO_PROMISE, a_PLAIN_NUMBERS⟩) := D_begin_round.ok (fun f fd F => ok_begin_round F T O_hold_if_most_gave O_send_to_others O_is_bound O_promise_to)
  have O_let_go : Ok P w K mg base "let_go" 4 ["world", "place", "heir"] (sp_let_go ⟨CPromise, CLetter, CNode, CWorld, a_NO_PROMISE, a_PLAIN_NUMBERS⟩) := D_let_go.ok (fun f fd F => ok_let_go F T O_send_to_others)
  have O_get_would_you : Ok P w K mg base "get_would_you" 4 ["world", "letter"] (sp_get_would_you ⟨CPromise, CLetter, CNode, CWorld, a_NO_PROMISE, a_PLAIN_NUMBERS⟩) := D_get_would_you.ok (fun f fd F => ok_get_would_you F T O_reply O_is_bound)
  have O_get_vote : Ok P w K mg base "get_vote" 4 ["world", "letter"] (sp_get_vote ⟨CPromise, CLetter, CNode, CWorld, a_NO_PROMISE, a_PLAIN_NUMBERS⟩) := D_get_vote.ok (fun f fd F => ok_get_vote F T O_is_bound O_hear_of_term O_reply)
  have O_get_promise : Ok P w K mg base "get_promise" 4 ["world", "letter"] (sp_get_promise ⟨CPromise, CLetter, CNode, CWorld, a_NO_PROMISE, a_PLAIN_NUMBERS⟩) := D_get_promise.ok (fun f fd F => ok_get_promise F T O_hear_of_term O_promise_to O_reply O_is_bound)
  have O_start : Ok P w K mg base "start" 4 ["world", "place"] (sp_start ⟨CPromise, CLetter, CNode, CWorld, a_NO_PROMISE, a_PLAIN_NUMBERS⟩) := D_start.ok (fun f fd F => ok_start F T O_begin_anew)
  have O_ask_if_most_would : Ok P w K mg base "ask_if_most_would" 5 ["world", "place"] (sp_ask_if_most_would ⟨CPromise, CLetter, CNode, CWorld, a_NO_PROMISE, a_PLAIN_NUMBERS⟩) := D_ask_if_most_would.ok (fun f fd F => ok_ask_if_most_would F T O_is_most O_ask)
  have O_get_free : Ok P w K mg base "get_free" 5 ["world", "letter"] (sp_get_free ⟨CPromise, CLetter, CNode, CWorld, a_NO_PROMISE, a_PLAIN_NUMBERS⟩) := D_get_free.ok (fun f fd F => ok_get_free F T O_ask O_is_bound)
  have O_renew : Ok P w K mg base "renew" 5 ["world", "place"] (sp_renew ⟨CPromise, CLetter, CNode, CWorld, a_NO_PROMISE, a_PLAIN_NUMBERS⟩) := D_renew.ok (fun f fd F => ok_renew F T O_refusal_of O_begin_round)
  have O_leave : Ok P w K mg base "leave" 5 ["world", "place", "heir"] (sp_leave ⟨CPromise, CLetter, CNode, CWorld, a_NO_PROMISE, a_PLAIN_NUMBERS⟩) := D_leave.ok (fun f fd F => ok_leave F T O_refusal_of O_let_go)
  have O_begin_wish : Ok P w K mg base "begin_wish" 6 ["world", "place"] (sp_begin_wish ⟨CPromise, CLetter, CNode, CWorld, a_NO_PROMISE, a_PLAIN_NUMBERS⟩) := D_begin_wish.ok (fun f fd F => ok_begin_wish F T O_send_to_others O_ask_if_most_would O_is_bound)
  have O_get_would : Ok P w K mg base "get_would" 6 ["world", "letter"] (sp_get_would ⟨CPromise, CLetter, CNode, CWorld, a_NO_PROMISE, a_PLAIN_NUMBERS⟩) := D_get_would.ok (fun f fd F => ok_get_would F T O_ask_if_most_would)
  have O_hand_over : Ok P w K mg base "hand_over" 7 ["world", "letter"] (sp_hand_over ⟨CPromise, CLetter, CNode, CWorld, a_NO_PROMISE, a_PLAIN_NUMBERS⟩) := D_hand_over.ok (fun f fd F => ok_hand_over F T O_get_free O_get_would_you O_get_would O_get_vote O_get_voted O_get_promise O_get_promised)
  have O_wish : Ok P w K mg base "wish" 7 ["world", "place"] (sp_wish ⟨CPromise, CLetter, CNode, CWorld, a_NO_PROMISE, a_PLAIN_NUMBERS⟩) := D_wish.ok (fun f fd F => ok_wish F T O_refusal_of O_begin_wish)
  have O_take : Ok P w K mg base "take" 8 ["world", "place"] (sp_take ⟨CPromise, CLetter, CNode, CWorld, a_NO_PROMISE, a_PLAIN_NUMBERS⟩) := D_take.ok (fun f fd F => ok_take F T O_hand_over)
  have O_keep : Ok P w K mg base "keep" 8 ["world", "place"] (sp_keep ⟨CPromise, CLetter, CNode, CWorld, a_NO_PROMISE, a_PLAIN_NUMBERS⟩) := D_keep.ok (fun f fd F => ok_keep F T O_hand_over)
  have O_carry_out : Ok P w K mg base "carry_out" 9 ["world", "call"] (sp_carry_out ⟨CPromise, CLetter, CNode, CWorld, a_NO_PROMISE, a_PLAIN_NUMBERS⟩) := D_carry_out.ok (fun f fd F => ok_carry_out F T O_start O_elapse O_wish O_renew O_leave O_raise_rank O_take O_keep O_lose O_stop)
  have O_answer_in : Ok P w K mg base "answer_in" 10 ["world", "call"] (sp_answer_in ⟨CPromise, CLetter, CNode, CWorld, a_NO_PROMISE, a_PLAIN_NUMBERS⟩) := D_answer_in.ok (fun f fd F => ok_answer_in F T O_report_led O_report_letters O_report_holding O_carry_out O_report_node)
  exact ok_answers F0 T O_end_of_call O_begin_is_right M_World O_answer_in
end Hfs
open PySem PySem.W PyProof.Rows
set_option maxRecDepth 100000 in
set_option maxHeartbeats 0 in
theorem PySem.Challenge.cw_holdsforsure_s01_answers_holds : PySem.Challenge.rw_holdsforsure_s01_answers.Holds := by
  w_on; k_headS; (case hw => exact ⟨[.list [.int 14]], by decide +kernel, by decide +kernel⟩)
  k_fillS
  refine L2.walk_specK (r := PySem.Challenge.rw_holdsforsure_s01_answers) (k := 11) (CX := L2.CX0) (ps := ["calls"]) (sp := Hfs.sp_answers) (by decide +kernel) rfl rfl ⟨rfl, by decide, by decide⟩ (fun w h Y => PySem.W.kIn_of Y) ?F ?S (fun _ _ _ _ z => z)
  case F =>
    intro w mg fa h Y KX G hmg
    refine' Hfs.all_mk KX G hmg ?DPromise ?DLetter ?DNode ?DWorld ?D_span_of ?D_is_most ?D_is_bound ?D_holds_now ?D_hear_of_term ?D_send ?D_send_to_others ?D_begin_wish ?D_ask_if_most_would ?D_ask ?D_lead ?D_promise_to ?D_begin_round ?D_hold_if_most_gave ?D_let_go ?D_begin_anew ?D_hand_over ?D_reply ?D_get_would_you ?D_get_would ?D_get_vote ?D_get_voted ?D_get_promise ?D_get_promised ?D_get_free ?D_with_length ?D_report_letters ?D_report_node ?D_report_promise ?D_report_holding ?D_report_led ?D_end_of_call ?D_answer_in ?D_carry_out ?D_begin_is_right ?D_elapse ?D_clock_may_go ?D_wish ?D_renew ?D_leave ?D_refusal_of ?D_raise_rank ?D_take ?D_keep ?D_lose ?D_stop ?D_start ?g_NOBODY ?g_FOLLOWS ?g_LEADS ?g_ROOM ?g_WOULD_YOU ?g_NOT_MOST_YET ?g_ASKS ?g_ASKS_NOW ?g_VOTE ?g_LEADS_NOW ?g_PROMISE ?g_FREE ?g_NO_USE ?g_WOULD ?g_VOTED ?g_PROMISED ?g_ANSWERED ?g_COUNTED ?g_HEARD_OF_TERM ?g_HOLDS_LATER ?g_PROMISE_GONE ?g_NO_WISH ?g_NO_PROMISE ?g_BEGIN ?g_DONE ?g_WRONG ?g_NO_WORLD ?g_PLAIN_NUMBERS ?g_ELAPSE ?g_LETTERS ?g_NODE ?g_HOLDS ?g_WISH ?g_RENEW ?g_LEAVE ?g_RANK ?g_TAKE ?g_KEEP ?g_LOSE ?g_STOP ?g_STOPPED ?g_UNFIT ?b_sum ?b_len ?b_range ?b_max ?b_list ?b_enumerate ?b_zip ?b_all ?ta ?tl ?tc ?tk
    · refine' ⟨_, Hfs.cls_mk KX G ?a ?a1 ?i1 ?l ?cc ?k ?pg ?hd ?po ?sa ?mk ?kc (fun _ _ _ _ _ _ us hl => match us, hl with | [_, _, _, _], _ => rfl), Hfs.noP_mk ?f0 ?f1 ?f2⟩
      (case a => k_is); (case a1 => k_is); (case i1 => k_is); (case l => k_is); (case cc => k_is); (case k => k_is); (case pg => k_is); (case hd => k_is); (case po => k_is); (case sa => k_is); (case mk => k_is); (case kc => k_is); (case f0 => k_is); (case f1 => k_is); (case f2 => k_is)
    · refine' ⟨_, Hfs.cls_mk KX G ?a ?a1 ?i1 ?l ?cc ?k ?pg ?hd ?po ?sa ?mk ?kc (fun _ _ _ _ _ _ us hl => match us, hl with | [_, _, _, _, _, _, _], _ => rfl), Hfs.noL_mk ?f0 ?f1 ?f2 ?f3 ?f4 ?f5⟩
      (case a => k_is); (case a1 => k_is); (case i1 => k_is); (case l => k_is); (case cc => k_is); (case k => k_is); (case pg => k_is); (case hd => k_is); (case po => k_is); (case sa => k_is); (case mk => k_is); (case kc => k_is); (case f0 => k_is); (case f1 => k_is); (case f2 => k_is); (case f3 => k_is); (case f4 => k_is); (case f5 => k_is)
    · refine' ⟨_, Hfs.cls_mk KX G ?a ?a1 ?i1 ?l ?cc ?k ?pg ?hd ?po ?sa ?mk ?kc (fun _ _ _ _ _ _ us hl => match us, hl with | [_], _ => rfl), Hfs.noN_mk ?f0 ?f1 ?f2 ?f3 ?f4 ?f5 ?f6 ?f7 ?f8 ?f9 ?f10 ?f11 ?f12 ?f13⟩
      (case a => k_is); (case a1 => k_is); (case i1 => k_is); (case l => k_is); (case cc => k_is); (case k => k_is); (case pg => k_is); (case hd => k_is); (case po => k_is); (case sa => k_is); (case mk => k_is); (case kc => k_is); (case f0 => k_is); (case f1 => k_is); (case f2 => k_is); (case f3 => k_is); (case f4 => k_is); (case f5 => k_is); (case f6 => k_is); (case f7 => k_is); (case f8 => k_is); (case f9 => k_is); (case f10 => k_is); (case f11 => k_is); (case f12 => k_is); (case f13 => k_is)
    · refine' ⟨_, Hfs.cls_mk KX G ?a ?a1 ?i1 ?l ?cc ?k ?pg ?hd ?po ?sa ?mk ?kc (fun _ _ _ _ _ _ us hl => match us, hl with | [_, _, _, _], _ => rfl), Hfs.noW_mk ?f0 ?f1 ?f2 ?f3 ?f4 ?f5 ?f6 ?f7⟩
      (case a => k_is); (case a1 => k_is); (case i1 => k_is); (case l => k_is); (case cc => k_is); (case k => k_is); (case pg => k_is); (case hd => k_is); (case po => k_is); (case sa => k_is); (case mk => k_is); (case kc => k_is); (case f0 => k_is); (case f1 => k_is); (case f2 => k_is); (case f3 => k_is); (case f4 => k_is); (case f5 => k_is); (case f6 => k_is); (case f7 => k_is)
    · refine' Hfs.def_mk KX G ?a ?l ?cc ?k (fun _ _ _ _ _ _ us hl => match us, hl with | [_, _], _ => rfl)
      (case a => k_is); (case l => k_is); (case cc => k_is); (case k => k_is)
    · refine' Hfs.def_mk KX G ?a ?l ?cc ?k (fun _ _ _ _ _ _ us hl => match us, hl with | [_, _], _ => rfl)
      (case a => k_is); (case l => k_is); (case cc => k_is); (case k => k_is)
    · refine' Hfs.def_mk KX G ?a ?l ?cc ?k (fun _ _ _ _ _ _ us hl => match us, hl with | [_, _], _ => rfl)
      (case a => k_is); (case l => k_is); (case cc => k_is); (case k => k_is)
    · refine' Hfs.def_mk KX G ?a ?l ?cc ?k (fun _ _ _ _ _ _ us hl => match us, hl with | [_], _ => rfl)
      (case a => k_is); (case l => k_is); (case cc => k_is); (case k => k_is)
    · refine' Hfs.def_mk KX G ?a ?l ?cc ?k (fun _ _ _ _ _ _ us hl => match us, hl with | [_, _], _ => rfl)
      (case a => k_is); (case l => k_is); (case cc => k_is); (case k => k_is)
    · refine' Hfs.def_mk KX G ?a ?l ?cc ?k (fun _ _ _ _ _ _ us hl => match us, hl with | [_, _], _ => rfl)
      (case a => k_is); (case l => k_is); (case cc => k_is); (case k => k_is)
    · refine' Hfs.def_mk KX G ?a ?l ?cc ?k (fun _ _ _ _ _ _ us hl => match us, hl with | [_, _, _, _, _, _], _ => rfl)
      (case a => k_is); (case l => k_is); (case cc => k_is); (case k => k_is)
    · refine' Hfs.def_mk KX G ?a ?l ?cc ?k (fun _ _ _ _ _ _ us hl => match us, hl with | [_, _], _ => rfl)
      (case a => k_is); (case l => k_is); (case cc => k_is); (case k => k_is)
    · refine' Hfs.def_mk KX G ?a ?l ?cc ?k (fun _ _ _ _ _ _ us hl => match us, hl with | [_, _], _ => rfl)
      (case a => k_is); (case l => k_is); (case cc => k_is); (case k => k_is)
    · refine' Hfs.def_mk KX G ?a ?l ?cc ?k (fun _ _ _ _ _ _ us hl => match us, hl with | [_, _], _ => rfl)
      (case a => k_is); (case l => k_is); (case cc => k_is); (case k => k_is)
    · refine' Hfs.def_mk KX G ?a ?l ?cc ?k (fun _ _ _ _ _ _ us hl => match us, hl with | [_, _], _ => rfl)
      (case a => k_is); (case l => k_is); (case cc => k_is); (case k => k_is)
    · refine' Hfs.def_mk KX G ?a ?l ?cc ?k (fun _ _ _ _ _ _ us hl => match us, hl with | [_, _, _, _], _ => rfl)
      (case a => k_is); (case l => k_is); (case cc => k_is); (case k => k_is)
    · refine' Hfs.def_mk KX G ?a ?l ?cc ?k (fun _ _ _ _ _ _ us hl => match us, hl with | [_, _], _ => rfl)
      (case a => k_is); (case l => k_is); (case cc => k_is); (case k => k_is)
    · refine' Hfs.def_mk KX G ?a ?l ?cc ?k (fun _ _ _ _ _ _ us hl => match us, hl with | [_, _], _ => rfl)
      (case a => k_is); (case l => k_is); (case cc => k_is); (case k => k_is)
    · refine' Hfs.def_mk KX G ?a ?l ?cc ?k (fun _ _ _ _ _ _ us hl => match us, hl with | [_, _, _], _ => rfl)
      (case a => k_is); (case l => k_is); (case cc => k_is); (case k => k_is)
    · refine' Hfs.def_mk KX G ?a ?l ?cc ?k (fun _ _ _ _ _ _ us hl => match us, hl with | [_, _], _ => rfl)
      (case a => k_is); (case l => k_is); (case cc => k_is); (case k => k_is)
    · refine' Hfs.def_mk KX G ?a ?l ?cc ?k (fun _ _ _ _ _ _ us hl => match us, hl with | [_, _], _ => rfl)
      (case a => k_is); (case l => k_is); (case cc => k_is); (case k => k_is)
    · refine' Hfs.def_mk KX G ?a ?l ?cc ?k (fun _ _ _ _ _ _ us hl => match us, hl with | [_, _, _, _, _, _], _ => rfl)
      (case a => k_is); (case l => k_is); (case cc => k_is); (case k => k_is)
    · refine' Hfs.def_mk KX G ?a ?l ?cc ?k (fun _ _ _ _ _ _ us hl => match us, hl with | [_, _], _ => rfl)
      (case a => k_is); (case l => k_is); (case cc => k_is); (case k => k_is)
    · refine' Hfs.def_mk KX G ?a ?l ?cc ?k (fun _ _ _ _ _ _ us hl => match us, hl with | [_, _], _ => rfl)
      (case a => k_is); (case l => k_is); (case cc => k_is); (case k => k_is)
    · refine' Hfs.def_mk KX G ?a ?l ?cc ?k (fun _ _ _ _ _ _ us hl => match us, hl with | [_, _], _ => rfl)
      (case a => k_is); (case l => k_is); (case cc => k_is); (case k => k_is)
    · refine' Hfs.def_mk KX G ?a ?l ?cc ?k (fun _ _ _ _ _ _ us hl => match us, hl with | [_, _], _ => rfl)
      (case a => k_is); (case l => k_is); (case cc => k_is); (case k => k_is)
    · refine' Hfs.def_mk KX G ?a ?l ?cc ?k (fun _ _ _ _ _ _ us hl => match us, hl with | [_, _], _ => rfl)
      (case a => k_is); (case l => k_is); (case cc => k_is); (case k => k_is)
    · refine' Hfs.def_mk KX G ?a ?l ?cc ?k (fun _ _ _ _ _ _ us hl => match us, hl with | [_, _], _ => rfl)
      (case a => k_is); (case l => k_is); (case cc => k_is); (case k => k_is)
    · refine' Hfs.def_mk KX G ?a ?l ?cc ?k (fun _ _ _ _ _ _ us hl => match us, hl with | [_, _], _ => rfl)
      (case a => k_is); (case l => k_is); (case cc => k_is); (case k => k_is)
    · refine' Hfs.def_mk KX G ?a ?l ?cc ?k (fun _ _ _ _ _ _ us hl => match us, hl with | [_], _ => rfl)
      (case a => k_is); (case l => k_is); (case cc => k_is); (case k => k_is)
    · refine' Hfs.def_mk KX G ?a ?l ?cc ?k (fun _ _ _ _ _ _ us hl => match us, hl with | [_], _ => rfl)
      (case a => k_is); (case l => k_is); (case cc => k_is); (case k => k_is)
    · refine' Hfs.def_mk KX G ?a ?l ?cc ?k (fun _ _ _ _ _ _ us hl => match us, hl with | [_], _ => rfl)
      (case a => k_is); (case l => k_is); (case cc => k_is); (case k => k_is)
    · refine' Hfs.def_mk KX G ?a ?l ?cc ?k (fun _ _ _ _ _ _ us hl => match us, hl with | [_], _ => rfl)
      (case a => k_is); (case l => k_is); (case cc => k_is); (case k => k_is)
    · refine' Hfs.def_mk KX G ?a ?l ?cc ?k (fun _ _ _ _ _ _ us hl => match us, hl with | [_], _ => rfl)
      (case a => k_is); (case l => k_is); (case cc => k_is); (case k => k_is)
    · refine' Hfs.def_mk KX G ?a ?l ?cc ?k (fun _ _ _ _ _ _ us hl => match us, hl with | [_], _ => rfl)
      (case a => k_is); (case l => k_is); (case cc => k_is); (case k => k_is)
    · refine' Hfs.def_mk KX G ?a ?l ?cc ?k (fun _ _ _ _ _ _ us hl => match us, hl with | [_, _], _ => rfl)
      (case a => k_is); (case l => k_is); (case cc => k_is); (case k => k_is)
    · refine' Hfs.def_mk KX G ?a ?l ?cc ?k (fun _ _ _ _ _ _ us hl => match us, hl with | [_, _], _ => rfl)
      (case a => k_is); (case l => k_is); (case cc => k_is); (case k => k_is)
    · refine' Hfs.def_mk KX G ?a ?l ?cc ?k (fun _ _ _ _ _ _ us hl => match us, hl with | [_, _], _ => rfl)
      (case a => k_is); (case l => k_is); (case cc => k_is); (case k => k_is)
    · refine' Hfs.def_mk KX G ?a ?l ?cc ?k (fun _ _ _ _ _ _ us hl => match us, hl with | [_, _, _], _ => rfl)
      (case a => k_is); (case l => k_is); (case cc => k_is); (case k => k_is)
    · refine' Hfs.def_mk KX G ?a ?l ?cc ?k (fun _ _ _ _ _ _ us hl => match us, hl with | [_, _, _], _ => rfl)
      (case a => k_is); (case l => k_is); (case cc => k_is); (case k => k_is)
    · refine' Hfs.def_mk KX G ?a ?l ?cc ?k (fun _ _ _ _ _ _ us hl => match us, hl with | [_, _, _], _ => rfl)
      (case a => k_is); (case l => k_is); (case cc => k_is); (case k => k_is)
    · refine' Hfs.def_mk KX G ?a ?l ?cc ?k (fun _ _ _ _ _ _ us hl => match us, hl with | [_, _], _ => rfl)
      (case a => k_is); (case l => k_is); (case cc => k_is); (case k => k_is)
    · refine' Hfs.def_mk KX G ?a ?l ?cc ?k (fun _ _ _ _ _ _ us hl => match us, hl with | [_, _], _ => rfl)
      (case a => k_is); (case l => k_is); (case cc => k_is); (case k => k_is)
    · refine' Hfs.def_mk KX G ?a ?l ?cc ?k (fun _ _ _ _ _ _ us hl => match us, hl with | [_, _, _], _ => rfl)
      (case a => k_is); (case l => k_is); (case cc => k_is); (case k => k_is)
    · refine' Hfs.def_mk KX G ?a ?l ?cc ?k (fun _ _ _ _ _ _ us hl => match us, hl with | [_, _, _], _ => rfl)
      (case a => k_is); (case l => k_is); (case cc => k_is); (case k => k_is)
    · refine' Hfs.def_mk KX G ?a ?l ?cc ?k (fun _ _ _ _ _ _ us hl => match us, hl with | [_, _, _], _ => rfl)
      (case a => k_is); (case l => k_is); (case cc => k_is); (case k => k_is)
    · refine' Hfs.def_mk KX G ?a ?l ?cc ?k (fun _ _ _ _ _ _ us hl => match us, hl with | [_, _], _ => rfl)
      (case a => k_is); (case l => k_is); (case cc => k_is); (case k => k_is)
    · refine' Hfs.def_mk KX G ?a ?l ?cc ?k (fun _ _ _ _ _ _ us hl => match us, hl with | [_, _], _ => rfl)
      (case a => k_is); (case l => k_is); (case cc => k_is); (case k => k_is)
    · refine' Hfs.def_mk KX G ?a ?l ?cc ?k (fun _ _ _ _ _ _ us hl => match us, hl with | [_, _], _ => rfl)
      (case a => k_is); (case l => k_is); (case cc => k_is); (case k => k_is)
    · refine' Hfs.def_mk KX G ?a ?l ?cc ?k (fun _ _ _ _ _ _ us hl => match us, hl with | [_, _], _ => rfl)
      (case a => k_is); (case l => k_is); (case cc => k_is); (case k => k_is)
    · refine' Hfs.def_mk KX G ?a ?l ?cc ?k (fun _ _ _ _ _ _ us hl => match us, hl with | [_, _], _ => rfl)
      (case a => k_is); (case l => k_is); (case cc => k_is); (case k => k_is)
    · refine' Hfs.gint_mk KX G ?a
      (case a => k_is)
    · refine' Hfs.gint_mk KX G ?a
      (case a => k_is)
    · refine' Hfs.gint_mk KX G ?a
      (case a => k_is)
    · refine' Hfs.gint_mk KX G ?a
      (case a => k_is)
    · refine' Hfs.gint_mk KX G ?a
      (case a => k_is)
    · refine' Hfs.gint_mk KX G ?a
      (case a => k_is)
    · refine' Hfs.gint_mk KX G ?a
      (case a => k_is)
    · refine' Hfs.gint_mk KX G ?a
      (case a => k_is)
    · refine' Hfs.gint_mk KX G ?a
      (case a => k_is)
    · refine' Hfs.gint_mk KX G ?a
      (case a => k_is)
    · refine' Hfs.gint_mk KX G ?a
      (case a => k_is)
    · refine' Hfs.gint_mk KX G ?a
      (case a => k_is)
    · refine' Hfs.gint_mk KX G ?a
      (case a => k_is)
    · refine' Hfs.gint_mk KX G ?a
      (case a => k_is)
    · refine' Hfs.gint_mk KX G ?a
      (case a => k_is)
    · refine' Hfs.gint_mk KX G ?a
      (case a => k_is)
    · refine' Hfs.gint_mk KX G ?a
      (case a => k_is)
    · refine' Hfs.gint_mk KX G ?a
      (case a => k_is)
    · refine' Hfs.gint_mk KX G ?a
      (case a => k_is)
    · refine' Hfs.gint_mk KX G ?a
      (case a => k_is)
    · refine' Hfs.gint_mk KX G ?a
      (case a => k_is)
    · refine' Hfs.gint_mk KX G ?a
      (case a => k_is)
    · refine' Hfs.gtup_mk KX G ?a ?l ?d ?v
      (case a => k_is); (case l => k_is); (case d => decide); (case v => exact .cons ⟨_, rfl⟩ (.cons ⟨_, rfl⟩ (.cons ⟨_, rfl⟩ (.nil))))
    · refine' Hfs.gint_mk KX G ?a
      (case a => k_is)
    · refine' Hfs.gint_mk KX G ?a
      (case a => k_is)
    · refine' Hfs.gint_mk KX G ?a
      (case a => k_is)
    · refine' Hfs.gint_mk KX G ?a
      (case a => k_is)
    · refine' Hfs.gtup_mk KX G ?a ?l ?d ?v
      (case a => k_is); (case l => k_is); (case d => decide); (case v => exact .cons ⟨_, rfl⟩ (.cons ⟨_, rfl⟩ (.cons ⟨_, rfl⟩ (.cons ⟨_, rfl⟩ (.cons ⟨_, rfl⟩ (.cons ⟨_, rfl⟩ (.cons ⟨_, rfl⟩ (.cons ⟨_, rfl⟩ (.cons ⟨_, rfl⟩ (.cons ⟨_, rfl⟩ (.cons ⟨_, rfl⟩ (.cons ⟨_, rfl⟩ (.cons ⟨_, rfl⟩ (.cons ⟨_, rfl⟩ (.cons ⟨_, rfl⟩ (.nil))))))))))))))))
    · refine' Hfs.gint_mk KX G ?a
      (case a => k_is)
    · refine' Hfs.gint_mk KX G ?a
      (case a => k_is)
    · refine' Hfs.gint_mk KX G ?a
      (case a => k_is)
    · refine' Hfs.gint_mk KX G ?a
      (case a => k_is)
    · refine' Hfs.gint_mk KX G ?a
      (case a => k_is)
    · refine' Hfs.gint_mk KX G ?a
      (case a => k_is)
    · refine' Hfs.gint_mk KX G ?a
      (case a => k_is)
    · refine' Hfs.gint_mk KX G ?a
      (case a => k_is)
    · refine' Hfs.gint_mk KX G ?a
      (case a => k_is)
    · refine' Hfs.gint_mk KX G ?a
      (case a => k_is)
    · refine' Hfs.gint_mk KX G ?a
      (case a => k_is)
    · refine' Hfs.gint_mk KX G ?a
      (case a => k_is)
    · refine' Hfs.gint_mk KX G ?a
      (case a => k_is)
    · refine' Hfs.gint_mk KX G ?a
      (case a => k_is)
    · refine' PySem.W.mg_none_of KX G ?a
      (case a => k_is)
    · refine' PySem.W.mg_none_of KX G ?a
      (case a => k_is)
    · refine' PySem.W.mg_none_of KX G ?a
      (case a => k_is)
    · refine' PySem.W.mg_none_of KX G ?a
      (case a => k_is)
    · refine' PySem.W.mg_none_of KX G ?a
      (case a => k_is)
    · refine' PySem.W.mg_none_of KX G ?a
      (case a => k_is)
    · refine' PySem.W.mg_none_of KX G ?a
      (case a => k_is)
    · refine' PySem.W.mg_none_of KX G ?a
      (case a => k_is)
    (case ta => k_is); (case tl => k_is); (case tc => k_is); (case tk => k_is)
  case S =>
    intro K H xs a hO hwi hask hx
    cases hx with
    | cons h1 h2 =>
      cases h2
      cases h1 with
      | lst hs ha =>
        have e := L2.ints_dw a.1 _ ha
        subst e
        have q : ((Codec.inLen 0 1400 a.1 && a.1.all (Codec.inInt 0 3000)) && true) = true := hwi
        exact ⟨_, a.1, rfl, hs, hask, fun H' p hp => .lst (L2.SqL.of hp) (L2.dw_ints _)⟩
#print axioms PySem.Challenge.cw_holdsforsure_s01_answers_holds
