import PyProof.Rows.All
import PySx61
import Wide.All
import OpenK.AllK
import Wide.FinOn
import PyProof.EqAt
import PyProof.EqKinds
import PyProof.TupleCall
import KE.BitLaws
import KE.KSortKeySt
import KE.KLam
import PySem.Challenge.RW_platforms_s01_answers
import KE.KEqDeep
import Open.SpecLaws
import KE.OsHead
import KE.OsGo
import KE.KNest
set_option Elab.async false
set_option linter.all false
set_option maxRecDepth 100000
set_option maxHeartbeats 0
open PySem.W (Frag)
namespace Mx
open Sx61
theorem stable_unique {A : Type} (f : A → Int) : ∀ (l m : List A), l.Pairwise (fun x y => f x ≤ f y) → m.Pairwise (fun x y => f x ≤ f y) →
    (∀ z, l.filter (fun x => f x == z) = m.filter (fun x => f x == z)) → l = m
  | [], [], _, _, _ => rfl
  | [], b :: r, _, _, h => by
    have q := h (f b)
    rw [List.filter_nil, List.filter_cons, if_pos (by simp)] at q
    cases q
  | a :: r, [], _, _, h => by
    have q := h (f a)
    rw [List.filter_nil, List.filter_cons, if_pos (by simp)] at q
    cases q
  | a :: r, b :: t, h1, h2, h => by
    have ma : a ∈ b :: t := by
      have q : a ∈ (b :: t).filter (fun x => f x == f a) := by rw [← h (f a)]; exact List.mem_filter.mpr ⟨.head _, by simp⟩
      exact (List.mem_filter.mp q).1
    have mb : b ∈ a :: r := by
      have q : b ∈ (a :: r).filter (fun x => f x == f b) := by rw [h (f b)]; exact List.mem_filter.mpr ⟨.head _, by simp⟩
      exact (List.mem_filter.mp q).1
    have l1 : f a ≤ f b := by
      rcases List.mem_cons.mp mb with e | e
      · rw [e]; exact Int.le_refl _
      · exact (List.pairwise_cons.mp h1).1 b e
    have l2 : f b ≤ f a := by
      rcases List.mem_cons.mp ma with e | e
      · rw [e]; exact Int.le_refl _
      · exact (List.pairwise_cons.mp h2).1 a e
    have e : f a = f b := Int.le_antisymm l1 l2
    have q := h (f a)
    rw [List.filter_cons, if_pos (by simp), List.filter_cons, if_pos (by simp [e])] at q
    have eab : a = b := (List.cons.inj q).1
    subst eab
    have t1 := stable_unique f r t (List.pairwise_cons.mp h1).2 (List.pairwise_cons.mp h2).2 (fun z => by
      have q := h z
      rw [List.filter_cons, List.filter_cons] at q
      by_cases c : f a = z
      · rw [if_pos (by simp [c]), if_pos (by simp [c])] at q
        exact (List.cons.inj q).2
      · rw [if_neg (by simp [c]), if_neg (by simp [c])] at q
        exact q)
    rw [t1]
abbrev mi (p : Plan) (m : Move) : Int := (p.minuteOf m : Int)
theorem putIn_mem {p : Plan} {m y : Move} : ∀ {l : List Move}, y ∈ putIn p m l ↔ y = m ∨ y ∈ l
  | [] => by simp [putIn]
  | x :: l => by
    unfold putIn
    split
    · simp
    · rw [List.mem_cons, putIn_mem, List.mem_cons]
      constructor
      · rintro (h | h | h)
        · exact .inr (.inl h)
        · exact .inl h
        · exact .inr (.inr h)
      · rintro (h | h | h)
        · exact .inr (.inl h)
        · exact .inl h
        · exact .inr (.inr h)
theorem fold_mem {p : Plan} {y : Move} : ∀ (L acc : List Move), y ∈ L.foldl (fun l m => putIn p m l) acc ↔ y ∈ acc ∨ y ∈ L
  | [], acc => by simp
  | m :: L, acc => by
    rw [List.foldl_cons, fold_mem L, putIn_mem, List.mem_cons]
    constructor
    · rintro ((h | h) | h)
      · exact .inr (.inl h)
      · exact .inl h
      · exact .inr (.inr h)
    · rintro (h | h | h)
      · exact .inl (.inr h)
      · exact .inl (.inl h)
      · exact .inr h
def raw (p : Plan) : List Move := (List.range p.goings.length).map Move.go ++ (List.range p.comings.length).map Move.come
theorem moves_mem {p : Plan} {m : Move} : m ∈ p.moves ↔ m ∈ raw p := by
  have q := fold_mem (p := p) (y := m) (raw p) []
  simp only [List.not_mem_nil, false_or] at q
  exact q
theorem putIn_perm {p : Plan} {m : Move} : ∀ {l : List Move}, (putIn p m l).Perm (m :: l)
  | [] => by unfold putIn; exact .refl _
  | x :: l => by
    unfold putIn
    split
    · exact .refl _
    · exact (List.Perm.cons x putIn_perm).trans (List.Perm.swap m x l)
theorem fold_perm {p : Plan} : ∀ (L acc : List Move), (L.foldl (fun l m => putIn p m l) acc).Perm (acc ++ L)
  | [], acc => by simp
  | m :: L, acc => by
    rw [List.foldl_cons]
    refine (fold_perm L _).trans ?_
    have q : (putIn p m acc ++ L).Perm (m :: acc ++ L) := List.Perm.append_right _ putIn_perm
    exact q.trans (List.perm_middle (l₁ := acc)).symm
theorem moves_perm (p : Plan) : p.moves.Perm (raw p) := by
  have q := fold_perm (p := p) (raw p) []
  rw [List.nil_append] at q
  exact q
theorem raw_nodup (p : Plan) : (raw p).Nodup := by
  unfold raw
  refine List.nodup_append.mpr ⟨?_, ?_, ?_⟩
  · rw [List.nodup_iff_pairwise_ne, List.pairwise_map]
    exact List.nodup_range.imp fun h q => h (by cases q; rfl)
  · rw [List.nodup_iff_pairwise_ne, List.pairwise_map]
    exact List.nodup_range.imp fun h q => h (by cases q; rfl)
  · intro a ha b hb e
    obtain ⟨i, _, rfl⟩ := List.mem_map.mp ha
    obtain ⟨j, _, rfl⟩ := List.mem_map.mp hb
    cases e
theorem moves_nodup (p : Plan) : p.moves.Nodup := (moves_perm p).nodup_iff.mpr (raw_nodup p)
theorem go_mem {p : Plan} {k : Nat} (h : Move.go k ∈ p.moves) : k < p.goings.length := by
  rcases List.mem_append.mp (moves_mem.mp h) with q | q
  · obtain ⟨i, hi, e⟩ := List.mem_map.mp q
    cases e
    exact List.mem_range.mp hi
  · obtain ⟨i, hi, e⟩ := List.mem_map.mp q
    cases e
theorem come_mem {p : Plan} {k : Nat} (h : Move.come k ∈ p.moves) : k < p.comings.length := by
  rcases List.mem_append.mp (moves_mem.mp h) with q | q
  · obtain ⟨i, hi, e⟩ := List.mem_map.mp q
    cases e
  · obtain ⟨i, hi, e⟩ := List.mem_map.mp q
    cases e
    exact List.mem_range.mp hi
theorem around_not {x : Nat} {r : List Nat} : ∀ {row : List Nat}, ¬ x ∈ row → around (x :: r) row = none
  | [], _ => by unfold around; rw [if_neg (by simp)]
  | y :: t, h => by
    unfold around
    rw [if_neg (fun e => ?_), around_not (fun q => h (.tail _ q))]
    · rfl
    · rw [List.length_cons, List.take_succ_cons] at e
      exact h (by rw [(List.cons.inj e).1]; exact .head _)
theorem around_at {x : Nat} {r : List Nat} : ∀ {row : List Nat}, row.Nodup → x ∈ row →
    around (x :: r) row = if (row.drop (row.idxOf x)).take (x :: r).length = x :: r then some (row.take (row.idxOf x), row.drop (row.idxOf x + (x :: r).length)) else none
  | [], _, h => by cases h
  | y :: t, hn, h => by
    obtain ⟨n1, n2⟩ := List.nodup_cons.mp hn
    by_cases e : y = x
    · subst e
      rw [List.idxOf_cons_self]
      unfold around
      rw [List.drop_zero, List.take_zero, Nat.zero_add]
      split
      · rfl
      · rw [around_not n1]; rfl
    · have hx : x ∈ t := (List.mem_cons.mp h).resolve_left fun q => e q.symm
      have ei : (y :: t).idxOf x = t.idxOf x + 1 := by
        rw [List.idxOf_cons]
        have : (y == x) = false := by simpa using e
        rw [this]; rfl
      unfold around
      rw [if_neg (fun q => ?_), around_at n2 hx, ei, List.drop_succ_cons, List.take_succ_cons]
      · split
        · rw [Option.map_some, show t.idxOf x + 1 + (x :: r).length = t.idxOf x + (x :: r).length + 1 from by omega, List.drop_succ_cons]
        · rfl
      · rw [List.length_cons, List.take_succ_cons] at q
        exact e (List.cons.inj q).1
def fin (p : Plan) (tr : List Nat) : Stand → List Move → Except (Move × Why) Stand
  | s, [] => .ok s
  | s, m :: l => match p.does tr s m with
    | .error w => .error (m, w)
    | .ok t => fin p tr t l
theorem run_fin (p : Plan) (tr : List Nat) : ∀ (l : List Move) (s : Stand), fin p tr s l = match p.run tr s l with
    | .error e => .error e
    | .ok r => .ok (r.getLast?.getD s)
  | [], s => rfl
  | m :: l, s => by
    unfold fin Plan.run
    cases h : p.does tr s m with
    | error w => rfl
    | ok t =>
      dsimp only
      rw [run_fin p tr l t]
      cases h2 : p.run tr t l with
      | error e => rfl
      | ok r =>
        dsimp only
        rw [List.getLast?_cons]
        rfl
end Mx
namespace Mx
open Sx61
theorem first_succ {p : Plan} {k : Nat} {c : Coming} (h : p.comings[k]? = some c) : p.first (k + 1) = p.first k + c.parts.length := by
  unfold Plan.first
  rw [List.take_add_one, h]
  simp
theorem first_le {p : Plan} {j k : Nat} (h : j ≤ k) : p.first j ≤ p.first k := by
  induction k with
  | zero => rw [Nat.le_zero.mp h]; exact Nat.le_refl _
  | succ k ih =>
    by_cases e : j = k + 1
    · rw [e]; exact Nat.le_refl _
    · refine Nat.le_trans (ih (by omega)) ?_
      cases q : p.comings[k]? with
      | none =>
        unfold Plan.first
        rw [List.take_add_one, q]
        simp
      | some c => rw [first_succ q]; omega
theorem lengths_len (p : Plan) : p.lengths.length = p.first p.comings.length := by
  unfold Plan.lengths Plan.first
  rw [List.take_length, List.length_flatMap]
theorem mem_partsOf {p : Plan} {k i : Nat} : i ∈ p.partsOf k ↔ ∃ c, p.comings[k]? = some c ∧ p.first k ≤ i ∧ i < p.first k + c.parts.length := by
  unfold Plan.partsOf
  cases q : p.comings[k]? with
  | none => simp
  | some c =>
    simp only [List.mem_map, List.mem_range]
    constructor
    · rintro ⟨j, hj, rfl⟩
      exact ⟨c, rfl, by omega, by omega⟩
    · rintro ⟨c', e, h1, h2⟩
      cases e
      exact ⟨i - p.first k, by omega, by omega⟩
theorem partsOf_lt {p : Plan} {k i : Nat} (h : i ∈ p.partsOf k) : i < p.lengths.length := by
  obtain ⟨c, e, h1, h2⟩ := mem_partsOf.mp h
  have hk : k < p.comings.length := (List.getElem?_eq_some_iff.mp e).1
  rw [lengths_len]
  have := first_le (p := p) (show k + 1 ≤ p.comings.length by omega)
  rw [first_succ e] at this
  omega
theorem partsOf_one {p : Plan} {j k i : Nat} (h : i ∈ p.partsOf j) (h' : i ∈ p.partsOf k) : j = k := by
  obtain ⟨c, e, h1, h2⟩ := mem_partsOf.mp h
  obtain ⟨d, e', h3, h4⟩ := mem_partsOf.mp h'
  rcases Nat.lt_trichotomy j k with l | l | l
  · have := first_le (p := p) (show j + 1 ≤ k by omega)
    rw [first_succ e] at this
    omega
  · exact l
  · have := first_le (p := p) (show k + 1 ≤ j by omega)
    rw [first_succ e'] at this
    omega
theorem partsOf_nodup (p : Plan) (k : Nat) : (p.partsOf k).Nodup := by
  unfold Plan.partsOf
  cases q : p.comings[k]? with
  | none => exact List.nodup_nil
  | some c =>
    show ((List.range c.parts.length).map fun i => p.first k + i).Nodup
    rw [List.nodup_iff_pairwise_ne, List.pairwise_map]
    exact List.nodup_range.imp fun h q => h (by omega)
structure StandOk (p : Plan) (done : List Nat) (s : Stand) : Prop where
  len : s.length = p.tracks.length
  row : ∀ r ∈ s, r.Nodup ∧ ∀ i ∈ r, ∃ k ∈ done, i ∈ p.partsOf k
theorem StandOk.start (p : Plan) : StandOk p [] (nothing p) := ⟨by unfold nothing; rw [List.length_map], fun r hr => by
  unfold nothing at hr
  obtain ⟨_, _, rfl⟩ := List.mem_map.mp hr
  exact ⟨List.nodup_nil, fun i hi => by cases hi⟩⟩
def doneBy (done : List Nat) : Move → List Nat
  | .come k => k :: done
  | .go _ => done
theorem getD_mem {s : Stand} {n : Nat} (h : n < s.length) : s.getD n [] ∈ s := by
  rw [List.getD_eq_getElem?_getD, List.getElem?_eq_getElem h]
  exact List.getElem_mem h
theorem mem_set {A : Type} {s : List A} {n : Nat} {x r : A} (h : r ∈ s.set n x) : r = x ∨ r ∈ s := by
  rcases List.mem_or_eq_of_mem_set h with q | q
  · exact .inr q
  · exact .inl q
theorem around_sub {l : List Nat} : ∀ {row : List Nat} {y : List Nat × List Nat}, around l row = some y → (y.1 ++ y.2).Sublist row
  | [], y, hy => by
    unfold around at hy
    split at hy
    · cases hy; exact List.Sublist.refl _
    · cases hy
  | x :: r, y, hy => by
    unfold around at hy
    split at hy
    · cases hy
      rw [List.nil_append]
      exact List.drop_sublist _ _
    · cases q : around l r with
      | none => rw [q] at hy; cases hy
      | some z =>
        rw [q] at hy
        cases hy
        exact List.Sublist.cons₂ x (around_sub q)
theorem StandOk.step {p : Plan} {tr done : List Nat} {s t : Stand} {m : Move} (S : StandOk p done s) (hm : ∀ k, m = .come k → k ∉ done) (h : p.does tr s m = .ok t) : StandOk p (doneBy done m) t := by
  cases m with
  | come k =>
    have hk := hm k rfl
    unfold Plan.does at h
    dsimp only at h
    split at h
    · rename_i c tk hc ht
      split at h
      · cases h
      · split at h
        · cases h
        · split at h
          · cases h
          · have e := Except.ok.inj h
            subst e
            refine ⟨by rw [List.length_set]; exact S.len, fun r hr => ?_⟩
            rcases mem_set hr with e | q
            · subst e
              have hn : tr.getD k 0 < s.length := by rw [S.len]; exact (List.getElem?_eq_some_iff.mp ht).1
              obtain ⟨n1, n2⟩ := S.row _ (getD_mem hn)
              have dis : ∀ a ∈ s.getD (tr.getD k 0) [], ∀ b ∈ p.partsOf k, a ≠ b := by
                intro a ha b hb e
                subst e
                obtain ⟨k', hk', hp⟩ := n2 a ha
                exact hk (by rw [partsOf_one hb hp]; exact hk')
              split
              · refine ⟨List.nodup_append.mpr ⟨n1, partsOf_nodup p k, dis⟩, fun i hi => ?_⟩
                rcases List.mem_append.mp hi with q | q
                · obtain ⟨k', a, b⟩ := n2 i q
                  exact ⟨k', .tail _ a, b⟩
                · exact ⟨k, .head _, q⟩
              · refine ⟨List.nodup_append.mpr ⟨partsOf_nodup p k, n1, fun a ha b hb e => dis b hb a ha e.symm⟩, fun i hi => ?_⟩
                rcases List.mem_append.mp hi with q | q
                · exact ⟨k, .head _, q⟩
                · obtain ⟨k', a, b⟩ := n2 i q
                  exact ⟨k', .tail _ a, b⟩
            · obtain ⟨a, b⟩ := S.row r q
              exact ⟨a, fun i hi => let ⟨k', x, y⟩ := b i hi; ⟨k', .tail _ x, y⟩⟩
    · cases h
  | go k =>
    unfold Plan.does at h
    dsimp only at h
    split at h
    · cases h
    · rename_i g hg
      split at h
      · cases h
      · split at h
        · cases h
        · rename_i n hn
          split at h
          · cases h
          · rename_i y hy
            split at h
            · cases h
            · split at h
              · cases h
              · have e := Except.ok.inj h
                subst e
                refine ⟨by rw [List.length_set]; exact S.len, fun r hr => ?_⟩
                rcases mem_set hr with e | q
                · subst e
                  have hn' : n < s.length := by
                    obtain ⟨hl, _⟩ := List.findIdx?_eq_some_iff_getElem.mp hn
                    exact hl
                  obtain ⟨n1, n2⟩ := S.row _ (getD_mem hn')
                  have sub : (y.1 ++ y.2).Sublist (s.getD n []) := around_sub hy
                  exact ⟨n1.sublist sub, fun i hi => n2 i (sub.subset hi)⟩
                · exact S.row r q
theorem fin_ok {p : Plan} {tr : List Nat} {s t : Stand} {m : Move} {l : List Move} (h : p.does tr s m = .ok t) : fin p tr s (m :: l) = fin p tr t l := by
  rw [fin, h]
theorem fin_error {p : Plan} {tr : List Nat} {s : Stand} {m : Move} {l : List Move} {w : Why} (h : p.does tr s m = .error w) : fin p tr s (m :: l) = .error (m, w) := by
  rw [fin, h]
structure Ran (p : Plan) (tr : List Nat) (ms : List Move) (i : Nat) (s : Stand) : Prop where
  ok : StandOk p ((ms.take i).foldl doneBy []) s
  same : fin p tr (nothing p) ms = fin p tr s (ms.drop i)
theorem doneBy_mem {k : Nat} : ∀ {l : List Move} {d : List Nat}, k ∈ l.foldl doneBy d → k ∈ d ∨ Move.come k ∈ l
  | [], d, h => .inl h
  | .come j :: l, d, h => by
    rcases doneBy_mem (l := l) (d := j :: d) h with q | q
    · rcases List.mem_cons.mp q with e | e
      · rw [e]; exact .inr (.head _)
      · exact .inl e
    · exact .inr (.tail _ q)
  | .go j :: l, d, h => by
    rcases doneBy_mem (l := l) (d := d) h with q | q
    · exact .inl q
    · exact .inr (.tail _ q)
theorem Ran.start (p : Plan) (tr : List Nat) (ms : List Move) : Ran p tr ms 0 (nothing p) := ⟨StandOk.start p, rfl⟩
theorem drop_at {A : Type} {l : List A} {i : Nat} {x : A} (h : l[i]? = some x) : l.drop i = x :: l.drop (i + 1) := by
  obtain ⟨hl, e⟩ := List.getElem?_eq_some_iff.mp h
  rw [List.drop_eq_getElem_cons hl, e]
theorem take_snoc {A : Type} {l : List A} {i : Nat} {x : A} (h : l[i]? = some x) : l.take (i + 1) = l.take i ++ [x] := by
  rw [List.take_add_one, h]; rfl
theorem nodup_at {A : Type} {l : List A} (hn : l.Nodup) {i : Nat} {x : A} (h : l[i]? = some x) : x ∉ l.take i := by
  have e : l = l.take i ++ x :: l.drop (i + 1) := by rw [← drop_at h, List.take_append_drop]
  rw [e] at hn
  have := (List.nodup_append.mp hn).2.2
  exact fun q => this x q x (.head _) rfl
theorem Ran.next {p : Plan} {tr : List Nat} {ms : List Move} (hn : ms.Nodup) {i : Nat} {s t : Stand} {m : Move} (R : Ran p tr ms i s) (hm : ms[i]? = some m) (h : p.does tr s m = .ok t) : Ran p tr ms (i + 1) t := by
  refine ⟨?_, ?_⟩
  · rw [take_snoc hm, List.foldl_append]
    refine R.ok.step (m := m) (fun k e q => ?_) h
    subst e
    rcases doneBy_mem q with z | z
    · cases z
    · exact nodup_at hn hm z
  · rw [R.same, drop_at hm]
    exact fin_ok h
theorem Ran.stop {p : Plan} {tr : List Nat} {ms : List Move} {i : Nat} {s : Stand} {m : Move} {w : Why} (R : Ran p tr ms i s) (hm : ms[i]? = some m) (h : p.does tr s m = .error w) : fin p tr (nothing p) ms = .error (m, w) := by
  rw [R.same, drop_at hm]
  exact fin_error h
theorem Ran.last {p : Plan} {tr : List Nat} {ms : List Move} {s : Stand} (R : Ran p tr ms ms.length s) : fin p tr (nothing p) ms = .ok s := by
  rw [R.same, List.drop_length]
  rfl
end Mx
namespace Mx
open Sx61
theorem drop_cons {A : Type} {l r : List A} {x : A} {a : Nat} (h : l.drop a = x :: r) : l[a]? = some x ∧ r = l.drop (a + 1) := by
  have e : a < l.length := by
    rcases Nat.lt_or_ge a l.length with q | q
    · exact q
    · rw [List.drop_eq_nil_of_le q] at h; cases h
  rw [List.drop_eq_getElem_cons e] at h
  obtain ⟨h1, h2⟩ := List.cons.inj h
  exact ⟨by rw [List.getElem?_eq_getElem e, h1], h2.symm⟩
theorem row_at {ns x t : List Int} {a : Nat} (h : PyFlat.row (ns.drop a) = some (x, t)) :
    ∃ m : Nat, ns[a]? = some (m : Int) ∧ a + 1 + m ≤ ns.length ∧ x = (ns.drop (a + 1)).take m ∧ t = ns.drop (a + 1 + m) := by
  cases e : ns.drop a with
  | nil => rw [e] at h; cases h
  | cons n r =>
    rw [e] at h
    obtain ⟨h1, h2⟩ := drop_cons e
    have h : (if 0 ≤ n ∧ n.toNat ≤ r.length then some (r.take n.toNat, r.drop n.toNat) else none) = some (x, t) := h
    by_cases c : 0 ≤ n ∧ n.toNat ≤ r.length
    · rw [if_pos c] at h
      cases h
      refine ⟨n.toNat, ?_, ?_, by rw [h2], by rw [h2, List.drop_drop]⟩
      · rw [h1, Int.toNat_of_nonneg c.1]
      · have hl := c.2
        rw [h2, List.length_drop] at hl
        have := (List.getElem?_eq_some_iff.mp h1).1
        omega
    · rw [if_neg c] at h
      cases h
theorem rows_at {ns t : List Int} {xs : List (List Int)} {k a : Nat} (h : PyFlat.rows (k + 1) (ns.drop a) = some (xs, t)) :
    ∃ (m : Nat) (x : List Int) (ys : List (List Int)), xs = x :: ys ∧ ns[a]? = some (m : Int) ∧ a + 1 + m ≤ ns.length ∧ x = (ns.drop (a + 1)).take m ∧ PyFlat.rows k (ns.drop (a + 1 + m)) = some (ys, t) := by
  unfold PyFlat.rows at h
  split at h
  · cases h
  · rename_i x s q
    obtain ⟨m, m1, m2, m3, m4⟩ := row_at q
    split at h
    · cases h
    · rename_i ys t' q2
      cases h
      exact ⟨m, x, ys, rfl, m1, m2, m3, by rw [← m4]; exact q2⟩
theorem rows_end {ns t : List Int} {xs : List (List Int)} : ∀ {k a : Nat}, a ≤ ns.length → PyFlat.rows k (ns.drop a) = some (xs, t) → xs.length = k ∧ ∃ b, a ≤ b ∧ b ≤ ns.length ∧ t = ns.drop b
  | 0, a, ha, h => by
    unfold PyFlat.rows at h
    cases h
    exact ⟨rfl, a, Nat.le_refl _, ha, rfl⟩
  | k + 1, a, ha, h => by
    obtain ⟨m, x, ys, rfl, m1, m2, m3, m4⟩ := rows_at h
    obtain ⟨l, b, b1, b2, b3⟩ := rows_end (k := k) m2 m4
    exact ⟨by rw [List.length_cons, l], b, by omega, b2, b3⟩
theorem call_at {shape : Int → Option (Nat × Nat)} {ns t : List Int} {c : List (List Int)} {a : Nat} (h : PyFlat.call shape (ns.drop a) = some (c, t)) :
    ∃ (p : Int) (n k : Nat) (xs : List (List Int)), ns[a]? = some p ∧ shape p = some (n, k) ∧ a + 1 + n ≤ ns.length ∧ c = (p :: (ns.drop (a + 1)).take n) :: xs ∧ PyFlat.rows k (ns.drop (a + 1 + n)) = some (xs, t) := by
  cases e : ns.drop a with
  | nil => rw [e] at h; cases h
  | cons p r =>
    rw [e] at h
    obtain ⟨h1, h2⟩ := drop_cons e
    unfold PyFlat.call at h
    dsimp only at h
    cases hs : shape p with
    | none => rw [hs] at h; cases h
    | some nk =>
      obtain ⟨n, k⟩ := nk
      rw [hs] at h
      dsimp only at h
      by_cases hl : r.length < n
      · rw [if_pos hl] at h; cases h
      · rw [if_neg hl] at h
        cases q : PyFlat.rows k (r.drop n) with
        | none => rw [q] at h; cases h
        | some xt =>
          obtain ⟨xs, t'⟩ := xt
          rw [q] at h
          cases h
          have := (List.getElem?_eq_some_iff.mp h1).1
          refine ⟨p, n, k, xs, h1, hs, ?_, by rw [h2], by rw [h2, List.drop_drop] at q; exact q⟩
          rw [h2, List.length_drop] at hl
          omega
theorem calls_at {shape : Int → Option (Nat × Nat)} {ns : List Int} {cs : List (List (List Int))} {f a : Nat} (ha : a < ns.length) (h : PyFlat.calls shape f (ns.drop a) = some cs) :
    ∃ (g b : Nat) (c : List (List Int)) (ds : List (List (List Int))), cs = c :: ds ∧ PyFlat.call shape (ns.drop a) = some (c, ns.drop b) ∧ a < b ∧ b ≤ ns.length ∧ PyFlat.calls shape g (ns.drop b) = some ds := by
  cases e : ns.drop a with
  | nil =>
    have := congrArg List.length e
    rw [List.length_drop, List.length_nil] at this
    omega
  | cons p r =>
    rw [e] at h
    cases f with
    | zero => cases h
    | succ f =>
      unfold PyFlat.calls at h
      split at h
      · cases h
      · rename_i c t q
        split at h
        · cases h
        · rename_i ds q2
          cases h
          have q' := q
          rw [← e] at q'
          obtain ⟨p', n, k, xs, h1, h2, h3, h4, h5⟩ := call_at q'
          obtain ⟨l, b, b1, b2, b3⟩ := rows_end h3 h5
          exact ⟨f, b, c, ds, rfl, by rw [← b3]; exact q, by omega, b2, by rw [← b3]; exact q2⟩
theorem calls_end {shape : Int → Option (Nat × Nat)} {ns : List Int} {cs : List (List (List Int))} {f a : Nat} (ha : ns.length ≤ a) (h : PyFlat.calls shape f (ns.drop a) = some cs) : cs = [] := by
  rw [List.drop_eq_nil_of_le ha] at h
  cases f <;> (unfold PyFlat.calls at h; cases h; rfl)
theorem nat_of {z : Int} (h : Sx61Neutral.small z = true) : ∃ n : Nat, z = (n : Int) := by
  unfold Sx61Neutral.small at h
  rw [Bool.and_eq_true] at h
  have := of_decide_eq_true h.1
  exact ⟨z.toNat, by omega⟩
theorem nats_of : ∀ {l : List Int}, l.all Sx61Neutral.small = true → ∃ m : List Nat, l = m.map Int.ofNat
  | [], _ => ⟨[], rfl⟩
  | z :: l, h => by
    rw [List.all_cons, Bool.and_eq_true] at h
    obtain ⟨n, rfl⟩ := nat_of h.1
    obtain ⟨m, rfl⟩ := nats_of h.2
    exact ⟨n :: m, rfl⟩
theorem nats_map (m : List Nat) : Sx61Neutral.nats (m.map Int.ofNat) = m := by
  unfold Sx61Neutral.nats
  rw [List.map_map]
  conv => rhs; rw [← List.map_id m]
  exact List.map_congr_left fun _ _ => rfl
def b2n (b : Bool) : Nat := if b = true then 1 else 0
def row3 (t : Track) : List Nat := [t.long, b2n t.left, b2n t.right]
theorem tracks_of : ∀ {m : List Nat} {ts : List Track}, Sx61Neutral.tracksIn (m.map Int.ofNat) = some ts → Sx61Neutral.ends (m.map Int.ofNat) = true → m = ts.flatMap row3
  | [], ts, h, _ => by
    cases h
    rfl
  | [_], _, h, _ => by cases h
  | [_, _], _, h, _ => by cases h
  | a :: b :: c :: l, ts, h, e => by
    have h : (Sx61Neutral.tracksIn (l.map Int.ofNat)).map (fun t => (⟨(Int.ofNat a).toNat, Sx61Neutral.yes (Int.ofNat b), Sx61Neutral.yes (Int.ofNat c)⟩ : Track) :: t) = some ts := h
    have e : (Sx61Neutral.truth (Int.ofNat b) && (Sx61Neutral.truth (Int.ofNat c) && Sx61Neutral.ends (l.map Int.ofNat))) = true := e
    rw [Bool.and_eq_true, Bool.and_eq_true] at e
    cases q : Sx61Neutral.tracksIn (l.map Int.ofNat) with
    | none => rw [q] at h; cases h
    | some us =>
      rw [q] at h
      have h := (Option.some.inj h).symm
      subst h
      have ih := tracks_of q e.2.2
      rw [List.flatMap_cons, ← ih]
      have tb : ∀ {n : Nat}, Sx61Neutral.truth (Int.ofNat n) = true → b2n (Sx61Neutral.yes (Int.ofNat n)) = n := fun {n} h => by
        unfold Sx61Neutral.truth at h
        rw [Bool.or_eq_true] at h
        rcases h with h | h
        · have : n = 0 := by have q : (n : Int) = 0 := eq_of_beq h; omega
          subst this; rfl
        · have : n = 1 := by have q : (n : Int) = 1 := eq_of_beq h; omega
          subst this; rfl
      show a :: b :: c :: l = a :: b2n (Sx61Neutral.yes (Int.ofNat b)) :: b2n (Sx61Neutral.yes (Int.ofNat c)) :: l
      rw [tb e.1, tb e.2.1]
theorem flat3_len (ts : List Track) : (ts.flatMap row3).length = 3 * ts.length := by
  induction ts with
  | nil => rfl
  | cons t ts ih => rw [List.flatMap_cons, List.length_append, ih, List.length_cons]; show 3 + _ = _; omega
theorem flat3_at : ∀ {ts : List Track} {i : Nat} {t : Track}, ts[i]? = some t → ((ts.flatMap row3).drop (3 * i)).take 3 = row3 t
  | [], _, _, h => by simp at h
  | u :: ts, 0, t, h => by
    have e : u = t := Option.some.inj h
    subst e
    rfl
  | u :: ts, i + 1, t, h => by
    have ih := flat3_at (ts := ts) (i := i) (t := t) h
    have e : (row3 u ++ ts.flatMap row3).drop 3 = ts.flatMap row3 := rfl
    rw [List.flatMap_cons, show 3 * (i + 1) = 3 + 3 * i from by omega, ← List.drop_drop, e]
    exact ih
end Mx
namespace Mx
open Sx61
def costN (k : Nat) : Option Nat := if k = 0 then none else some (k - 1)
inductive Means : List (List Int) → Call → Prop
  | begins (ts : List Track) (h : 3 * ts.length ≤ 29) : Means [[0], (ts.flatMap row3).map Int.ofNat] (.begins ts)
  | come (m : Nat) (b : Bool) (ms ks : List Nat) (h : ms.length + ks.length ≤ 26) : Means [[1, Int.ofNat m, Int.ofNat (b2n b)], ms.map Int.ofNat, ks.map Int.ofNat] (.come ⟨m, b, ms, ks.map costN⟩)
  | go (m : Nat) (b : Bool) (ms : List Nat) (h : ms.length ≤ 27) : Means [[2, Int.ofNat m, Int.ofNat (b2n b)], ms.map Int.ofNat] (.go ⟨m, b, ms⟩)
  | undo : Means [[3]] .undo
  | try_ (ms : List Nat) (h : ms.length ≤ 29) : Means [[4], ms.map Int.ofNat] (.try_ ms)
  | stands (m : Nat) (ms : List Nat) (h : ms.length ≤ 28) : Means [[5, Int.ofNat m], ms.map Int.ofNat] (.stands m ms)
  | best : Means [[6]] .best
  | fewest : Means [[7]] .fewest
  | forced : Means [[8]] .forced
theorem len1 {A : Type} {l : List A} (h : l.length = 1) : ∃ a, l = [a] := by
  match l, h with
  | [a], _ => exact ⟨a, rfl⟩
theorem len2 {A : Type} {l : List A} (h : l.length = 2) : ∃ a b, l = [a, b] := by
  match l, h with
  | [a, b], _ => exact ⟨a, b, rfl⟩
theorem truth_of {n : Nat} (h : Sx61Neutral.truth (Int.ofNat n) = true) : ∃ b, n = b2n b ∧ Sx61Neutral.yes (Int.ofNat n) = b := by
  unfold Sx61Neutral.truth at h
  rw [Bool.or_eq_true] at h
  rcases h with h | h
  · have : n = 0 := by have q : (n : Int) = 0 := eq_of_beq h; omega
    subst this; exact ⟨false, rfl, rfl⟩
  · have : n = 1 := by have q : (n : Int) = 1 := eq_of_beq h; omega
    subst this; exact ⟨true, rfl, rfl⟩
theorem costs_map (ks : List Nat) : (ks.map Int.ofNat).map Sx61Neutral.costIn = ks.map costN := by
  rw [List.map_map]
  refine List.map_congr_left fun k _ => ?_
  show Sx61Neutral.costIn (Int.ofNat k) = costN k
  unfold Sx61Neutral.costIn costN
  by_cases h : k = 0
  · subst h; rfl
  · rw [if_neg (by intro q; exact h (by have q : (k : Int) = 0 := q; omega)), if_neg h]
    rfl
theorem means_of {p : Int} {n k : Nat} {nums : List Int} {xs : List (List Int)} (hs : PySx61.shape p = some (n, k)) (hn : nums.length = n) (hk : xs.length = k)
    (ha : Sx61Neutral.asked1 ((PySx61.whole ((p :: nums) :: xs)).headD []) = true) :
    ∃ X, Means ((p :: nums) :: xs) X ∧ ∀ s, Sx61Neutral.step s (PySx61.whole ((p :: nums) :: xs)) = ((Sx61.step s X).1, Sx61Neutral.told (Sx61.step s X).2) := by
  unfold PySx61.shape at hs
  by_cases h0 : p = 0
  · rw [if_pos h0] at hs
    cases hs
    subst h0
    obtain rfl := List.eq_nil_of_length_eq_zero hn
    obtain ⟨r0, rfl⟩ := len1 hk
    have ha : ((Sx61Neutral.callOf (0 :: r0)).isSome && ((0 :: r0).all Sx61Neutral.small && (decide ((0 :: r0).length ≤ 30) && Sx61Neutral.ends r0))) = true := ha
    rw [Bool.and_eq_true, Bool.and_eq_true, Bool.and_eq_true] at ha
    obtain ⟨a1, a2, a3, a4⟩ := ha
    rw [List.all_cons, Bool.and_eq_true] at a2
    obtain ⟨m, rfl⟩ := nats_of a2.2
    have a1 : ((Sx61Neutral.tracksIn (m.map Int.ofNat)).map Call.begins).isSome = true := a1
    cases q : Sx61Neutral.tracksIn (m.map Int.ofNat) with
    | none => rw [q] at a1; cases a1
    | some ts =>
      have e := tracks_of q a4
      have a3 := of_decide_eq_true a3
      rw [List.length_cons, List.length_map, e, flat3_len] at a3
      refine ⟨.begins ts, ?_, fun s => ?_⟩
      · rw [e]; exact .begins ts (by omega)
      · show (match ((Sx61Neutral.tracksIn (m.map Int.ofNat)).map Call.begins) with
          | some x => ((Sx61.step s x).1, Sx61Neutral.told (Sx61.step s x).2)
          | none => (s, [])) = _
        rw [q]
        rfl
  rw [if_neg h0] at hs
  by_cases h1 : p = 1
  · rw [if_pos h1] at hs
    cases hs
    subst h1
    obtain ⟨x0, x1, rfl⟩ := len2 hn
    obtain ⟨r0, r1, rfl⟩ := len2 hk
    have ew : PySx61.whole [[1, x0, x1], r0, r1] = [1 :: x0 :: x1 :: (r0.length : Int) :: (r0 ++ r1)] := by
      show [[1] ++ [x0] ++ [x1] ++ [(r0.length : Int)] ++ r0 ++ r1] = _
      simp
    rw [ew] at ha ⊢
    have ha : ((Sx61Neutral.callOf (1 :: x0 :: x1 :: (r0.length : Int) :: (r0 ++ r1))).isSome && ((1 :: x0 :: x1 :: (r0.length : Int) :: (r0 ++ r1)).all Sx61Neutral.small && (decide ((1 :: x0 :: x1 :: (r0.length : Int) :: (r0 ++ r1)).length ≤ 30) && Sx61Neutral.truth x1))) = true := ha
    rw [Bool.and_eq_true, Bool.and_eq_true, Bool.and_eq_true] at ha
    obtain ⟨a1, a2, a3, a4⟩ := ha
    simp only [List.all_cons, Bool.and_eq_true, List.all_append] at a2
    obtain ⟨_, b0, b1, _, b2, b3⟩ := a2
    obtain ⟨m, rfl⟩ := nat_of b0
    obtain ⟨z, rfl⟩ := nat_of b1
    obtain ⟨ms, rfl⟩ := nats_of b2
    obtain ⟨ks, rfl⟩ := nats_of b3
    obtain ⟨b, e1, e2⟩ := truth_of a4
    have a3 := of_decide_eq_true a3
    simp only [List.length_cons, List.length_append, List.length_map] at a3
    refine ⟨.come ⟨m, b, ms, ks.map costN⟩, ?_, fun s => ?_⟩
    · subst e1; exact .come m b ms ks (by omega)
    · show (match (if ((ms.map Int.ofNat ++ ks.map Int.ofNat).length : Int) < ((ms.map Int.ofNat).length : Int) then none else
          some (Call.come ⟨(m : Int).toNat, Sx61Neutral.yes (z : Int), Sx61Neutral.nats ((ms.map Int.ofNat ++ ks.map Int.ofNat).take ((ms.map Int.ofNat).length : Int).toNat), ((ms.map Int.ofNat ++ ks.map Int.ofNat).drop ((ms.map Int.ofNat).length : Int).toNat).map Sx61Neutral.costIn⟩)) with
          | some x => ((Sx61.step s x).1, Sx61Neutral.told (Sx61.step s x).2)
          | none => (s, [])) = _
      rw [if_neg (by rw [List.length_append]; omega)]
      have e3 : ((ms.map Int.ofNat).length : Int).toNat = (ms.map Int.ofNat).length := rfl
      have e2 : Sx61Neutral.yes (z : Int) = b := e2
      rw [e3, List.take_left, List.drop_left, nats_map, costs_map, e2]
      rfl
  rw [if_neg h1] at hs
  by_cases h2 : p = 2
  · rw [if_pos h2] at hs
    cases hs
    subst h2
    obtain ⟨x0, x1, rfl⟩ := len2 hn
    obtain ⟨r0, rfl⟩ := len1 hk
    have ew : PySx61.whole [[2, x0, x1], r0] = [2 :: x0 :: x1 :: r0] := rfl
    rw [ew] at ha ⊢
    have ha : ((Sx61Neutral.callOf (2 :: x0 :: x1 :: r0)).isSome && ((2 :: x0 :: x1 :: r0).all Sx61Neutral.small && (decide ((2 :: x0 :: x1 :: r0).length ≤ 30) && Sx61Neutral.truth x1))) = true := ha
    rw [Bool.and_eq_true, Bool.and_eq_true, Bool.and_eq_true] at ha
    obtain ⟨a1, a2, a3, a4⟩ := ha
    simp only [List.all_cons, Bool.and_eq_true] at a2
    obtain ⟨_, b0, b1, b2⟩ := a2
    obtain ⟨m, rfl⟩ := nat_of b0
    obtain ⟨z, rfl⟩ := nat_of b1
    obtain ⟨ms, rfl⟩ := nats_of b2
    obtain ⟨b, e1, e2⟩ := truth_of a4
    have a3 := of_decide_eq_true a3
    simp only [List.length_cons, List.length_map] at a3
    refine ⟨.go ⟨m, b, ms⟩, ?_, fun s => ?_⟩
    · subst e1; exact .go m b ms (by omega)
    · show ((Sx61.step s (.go ⟨(m : Int).toNat, Sx61Neutral.yes (z : Int), Sx61Neutral.nats (ms.map Int.ofNat)⟩)).1, Sx61Neutral.told (Sx61.step s (.go ⟨(m : Int).toNat, Sx61Neutral.yes (z : Int), Sx61Neutral.nats (ms.map Int.ofNat)⟩)).2) = _
      have e2 : Sx61Neutral.yes (z : Int) = b := e2
      rw [nats_map, e2]
      rfl
  rw [if_neg h2] at hs
  by_cases h3 : p = 3
  · rw [if_pos h3] at hs
    cases hs
    subst h3
    obtain rfl := List.eq_nil_of_length_eq_zero hn
    obtain rfl := List.eq_nil_of_length_eq_zero hk
    exact ⟨.undo, .undo, fun s => rfl⟩
  rw [if_neg h3] at hs
  by_cases h4 : p = 4
  · rw [if_pos h4] at hs
    cases hs
    subst h4
    obtain rfl := List.eq_nil_of_length_eq_zero hn
    obtain ⟨r0, rfl⟩ := len1 hk
    have ew : PySx61.whole [[4], r0] = [4 :: r0] := rfl
    rw [ew] at ha ⊢
    have ha : (true && ((4 :: r0).all Sx61Neutral.small && (decide ((4 :: r0).length ≤ 30) && true))) = true := ha
    rw [Bool.and_eq_true, Bool.and_eq_true, Bool.and_eq_true] at ha
    obtain ⟨_, a2, a3, _⟩ := ha
    rw [List.all_cons, Bool.and_eq_true] at a2
    obtain ⟨m, rfl⟩ := nats_of a2.2
    have a3 := of_decide_eq_true a3
    rw [List.length_cons, List.length_map] at a3
    refine ⟨.try_ m, .try_ m (by omega), fun s => ?_⟩
    show ((Sx61.step s (.try_ (Sx61Neutral.nats (m.map Int.ofNat)))).1, Sx61Neutral.told (Sx61.step s (.try_ (Sx61Neutral.nats (m.map Int.ofNat)))).2) = _
    rw [nats_map]
  rw [if_neg h4] at hs
  by_cases h5 : p = 5
  · rw [if_pos h5] at hs
    cases hs
    subst h5
    obtain ⟨x0, rfl⟩ := len1 hn
    obtain ⟨r0, rfl⟩ := len1 hk
    have ew : PySx61.whole [[5, x0], r0] = [5 :: x0 :: r0] := rfl
    rw [ew] at ha ⊢
    have ha : (true && ((5 :: x0 :: r0).all Sx61Neutral.small && (decide ((5 :: x0 :: r0).length ≤ 30) && true))) = true := ha
    rw [Bool.and_eq_true, Bool.and_eq_true, Bool.and_eq_true] at ha
    obtain ⟨_, a2, a3, _⟩ := ha
    simp only [List.all_cons, Bool.and_eq_true] at a2
    obtain ⟨_, b0, b2⟩ := a2
    obtain ⟨m, rfl⟩ := nat_of b0
    obtain ⟨ms, rfl⟩ := nats_of b2
    have a3 := of_decide_eq_true a3
    simp only [List.length_cons, List.length_map] at a3
    refine ⟨.stands m ms, .stands m ms (by omega), fun s => ?_⟩
    show ((Sx61.step s (.stands (m : Int).toNat (Sx61Neutral.nats (ms.map Int.ofNat)))).1, Sx61Neutral.told (Sx61.step s (.stands (m : Int).toNat (Sx61Neutral.nats (ms.map Int.ofNat)))).2) = _
    rw [nats_map]
    rfl
  rw [if_neg h5] at hs
  by_cases h6 : p = 6
  · rw [if_pos h6] at hs
    cases hs
    subst h6
    obtain rfl := List.eq_nil_of_length_eq_zero hn
    obtain rfl := List.eq_nil_of_length_eq_zero hk
    exact ⟨.best, .best, fun s => rfl⟩
  rw [if_neg h6] at hs
  by_cases h7 : p = 7
  · rw [if_pos h7] at hs
    cases hs
    subst h7
    obtain rfl := List.eq_nil_of_length_eq_zero hn
    obtain rfl := List.eq_nil_of_length_eq_zero hk
    exact ⟨.fewest, .fewest, fun s => rfl⟩
  rw [if_neg h7] at hs
  by_cases h8 : p = 8
  · rw [if_pos h8] at hs
    cases hs
    subst h8
    obtain rfl := List.eq_nil_of_length_eq_zero hn
    obtain rfl := List.eq_nil_of_length_eq_zero hk
    exact ⟨.forced, .forced, fun s => rfl⟩
  rw [if_neg h8] at hs
  cases hs
end Mx
namespace Mx
open Sx61
def play (s : Plan) : List Call → List (List Int)
  | [] => []
  | x :: r => Sx61Neutral.told (Sx61.step s x).2 :: play (Sx61.step s x).1 r
def behind (s : Plan) : List Call → Plan
  | [] => s
  | x :: r => behind (Sx61.step s x).1 r
theorem behind_snoc : ∀ (l : List Call) (s : Plan) (x : Call), behind s (l ++ [x]) = (Sx61.step (behind s l) x).1
  | [], _, _ => rfl
  | y :: l, s, x => behind_snoc l _ x
theorem play_append : ∀ (l m : List Call) (s : Plan), play s (l ++ m) = play s l ++ play (behind s l) m
  | [], _, _ => rfl
  | x :: l, m, s => by
    show _ :: play _ (l ++ m) = _ :: play _ l ++ _
    rw [play_append l m]
    rfl
theorem told_append (a b : List (List Int)) : PyFlat.told (a ++ b) = PyFlat.told a ++ PyFlat.told b := by
  unfold PyFlat.told
  exact List.flatMap_append
theorem told_one (a : List Int) : PyFlat.told [a] = (a.length : Int) :: a := by
  unfold PyFlat.told
  rw [List.flatMap_cons, List.flatMap_nil, List.append_nil]
theorem told_len (l : List (List Int)) : (PyFlat.told l).length = (l.map List.length).sum + l.length := by
  unfold PyFlat.told
  induction l with
  | nil => rfl
  | cons a l ih =>
    rw [List.flatMap_cons, List.length_append, ih, List.map_cons, List.sum_cons, List.length_cons, List.length_cons]
    omega
structure Asked (ns : List Int) (cs : List (List (List Int))) (Xs : List Call) : Prop where
  raw : PyFlat.calls PySx61.shape ns.length ns = some cs
  len : Xs.length = cs.length
  most : cs.length ≤ 60
  means : ∀ (i : Nat) (c : List (List Int)) (X : Call), cs[i]? = some c → Xs[i]? = some X → Means c X
  due : PySx61.answers ns = PyFlat.told (play init Xs)
  short : (PyFlat.told (play init Xs)).length ≤ 1000100
theorem raw_form : ∀ {f a : Nat} {ns : List Int} {cs : List (List (List Int))}, PyFlat.calls PySx61.shape f (ns.drop a) = some cs → ∀ c ∈ cs, ∃ p n k nums xs, c = (p :: nums) :: xs ∧ PySx61.shape p = some (n, k) ∧ nums.length = n ∧ xs.length = k
  | f, a, ns, [], _, c, hc => by cases hc
  | f, a, ns, c0 :: cs, h, c, hc => by
    have ha : a < ns.length := by
      rcases Nat.lt_or_ge a ns.length with q | q
      · exact q
      · rw [calls_end q h] at hc; cases hc
    obtain ⟨g, b, c1, ds, e, h1, h2, h3, h4⟩ := calls_at ha h
    cases e
    rcases List.mem_cons.mp hc with e | e
    · subst e
      obtain ⟨p, n, k, xs, q1, q2, q3, q4, q5⟩ := call_at h1
      refine ⟨p, n, k, _, xs, q4, q2, ?_, (rows_end q3 q5).1⟩
      rw [List.length_take, List.length_drop]
      omega
    · exact raw_form h4 c e
theorem played_means : ∀ {cs : List (List (List Int))} (s : Plan), (∀ c ∈ cs, ∃ X, Means c X ∧ ∀ s, Sx61Neutral.step s (PySx61.whole c) = ((Sx61.step s X).1, Sx61Neutral.told (Sx61.step s X).2)) →
    ∃ Xs : List Call, Xs.length = cs.length ∧ (∀ (i : Nat) (c : List (List Int)) (X : Call), cs[i]? = some c → Xs[i]? = some X → Means c X) ∧
      ∀ s, PyFlat.played Sx61Neutral.step s (cs.map PySx61.whole) = play s Xs ∧ Sx61Neutral.answers s (cs.map PySx61.whole) = play s Xs
  | [], _, _ => ⟨[], rfl, fun i c X h => by simp at h, fun s => ⟨rfl, rfl⟩⟩
  | c :: cs, s, h => by
    obtain ⟨X, m, e⟩ := h c (.head _)
    obtain ⟨Xs, l, k, q⟩ := played_means (cs := cs) s fun d hd => h d (.tail _ hd)
    refine ⟨X :: Xs, by rw [List.length_cons, l, List.length_cons], fun i d Y => ?_, fun s => ⟨?_, ?_⟩⟩
    · cases i with
      | zero =>
        intro h1 h2
        cases h1
        cases h2
        exact m
      | succ i => exact fun h1 h2 => k i d Y h1 h2
    · show (Sx61Neutral.step s (PySx61.whole c)).2 :: PyFlat.played _ (Sx61Neutral.step s (PySx61.whole c)).1 _ = _
      rw [e, (q _).1]
      rfl
    · show (Sx61Neutral.step s (PySx61.whole c)).2 :: Sx61Neutral.answers (Sx61Neutral.step s (PySx61.whole c)).1 _ = _
      rw [e, (q _).2]
      rfl
theorem asked_of {ns : List Int} (h : PySx61.answers_asked ns = true) : ∃ cs Xs, Asked ns cs Xs := by
  unfold PySx61.answers_asked at h
  cases q : PyFlat.calls PySx61.shape ns.length ns with
  | none => rw [q] at h; cases h
  | some cs =>
    rw [q] at h
    simp only [Bool.and_eq_true] at h
    obtain ⟨⟨⟨⟨h1, h2⟩, h3⟩, h4⟩, h5⟩ := h
    unfold Sx61Neutral.asked at h4
    simp only [Bool.and_eq_true] at h4
    obtain ⟨_, _, a3, _, a5⟩ := h4
    rw [List.all_map, List.all_eq_true] at a3
    have form := raw_form (f := ns.length) (a := 0) (ns := ns) (cs := cs) (by rw [List.drop_zero]; exact q)
    obtain ⟨Xs, l, k, pl⟩ := played_means (cs := cs) init fun c hc => by
      obtain ⟨p, n, k, nums, xs, rfl, e1, e2, e3⟩ := form c hc
      have := a3 _ hc
      have this : ((PySx61.whole ((p :: nums) :: xs)).length == 1 && Sx61Neutral.asked1 ((PySx61.whole ((p :: nums) :: xs)).headD [])) = true := this
      rw [Bool.and_eq_true] at this
      exact means_of e1 e2 e3 this.2
    have a5 := of_decide_eq_true a5
    have ep := (pl init).2
    have a5 : ((Sx61Neutral.answers init (cs.map PySx61.whole)).map List.length).sum < 1000000 := a5
    rw [ep] at a5
    have hm : cs.length ≤ 60 := of_decide_eq_true h2
    have pn : ∀ (Xs : List Call) (s : Plan), (play s Xs).length = Xs.length := by
      intro Xs
      induction Xs with
      | nil => intro s; rfl
      | cons x r ih => intro s; show (_ :: play _ r).length = _; rw [List.length_cons, ih, List.length_cons]
    refine ⟨cs, Xs, q, l, hm, k, ?_, ?_⟩
    · unfold PySx61.answers PySx61.calls
      rw [q]
      show PyFlat.told (PyFlat.played Sx61Neutral.step init (cs.map PySx61.whole)) = _
      rw [(pl init).1]
    · rw [told_len, pn, l]
      omega
end Mx
namespace Mx
open Sx61
structure PlanOk (p : Plan) : Prop where
  tracks : p.tracks.length ≤ 4
  long : ∀ t ∈ p.tracks, 1 ≤ t.long ∧ t.long ≤ 100
  coms : p.comings.length ≤ 6
  com : ∀ c ∈ p.comings, c.minute ≤ 10000 ∧ 1 ≤ c.parts.length ∧ c.parts.length ≤ 4 ∧ c.costs.length = p.tracks.length ∧ (∀ n ∈ c.parts, 1 ≤ n ∧ n ≤ 100) ∧ ∀ x ∈ c.costs, ∀ n, x = some n → n ≤ 1000
  goes : p.goings.length ≤ 12
  go : ∀ g ∈ p.goings, g.minute ≤ 10000 ∧ g.parts ≠ [] ∧ g.parts.Nodup ∧ (∀ i ∈ g.parts, i < p.lengths.length)
theorem distinct_iff : ∀ {l : List Nat}, distinct l = true ↔ l.Nodup
  | [] => by simp [distinct]
  | x :: l => by
    unfold distinct
    rw [Bool.and_eq_true, distinct_iff, List.nodup_cons]
    simp
theorem planOk_init : PlanOk init := ⟨by decide, fun t h => (by cases h), by decide, fun c h => (by cases h), by decide, fun g h => (by cases h)⟩
theorem lengths_snoc (p : Plan) (c : Coming) : ({ p with comings := p.comings ++ [c] } : Plan).lengths = p.lengths ++ c.parts := by
  unfold Plan.lengths
  rw [List.flatMap_append, List.flatMap_cons, List.flatMap_nil, List.append_nil]
theorem step_begins (p : Plan) (ts : List Track) : Sx61.step p (.begins ts) = if 4 < ts.length ∨ (ts.all fun x => decide (1 ≤ x.long) && decide (x.long ≤ 100)) = false then (p, ok (-1)) else (⟨ts, [], []⟩, ok (num ts.length)) := rfl
theorem PlanOk.step {p : Plan} (h : PlanOk p) (x : Call) : PlanOk (Sx61.step p x).1 := by
  cases x with
  | begins ts =>
    rw [step_begins]
    split
    · exact h
    · rename_i c
      have c1 : ts.length ≤ 4 := by
        rcases Nat.lt_or_ge 4 ts.length with q | q
        · exact absurd (.inl q) c
        · exact q
      have c2 : (ts.all fun x => decide (1 ≤ x.long) && decide (x.long ≤ 100)) = true := by
        cases q : (ts.all fun x => decide (1 ≤ x.long) && decide (x.long ≤ 100)) with
        | true => rfl
        | false => exact absurd (.inr q) c
      rw [List.all_eq_true] at c2
      refine ⟨c1, fun t ht => ?_, Nat.zero_le _, fun c h => (by cases h), Nat.zero_le _, fun g h => (by cases h)⟩
      have := c2 t ht
      rw [Bool.and_eq_true] at this
      exact ⟨of_decide_eq_true this.1, of_decide_eq_true this.2⟩
  | come c =>
    unfold Sx61.step
    dsimp only
    split
    · exact h
    · rename_i n1
      split
      · exact h
      · rename_i n2
        have m1 : c.minute ≤ 10000 := by
          rcases Nat.lt_or_ge 10000 c.minute with q | q
          · exact absurd (.inl q) n1
          · exact q
        have m2 : (decide (1 ≤ c.parts.length) && (decide (c.parts.length ≤ PARTS) && (c.parts.all (fun n => decide (1 ≤ n) && decide (n ≤ LONG)) && (c.costs.length == p.tracks.length && c.costs.all fun x => x.all fun n => decide (n ≤ COST))))) = true := by
          cases q : (decide (1 ≤ c.parts.length) && (decide (c.parts.length ≤ PARTS) && (c.parts.all (fun n => decide (1 ≤ n) && decide (n ≤ LONG)) && (c.costs.length == p.tracks.length && c.costs.all fun x => x.all fun n => decide (n ≤ COST))))) with
          | true => rfl
          | false => exact absurd (.inr q) n1
        simp only [Bool.and_eq_true, List.all_eq_true, decide_eq_true_eq, beq_iff_eq] at m2
        obtain ⟨k1, k2, k3, k4, k5⟩ := m2
        have n2 : p.comings.length < 6 := Nat.lt_of_not_le n2
        refine ⟨h.tracks, h.long, by show (p.comings ++ [c]).length ≤ 6; rw [List.length_append]; show p.comings.length + 1 ≤ 6; omega, fun d hd => ?_, h.goes, fun g hg => ?_⟩
        · rcases List.mem_append.mp hd with q | q
          · exact h.com d q
          · have e := List.mem_singleton.mp q
            subst e
            refine ⟨m1, k1, k2, k4, fun n hn => k3 n hn, fun x hx n e => ?_⟩
            have := k5 x hx
            subst e
            exact of_decide_eq_true this
        · obtain ⟨a, b, d, e⟩ := h.go g hg
          refine ⟨a, b, d, fun i hi => ?_⟩
          show i < ({ p with comings := p.comings ++ [c] } : Plan).lengths.length
          rw [lengths_snoc, List.length_append]
          have := e i hi
          omega
  | go g =>
    unfold Sx61.step
    dsimp only
    split
    · exact h
    · rename_i n1
      split
      · exact h
      · rename_i n2
        split
        · exact h
        · rename_i n3
          split
          · exact h
          · have m1 : g.minute ≤ 10000 := by
              rcases Nat.lt_or_ge 10000 g.minute with q | q
              · exact absurd (.inl q) n1
              · exact q
            have m2 : (decide (1 ≤ g.parts.length) && distinct g.parts) = true := by
              cases q : (decide (1 ≤ g.parts.length) && distinct g.parts) with
              | true => rfl
              | false => exact absurd (.inr q) n1
            rw [Bool.and_eq_true, decide_eq_true_eq, distinct_iff] at m2
            have m3 : (g.parts.all fun i => decide (i < p.lengths.length)) = true := by
              cases q : (g.parts.all fun i => decide (i < p.lengths.length)) with
              | true => rfl
              | false => exact absurd q n2
            simp only [List.all_eq_true, decide_eq_true_eq] at m3
            have n3 : p.goings.length < 12 := Nat.lt_of_not_le n3
            refine ⟨h.tracks, h.long, h.coms, h.com, by show (p.goings ++ [g]).length ≤ 12; rw [List.length_append]; show p.goings.length + 1 ≤ 12; omega, fun d hd => ?_⟩
            rcases List.mem_append.mp hd with q | q
            · exact h.go d q
            · have e := List.mem_singleton.mp q
              subst e
              exact ⟨m1, fun e => by rw [e] at m2; simp at m2, m2.2, m3⟩
  | undo =>
    unfold Sx61.step
    dsimp only
    split
    · exact h
    · refine ⟨h.tracks, h.long, h.coms, h.com, ?_, fun g hg => h.go g (List.dropLast_subset _ hg)⟩
      show p.goings.dropLast.length ≤ 12
      rw [List.length_dropLast]
      have := h.goes
      omega
  | try_ r => exact h
  | stands m r => exact h
  | best => exact h
  | fewest => exact h
  | forced => exact h
theorem PlanOk.lens {p : Plan} (h : PlanOk p) : p.lengths.length ≤ 24 := by
  have key : ∀ (l : List Coming), (∀ c ∈ l, c.parts.length ≤ 4) → (l.flatMap fun c => c.parts).length ≤ 4 * l.length := by
    intro l
    induction l with
    | nil => intro _; exact Nat.le_refl _
    | cons c l ih =>
      intro hc
      rw [List.flatMap_cons, List.length_append, List.length_cons]
      have := ih fun d hd => hc d (.tail _ hd)
      have := hc c (.head _)
      omega
  have := key p.comings fun c hc => (h.com c hc).2.2.1
  have := h.coms
  unfold Plan.lengths
  omega
end Mx
namespace Mx
open Sx61
theorem idx_none {s : Stand} {i : Nat} : (s.findIdx? fun r => r.contains i).isNone = !(s.any fun r => r.contains i) := by
  induction s with
  | nil => rfl
  | cons r s ih =>
    rw [List.findIdx?_cons, List.any_cons]
    cases h : r.contains i with
    | true => simp
    | false =>
      simp only [Bool.false_eq_true, if_false, Option.isNone_map, Bool.false_or]
      exact ih
def missing (s : Stand) (l : List Nat) : List Nat := l.filter fun i => (s.findIdx? fun r => r.contains i).isNone
theorem find_missing (s : Stand) (l : List Nat) : (l.find? fun i => !(s.any fun r => r.contains i)) = (missing s l).head? := by
  unfold missing
  rw [List.head?_filter]
  congr 1
  funext i
  rw [idx_none]
theorem does_go {p : Plan} {trs : List Nat} {s : Stand} {k : Nat} {g : Going} {x : Nat} {r : List Nat} (hg : p.goings[k]? = some g) (hx : g.parts = x :: r) (hn : ∀ row ∈ s, row.Nodup) :
    p.does trs s (.go k) = match missing s g.parts with
      | m :: _ => .error ⟨1, m⟩
      | [] => match s.findIdx? fun r => r.contains x with
        | none => .error ⟨1, x⟩
        | some n => if ((s.getD n []).drop ((s.getD n []).idxOf x)).take g.parts.length = g.parts then
            (if g.right = false ∧ 0 < (s.getD n []).idxOf x then .error ⟨3, (s.getD n []).getD ((s.getD n []).idxOf x - 1) 0⟩
            else if g.right = true ∧ (s.getD n []).idxOf x + g.parts.length < (s.getD n []).length then .error ⟨3, (s.getD n []).getD ((s.getD n []).idxOf x + g.parts.length) 0⟩
            else if ((p.tracks[n]?).any fun t => t.open_ g.right) = false then .error ⟨4, n⟩
            else .ok (s.set n ((s.getD n []).take ((s.getD n []).idxOf x) ++ (s.getD n []).drop ((s.getD n []).idxOf x + g.parts.length))))
          else .error ⟨2, x⟩ := by
  unfold Plan.does
  dsimp only
  rw [hg]
  dsimp only
  rw [find_missing]
  cases hm : missing s g.parts with
  | cons m l => rfl
  | nil =>
    dsimp only [List.head?_nil]
    have ehd : g.parts.headD 0 = x := by rw [hx]; rfl
    rw [ehd]
    cases hf : s.findIdx? fun r => r.contains x with
    | none => rfl
    | some n =>
      dsimp only
      obtain ⟨hl, hc, _⟩ := List.findIdx?_eq_some_iff_getElem.mp hf
      have hmem : s.getD n [] ∈ s := getD_mem hl
      have hxr : x ∈ s.getD n [] := by
        rw [List.getD_eq_getElem?_getD, List.getElem?_eq_getElem hl]
        simpa using hc
      generalize s.getD n [] = row at hmem hxr
      have ha := around_at (r := r) (hn row hmem) hxr
      rw [← hx] at ha
      rw [ha]
      by_cases c1 : (row.drop (row.idxOf x)).take g.parts.length = g.parts
      · rw [if_pos c1, if_pos c1]
        dsimp only
        have hlt : row.idxOf x < row.length := List.idxOf_lt_length_of_mem hxr
        cases hr : g.right with
        | false =>
          simp only [Bool.false_eq_true, if_false, true_and, false_and]
          by_cases c2 : 0 < row.idxOf x
          · rw [if_pos c2]
            have e : (row.take (row.idxOf x)).getLast? = some (row.getD (row.idxOf x - 1) 0) := by
              rw [List.getLast?_eq_getElem?, List.length_take, Nat.min_eq_left (Nat.le_of_lt hlt), List.getElem?_take_of_lt (by omega), List.getD_eq_getElem?_getD, List.getElem?_eq_getElem (by omega)]
              rfl
            rw [e]
          · rw [if_neg c2]
            have e : row.idxOf x = 0 := by omega
            rw [e]
            rfl
        | true =>
          simp only [if_true, Bool.true_eq_false, false_and, if_false, true_and]
          by_cases c2 : row.idxOf x + g.parts.length < row.length
          · rw [if_pos c2]
            have e : (row.drop (row.idxOf x + g.parts.length)).head? = some (row.getD (row.idxOf x + g.parts.length) 0) := by
              rw [List.head?_drop, List.getD_eq_getElem?_getD, List.getElem?_eq_getElem c2]
              rfl
            rw [e]
          · rw [if_neg c2]
            have e : row.drop (row.idxOf x + g.parts.length) = [] := List.drop_eq_nil_of_le (by omega)
            rw [e]
            rfl
      · rw [if_neg c1, if_neg c1]
end Mx
namespace Mx
open Sx61
section
variable {A : Type} {p : Plan}
def putP (p : Plan) (x : Move × A) : List (Move × A) → List (Move × A)
  | [] => [x]
  | y :: l => if p.minuteOf x.1 < p.minuteOf y.1 then x :: y :: l else y :: putP p x l
theorem putP_fst {x : Move × A} : ∀ l : List (Move × A), (putP p x l).map Prod.fst = putIn p x.1 (l.map Prod.fst)
  | [] => rfl
  | y :: l => by
    unfold putP
    rw [List.map_cons]
    unfold putIn
    split
    · rfl
    · rw [List.map_cons, putP_fst l]
theorem putP_mem {x y : Move × A} : ∀ {l : List (Move × A)}, y ∈ putP p x l ↔ y = x ∨ y ∈ l
  | [] => by simp [putP]
  | z :: l => by
    unfold putP
    split
    · simp
    · rw [List.mem_cons, putP_mem, List.mem_cons]
      constructor
      · rintro (h | h | h)
        · exact .inr (.inl h)
        · exact .inl h
        · exact .inr (.inr h)
      · rintro (h | h | h)
        · exact .inr (.inl h)
        · exact .inl h
        · exact .inr (.inr h)
theorem putP_sorted {x : Move × A} : ∀ {l : List (Move × A)}, l.Pairwise (fun a b => mi p a.1 ≤ mi p b.1) → (putP p x l).Pairwise (fun a b => mi p a.1 ≤ mi p b.1)
  | [], _ => by unfold putP; exact List.pairwise_singleton _ _
  | y :: l, h => by
    obtain ⟨h1, h2⟩ := List.pairwise_cons.mp h
    unfold putP
    split
    · rename_i c
      refine List.pairwise_cons.mpr ⟨fun z hz => ?_, h⟩
      rcases List.mem_cons.mp hz with e | e
      · rw [e]; exact Int.ofNat_le.mpr (Nat.le_of_lt c)
      · exact Int.le_trans (Int.ofNat_le.mpr (Nat.le_of_lt c)) (h1 z e)
    · rename_i c
      refine List.pairwise_cons.mpr ⟨fun z hz => ?_, putP_sorted h2⟩
      rcases putP_mem.mp hz with e | e
      · rw [e]; exact Int.ofNat_le.mpr (Nat.le_of_not_lt c)
      · exact h1 z e
theorem putP_filter {x : Move × A} (z : Int) : ∀ {l : List (Move × A)}, l.Pairwise (fun a b => mi p a.1 ≤ mi p b.1) →
    (putP p x l).filter (fun a => mi p a.1 == z) = l.filter (fun a => mi p a.1 == z) ++ [x].filter (fun a => mi p a.1 == z)
  | [], _ => by unfold putP; rfl
  | y :: l, h => by
    obtain ⟨h1, h2⟩ := List.pairwise_cons.mp h
    unfold putP
    split
    · rename_i c
      by_cases e : mi p x.1 = z
      · have n : (y :: l).filter (fun a => mi p a.1 == z) = [] := by
          rw [List.filter_eq_nil_iff]
          intro w hw q
          have q' : mi p w.1 = z := by simpa using q
          have lt : mi p x.1 < mi p y.1 := Int.ofNat_lt.mpr c
          rcases List.mem_cons.mp hw with e' | e'
          · subst e'; omega
          · have := h1 w e'; omega
        rw [List.filter_cons, if_pos (by simp [e]), n, List.filter_cons, if_pos (by simp [e])]
        rfl
      · rw [List.filter_cons, if_neg (by simp [e]), show [x].filter (fun a => mi p a.1 == z) = [] from by rw [List.filter_cons, if_neg (by simp [e])]; rfl, List.append_nil]
    · rw [List.filter_cons, List.filter_cons, putP_filter z h2]
      split
      · rfl
      · rfl
theorem foldP (L : List (Move × A)) : ∀ acc : List (Move × A), acc.Pairwise (fun a b => mi p a.1 ≤ mi p b.1) →
    (L.foldl (fun l m => putP p m l) acc).map Prod.fst = (L.map Prod.fst).foldl (fun l m => putIn p m l) (acc.map Prod.fst) ∧ (L.foldl (fun l m => putP p m l) acc).Pairwise (fun a b => mi p a.1 ≤ mi p b.1) ∧
    (∀ z, (L.foldl (fun l m => putP p m l) acc).filter (fun a => mi p a.1 == z) = acc.filter (fun a => mi p a.1 == z) ++ L.filter (fun a => mi p a.1 == z)) ∧ ∀ x, x ∈ L.foldl (fun l m => putP p m l) acc → x ∈ acc ∨ x ∈ L := by
  induction L with
  | nil => intro acc h; exact ⟨rfl, h, fun z => by rw [List.foldl_nil, List.filter_nil, List.append_nil], fun x hx => .inl hx⟩
  | cons m L ih =>
    intro acc h
    obtain ⟨i1, i2, i3, i4⟩ := ih (putP p m acc) (putP_sorted h)
    refine ⟨?_, i2, fun z => ?_, fun x hx => ?_⟩
    · rw [List.foldl_cons, i1, putP_fst, List.map_cons, List.foldl_cons]
    · rw [List.foldl_cons, i3 z, putP_filter z h, List.append_assoc, ← List.filter_append]
      rfl
    · rcases i4 x hx with q | q
      · rcases putP_mem.mp q with e | e
        · exact .inr (by rw [e]; exact .head _)
        · exact .inl e
      · exact .inr (.tail _ q)
theorem moves_with {as : List A} (hl : as.length = (raw p).length) {ps : List (Int × A)} (h1 : ps.Pairwise (fun a b => a.1 ≤ b.1)) (h2 : ∀ z, ps.filter (fun a => a.1 == z) = (((raw p).map (mi p)).zip as).filter (fun a => a.1 == z)) :
    ∃ qs : List (Move × A), qs.map Prod.fst = p.moves ∧ qs.map Prod.snd = ps.map Prod.snd ∧ ∀ q ∈ qs, q ∈ (raw p).zip as := by
  obtain ⟨f1, f2, f3, f4⟩ := foldP (p := p) ((raw p).zip as) [] List.Pairwise.nil
  refine ⟨_, ?_, ?_, fun q hq => (f4 q hq).resolve_left (by simp)⟩
  · rw [f1, List.map_fst_zip (by omega)]
    rfl
  · have e : ps = (((raw p).zip as).foldl (fun l m => putP p m l) []).map fun q => (mi p q.1, q.2) := by
      refine stable_unique Prod.fst _ _ h1 (by rw [List.pairwise_map]; exact f2) fun z => ?_
      rw [h2 z, List.filter_map]
      have e2 : ((raw p).map (mi p)).zip as = ((raw p).zip as).map fun q => (mi p q.1, q.2) := by
        rw [List.zip_map_left]
        exact List.map_congr_left fun q _ => rfl
      rw [e2, List.filter_map]
      congr 1
      have := f3 z
      rw [List.filter_nil, List.nil_append] at this
      exact this.symm
    rw [e, List.map_map]
    rfl
end
end Mx
namespace Mx
open Sx61
theorem costs_all (ks : List Nat) : ((ks.map costN).all fun x => x.all fun n => decide (n ≤ COST)) = ks.all fun n => decide (n ≤ 1001) := by
  rw [List.all_map]
  congr 1
  funext k
  show (costN k).all (fun n => decide (n ≤ 1000)) = decide (k ≤ 1001)
  unfold costN
  by_cases h : k = 0
  · subst h; rfl
  · rw [if_neg h]
    show decide (k - 1 ≤ 1000) = _
    exact decide_eq_decide.mpr (by omega)
theorem beq_eq {a b : Nat} : (a == b) = true ↔ a = b := beq_iff_eq
theorem ite_chain {A : Type} {c1 p2 p3 p5 : Prop} [Decidable c1] [Decidable p2] [Decidable p3] [Decidable p5] {x y : A} {a d b : Bool} (hd : d = true ↔ p5) :
    (if c1 ∨ (decide p2 && (decide p3 && (a && (d && b)))) = false then x else y) = if c1 then x else if ¬ p2 then x else if ¬ p3 then x else if a = false then x else if ¬ p5 then x else if b = false then x else y := by
  have h5 : d = decide p5 := by
    cases d with
    | true => rw [decide_eq_true (hd.mp rfl)]
    | false => rw [decide_eq_false (fun z => by have := hd.mpr z; cases this)]
  subst h5
  by_cases h1 : c1
  · simp [h1]
  · by_cases h2 : p2
    · by_cases h3 : p3
      · cases a
        · simp [h1, h2, h3]
        · by_cases h5 : p5
          · cases b
            · simp [h1, h2, h3, h5]
            · simp [h1, h2, h3, h5]
          · simp [h1, h2, h3, h5]
      · simp [h1, h2, h3]
    · simp [h1, h2]
theorem step_come (p : Plan) (m : Nat) (b : Bool) (ms ks : List Nat) : Sx61.step p (.come ⟨m, b, ms, ks.map costN⟩) =
    if 10000 < m then (p, ok (-1)) else if ¬ 1 ≤ ms.length then (p, ok (-1)) else if ¬ ms.length ≤ 4 then (p, ok (-1)) else if (ms.all fun n => decide (1 ≤ n) && decide (n ≤ 100)) = false then (p, ok (-1)) else
    if ¬ ks.length = p.tracks.length then (p, ok (-1)) else if (ks.all fun n => decide (n ≤ 1001)) = false then (p, ok (-1)) else if 6 ≤ p.comings.length then (p, ok (-5)) else
    ({ p with comings := p.comings ++ [⟨m, b, ms, ks.map costN⟩] }, ⟨num p.comings.length, [(List.range ms.length).map fun i => p.lengths.length + i]⟩) := by
  have base : Sx61.step p (.come ⟨m, b, ms, ks.map costN⟩) = if 10000 < m ∨ (decide (1 ≤ ms.length) && (decide (ms.length ≤ 4) && (ms.all (fun n => decide (1 ≤ n) && decide (n ≤ 100)) && ((ks.map costN).length == p.tracks.length && (ks.map costN).all fun x => x.all fun n => decide (n ≤ COST))))) = false then (p, ok (-1)) else if 6 ≤ p.comings.length then (p, ok (-5)) else
    ({ p with comings := p.comings ++ [⟨m, b, ms, ks.map costN⟩] }, ⟨num p.comings.length, [(List.range ms.length).map fun i => p.lengths.length + i]⟩) := rfl
  rw [base, costs_all, List.length_map]
  exact ite_chain beq_eq
theorem step_go (p : Plan) (m : Nat) (b : Bool) (ms : List Nat) : Sx61.step p (.go ⟨m, b, ms⟩) =
    if 10000 < m then (p, ok (-1)) else if ms = [] then (p, ok (-1)) else if ¬ ms.Nodup then (p, ok (-1)) else if ¬ (∀ i ∈ ms, i < p.lengths.length) then (p, ok (-2)) else if 12 ≤ p.goings.length then (p, ok (-5)) else
    if (ms.any fun i => p.goings.any fun h => h.parts.contains i) = true then (p, ok (-3)) else ({ p with goings := p.goings ++ [⟨m, b, ms⟩] }, ok (num p.goings.length)) := by
  have base : Sx61.step p (.go ⟨m, b, ms⟩) = if 10000 < m ∨ (decide (1 ≤ ms.length) && distinct ms) = false then (p, ok (-1)) else if (ms.all fun i => decide (i < p.lengths.length)) = false then (p, ok (-2)) else if 12 ≤ p.goings.length then (p, ok (-5)) else
    if (ms.any fun i => p.goings.any fun h => h.parts.contains i) = true then (p, ok (-3)) else ({ p with goings := p.goings ++ [⟨m, b, ms⟩] }, ok (num p.goings.length)) := rfl
  rw [base]
  by_cases c1 : 10000 < m
  · rw [if_pos (.inl c1), if_pos c1]
  rw [if_neg c1]
  by_cases c2 : ms = []
  · rw [if_pos c2, if_pos (.inr (by subst c2; rfl))]
  rw [if_neg c2]
  have c2' : 1 ≤ ms.length := by
    cases ms with
    | nil => exact absurd rfl c2
    | cons => exact Nat.succ_le_succ (Nat.zero_le _)
  by_cases c3 : ms.Nodup
  · rw [if_neg (not_not_intro c3), if_neg (fun z => by
      rcases z with z | z
      · exact c1 z
      · rw [decide_eq_true c2', distinct_iff.mpr c3] at z
        cases z)]
    by_cases c4 : ∀ i ∈ ms, i < p.lengths.length
    · rw [if_neg (not_not_intro c4), if_neg (fun z => by
        rw [List.all_eq_false] at z
        obtain ⟨i, hi, hz⟩ := z
        exact hz (decide_eq_true (c4 i hi)))]
    · rw [if_pos c4, if_pos]
      cases e : ms.all fun i => decide (i < p.lengths.length) with
      | false => rfl
      | true =>
        rw [List.all_eq_true] at e
        exact absurd (fun i hi => of_decide_eq_true (e i hi)) c4
  · rw [if_pos c3, if_pos (.inr (by
      cases e : distinct ms with
      | false => simp
      | true => exact absurd (distinct_iff.mp e) c3))]
end Mx
namespace Mx
open Sx61
theorem does_cost {p : Plan} {tr : List Nat} {s t : Stand} {k : Nat} (h : p.does tr s (.come k) = .ok t) : ∃ c, p.comings[k]? = some c ∧ (c.costs.getD (tr.getD k 0) none).isSome = true := by
  unfold Plan.does at h
  dsimp only at h
  split at h
  · rename_i c tk hc ht
    split at h
    · cases h
    · rename_i hs
      refine ⟨c, hc, ?_⟩
      cases e : c.costs.getD (tr.getD k 0) none with
      | none => rw [e] at hs; exact absurd rfl hs
      | some n => rfl
  · cases h
theorem fin_costs {p : Plan} {tr : List Nat} : ∀ {l : List Move} {s t : Stand}, fin p tr s l = .ok t → ∀ k, Move.come k ∈ l → ∃ c, p.comings[k]? = some c ∧ (c.costs.getD (tr.getD k 0) none).isSome = true
  | [], _, _, _, k, hk => by cases hk
  | m :: l, s, t, h, k, hk => by
    unfold fin at h
    split at h
    · cases h
    · rename_i s' hd
      rcases List.mem_cons.mp hk with e | e
      · subst e
        exact does_cost hd
      · exact fin_costs h k e
theorem come_in (p : Plan) {k : Nat} (h : k < p.comings.length) : Move.come k ∈ p.moves := by
  rw [moves_mem]
  unfold raw
  exact List.mem_append_right _ (List.mem_map.mpr ⟨k, List.mem_range.mpr h, rfl⟩)
def Priced (p : Plan) (tr : List Nat) : Prop := ∀ (k : Nat) (c : Coming) (n : Nat), p.comings[k]? = some c → tr[k]? = some n → (c.costs.getD n none).isSome = true
theorem priced_of {p : Plan} {tr : List Nat} {s t : Stand} (h : fin p tr s p.moves = .ok t) : Priced p tr := by
  intro k c n hc hn
  obtain ⟨c', e1, e2⟩ := fin_costs h k (come_in p (List.getElem?_eq_some_iff.mp hc).1)
  rw [hc] at e1
  cases e1
  have e3 : tr.getD k 0 = n := by rw [List.getD_eq_getElem?_getD, hn]; rfl
  rw [e3] at e2
  exact e2
theorem all_fin (p : Plan) (tr : List Nat) : fin p tr (nothing p) p.moves = match p.all tr with
    | .error e => .error e
    | .ok r => .ok (r.getLast?.getD (nothing p)) := run_fin p tr p.moves (nothing p)
theorem step_try (p : Plan) (r : List Nat) : Sx61.step p (.try_ r) = (p, if rowOk p r = false then ok (-1) else match fin p r (nothing p) p.moves with
    | .ok _ => ⟨num (p.cost r), []⟩
    | .error e => ⟨-6, [moveOut e.1, [e.2.kind, e.2.what]]⟩) := by
  unfold Sx61.step
  dsimp only
  congr 1
  split
  · rfl
  · rw [all_fin]
    cases p.all r <;> rfl
theorem step_stands (p : Plan) (m : Nat) (r : List Nat) : Sx61.step p (.stands m r) = (p, if 10000 < m ∨ rowOk p r = false then ok (-1) else match fin p r (nothing p) (p.moves.filter fun x => decide (p.minuteOf x ≤ m)) with
    | .error e => ⟨-6, [moveOut e.1, [e.2.kind, e.2.what]]⟩
    | .ok s => ⟨num (s.map fun x => x.length).sum, s⟩) := by
  have base : Sx61.step p (.stands m r) = (p, if 10000 < m ∨ rowOk p r = false then ok (-1) else match p.run r (nothing p) (p.moves.filter fun x => decide (p.minuteOf x ≤ m)) with
    | .error e => ⟨-6, [moveOut e.1, [e.2.kind, e.2.what]]⟩
    | .ok l => let s := l.getLast?.getD (nothing p)
      ⟨num (s.map fun x => x.length).sum, s⟩) := rfl
  rw [base]
  congr 1
  split
  · rfl
  · rw [run_fin]
    cases p.run r (nothing p) (p.moves.filter fun x => decide (p.minuteOf x ≤ m)) <;> rfl
theorem right_fin (p : Plan) (tr : List Nat) : p.right tr = (match fin p tr (nothing p) p.moves with | .ok _ => true | .error _ => false) := by
  unfold Plan.right
  rw [all_fin]
  cases p.all tr <;> rfl
end Mx
namespace Mx
open Sx61
theorem mem_rows {n : Nat} : ∀ {k : Nat} {r : List Nat}, r ∈ rows n k ↔ r.length = k ∧ ∀ t ∈ r, t < n
  | 0, r => by
    unfold rows
    constructor
    · intro h
      rw [List.mem_singleton.mp h]
      exact ⟨rfl, fun t ht => by cases ht⟩
    · rintro ⟨h, _⟩
      rw [List.eq_nil_of_length_eq_zero h]
      exact .head _
  | k + 1, r => by
    unfold rows
    rw [List.mem_flatMap]
    constructor
    · rintro ⟨t, ht, h⟩
      obtain ⟨q, hq, rfl⟩ := List.mem_map.mp h
      obtain ⟨e1, e2⟩ := mem_rows.mp hq
      refine ⟨by rw [List.length_cons, e1], fun x hx => ?_⟩
      rcases List.mem_cons.mp hx with e | e
      · rw [e]; exact List.mem_range.mp ht
      · exact e2 x e
    · rintro ⟨h1, h2⟩
      cases r with
      | nil => cases h1
      | cons t q => exact ⟨t, List.mem_range.mpr (h2 t (.head _)), List.mem_map.mpr ⟨q, mem_rows.mpr ⟨Nat.succ.inj h1, fun x hx => h2 x (.tail _ hx)⟩, rfl⟩⟩
theorem rows_len (n : Nat) : ∀ k : Nat, (rows n k).length = n ^ k
  | 0 => rfl
  | k + 1 => by
    unfold rows
    rw [List.length_flatMap]
    simp only [List.length_map, rows_len n k]
    have e : ∀ m x : Nat, (List.replicate m x).sum = m * x := by
      intro m x
      induction m with
      | zero => simp
      | succ m ih => rw [List.replicate_succ, List.sum_cons, ih, Nat.succ_mul, Nat.add_comm]
    rw [List.map_const', e, List.length_range, Nat.pow_succ, Nat.mul_comm]
theorem rows_snoc (n : Nat) : ∀ k : Nat, rows n (k + 1) = (rows n k).flatMap fun r => (List.range n).map fun t => r ++ [t]
  | 0 => by
    show (List.range n).flatMap (fun t => [[t]]) = [([] : List Nat)].flatMap _
    rw [List.flatMap_cons, List.flatMap_nil, List.append_nil]
    induction List.range n with
    | nil => rfl
    | cons x l ih => rw [List.flatMap_cons, ih]; rfl
  | k + 1 => by
    have ih := rows_snoc n k
    show (List.range n).flatMap (fun t => (rows n (k + 1)).map fun r => t :: r) = ((List.range n).flatMap fun t => (rows n k).map fun r => t :: r).flatMap _
    rw [List.flatMap_assoc]
    congr 1
    funext t
    rw [ih, List.map_flatMap, List.flatMap_map]
    congr 1
    funext r
    rw [List.map_map]
    rfl
theorem rowOk_iff {p : Plan} {r : List Nat} : rowOk p r = true ↔ r ∈ rows p.tracks.length p.comings.length := by
  unfold rowOk
  rw [Bool.and_eq_true, List.all_eq_true, mem_rows]
  constructor
  · rintro ⟨h1, h2⟩
    exact ⟨by simpa using h1, fun t ht => of_decide_eq_true (h2 t ht)⟩
  · rintro ⟨h1, h2⟩
    exact ⟨by simpa using h1, fun t ht => decide_eq_true (h2 t ht)⟩
theorem ways_mem {p : Plan} {r : List Nat} : r ∈ p.ways ↔ rowOk p r = true ∧ p.right r = true := by
  unfold Plan.ways
  rw [List.mem_filter, rowOk_iff]
theorem least_none {f : List Nat → Nat} {l : List (List Nat)} : least f l = none ↔ l = [] := by
  cases l with
  | nil => exact ⟨fun _ => rfl, fun _ => rfl⟩
  | cons a l =>
    constructor
    · intro h
      unfold least at h
      split at h
      · cases h
      · split at h <;> cases h
    · intro h; cases h
theorem least_is {f : List Nat → Nat} : ∀ {l : List (List Nat)} {r : List Nat}, least f l = some r → ∃ i : Nat, l[i]? = some r ∧ (∀ (j : Nat) (x : List Nat), l[j]? = some x → f r ≤ f x) ∧ ∀ (j : Nat) (x : List Nat), j < i → l[j]? = some x → f r < f x
  | [], r, h => by cases h
  | a :: l, r, h => by
    unfold least at h
    cases e : least f l with
    | none =>
      rw [e] at h
      cases h
      have := least_none.mp e
      subst this
      refine ⟨0, rfl, fun j x hx => ?_, fun j x hj => absurd hj (Nat.not_lt_zero _)⟩
      cases j with
      | zero => cases hx; exact Nat.le_refl _
      | succ j => simp at hx
    | some b =>
      rw [e] at h
      have h : (if f b < f a then some b else some a) = some r := h
      obtain ⟨i, i1, i2, i3⟩ := least_is e
      by_cases c : f b < f a
      · rw [if_pos c] at h
        cases h
        refine ⟨i + 1, by rw [List.getElem?_cons_succ]; exact i1, fun j x hx => ?_, fun j x hj hx => ?_⟩
        · cases j with
          | zero => cases hx; omega
          | succ j => rw [List.getElem?_cons_succ] at hx; exact i2 j x hx
        · cases j with
          | zero => cases hx; exact c
          | succ j => rw [List.getElem?_cons_succ] at hx; exact i3 j x (by omega) hx
      · rw [if_neg c] at h
        cases h
        refine ⟨0, rfl, fun j x hx => ?_, fun j x hj => absurd hj (Nat.not_lt_zero _)⟩
        cases j with
        | zero => cases hx; exact Nat.le_refl _
        | succ j =>
          rw [List.getElem?_cons_succ] at hx
          have := i2 j x hx
          omega
theorem least_mem {f : List Nat → Nat} {l : List (List Nat)} {r : List Nat} (h : least f l = some r) : r ∈ l := by
  obtain ⟨i, i1, _⟩ := least_is h
  exact List.mem_of_getElem? i1
theorem cost_le {p : Plan} (h : PlanOk p) {r : List Nat} : p.cost r ≤ 1000 * p.comings.length := by
  unfold Plan.cost
  have : ∀ (l : List Coming) (r : List Nat), (∀ c ∈ l, ∀ x ∈ c.costs, ∀ n, x = some n → n ≤ 1000) → ((l.zip r).map fun x => (x.1.costs.getD x.2 none).getD 0).sum ≤ 1000 * l.length := by
    intro l
    induction l with
    | nil => intro r _; exact Nat.le_refl _
    | cons c l ih =>
      intro r hc
      cases r with
      | nil => exact Nat.zero_le _
      | cons t r =>
        rw [List.zip_cons_cons, List.map_cons, List.sum_cons, List.length_cons]
        have i1 := ih r fun d hd => hc d (.tail _ hd)
        have i2 : (c.costs.getD t none).getD 0 ≤ 1000 := by
          cases e : c.costs.getD t none with
          | none => exact Nat.zero_le _
          | some n =>
            refine hc c (.head _) (some n) ?_ n rfl
            rw [List.getD_eq_getElem?_getD] at e
            cases e2 : c.costs[t]? with
            | none => rw [e2] at e; cases e
            | some y =>
              rw [e2] at e
              have e : y = some n := e
              rw [← e]
              exact List.mem_of_getElem? e2
        show (c.costs.getD t none).getD 0 + _ ≤ _
        omega
  exact this _ _ fun c hc => (h.com c hc).2.2.2.2.2
theorem nodup_len_eq {A : Type} [DecidableEq A] : ∀ {a b : List A}, a.Nodup → b.Nodup → (∀ x, x ∈ a ↔ x ∈ b) → a.length = b.length
  | [], b, _, _, h => by
    cases b with
    | nil => rfl
    | cons y b => exact absurd ((h y).mpr (.head _)) (by simp)
  | x :: a, b, ha, hb, h => by
    obtain ⟨n1, n2⟩ := List.nodup_cons.mp ha
    have hx : x ∈ b := (h x).mp (.head _)
    have ih := nodup_len_eq (a := a) (b := b.erase x) n2 (hb.erase x) fun y => by
      rw [List.Nodup.mem_erase_iff hb]
      constructor
      · intro hy
        exact ⟨fun z => n1 (by rw [← z]; exact hy), (h y).mp (.tail _ hy)⟩
      · rintro ⟨y1, y2⟩
        exact (List.mem_cons.mp ((h y).mpr y2)).resolve_left y1
    rw [List.length_cons, ih, List.length_erase_of_mem hx]
    have : 0 < b.length := List.length_pos_of_mem hx
    omega
theorem dups_mem : ∀ (n : Nat) (l : List Nat), l.length ≤ n → (∀ x, x ∈ l.eraseDups ↔ x ∈ l) ∧ l.eraseDups.Nodup
  | n, [], _ => ⟨fun x => Iff.rfl, List.nodup_nil⟩
  | 0, a :: l, h => by cases h
  | n + 1, a :: l, h => by
    have hl : (l.filter fun b => !b == a).length ≤ n := Nat.le_trans (List.length_filter_le _ _) (Nat.le_of_succ_le_succ h)
    obtain ⟨m1, m2⟩ := dups_mem n _ hl
    rw [List.eraseDups_cons]
    refine ⟨fun x => ?_, List.nodup_cons.mpr ⟨fun z => ?_, m2⟩⟩
    · rw [List.mem_cons, List.mem_cons, m1, List.mem_filter]
      constructor
      · rintro (e | e)
        · exact .inl e
        · exact .inr e.1
      · rintro (e | e)
        · exact .inl e
        · by_cases c : x = a
          · exact .inl c
          · exact .inr ⟨e, by simp [c]⟩
    · have := (List.mem_filter.mp ((m1 a).mp z)).2
      simp at this
end Mx
namespace Mx
open Sx61
def isOk {A B : Type} : Except A B → Bool
  | .ok _ => true
  | .error _ => false
def toO {A B : Type} : Except A B → Option B
  | .ok b => some b
  | .error _ => none
def grp (tr : List Nat) (t : Nat) : List Nat := (List.range tr.length).filter fun k => tr[k]? == some t
theorem mem_grp {tr : List Nat} {t k : Nat} : k ∈ grp tr t ↔ tr[k]? = some t := by
  unfold grp
  rw [List.mem_filter, List.mem_range]
  constructor
  · rintro ⟨_, h⟩
    exact eq_of_beq h
  · intro h
    exact ⟨(List.getElem?_eq_some_iff.mp h).1, by rw [h]; exact beq_self_eq_true _⟩
def partsAt (p : Plan) (g : List Nat) : List Nat := g.flatMap p.partsOf
def partsM (p : Plan) : Move → List Nat
  | .come k => p.partsOf k
  | .go k => ((p.goings[k]?).map fun g => g.parts).getD []
def mine (p : Plan) (g : List Nat) (m : Move) : Bool := (partsM p m).any fun i => (partsAt p g).contains i
theorem mine_iff {p : Plan} {g : List Nat} {m : Move} : mine p g m = true ↔ ∃ i ∈ partsM p m, ∃ k ∈ g, i ∈ p.partsOf k := by
  unfold mine partsAt
  rw [List.any_eq_true]
  constructor
  · rintro ⟨i, hi, h⟩
    rw [List.contains_iff_mem, List.mem_flatMap] at h
    exact ⟨i, hi, h⟩
  · rintro ⟨i, hi, h⟩
    exact ⟨i, hi, by rw [List.contains_iff_mem, List.mem_flatMap]; exact h⟩
theorem mine_come {p : Plan} (ok : PlanOk p) {g : List Nat} {k : Nat} (hk : k < p.comings.length) : mine p g (.come k) = true ↔ k ∈ g := by
  rw [mine_iff]
  constructor
  · rintro ⟨i, hi, j, hj, h⟩
    rw [partsOf_one hi h]
    exact hj
  · intro h
    have hc : p.comings[k]? = some p.comings[k] := List.getElem?_eq_getElem hk
    have hl := (ok.com _ (List.mem_of_getElem? hc)).2.1
    have hm : p.first k ∈ p.partsOf k := mem_partsOf.mpr ⟨_, hc, Nat.le_refl _, by omega⟩
    exact ⟨_, hm, k, h, hm⟩
theorem part_home {p : Plan} {i : Nat} (h : i < p.lengths.length) : ∃ k, i ∈ p.partsOf k := by
  rw [lengths_len] at h
  have key : ∀ n, n ≤ p.comings.length → i < p.first n → ∃ k, i ∈ p.partsOf k := by
    intro n
    induction n with
    | zero =>
      intro _ hi
      have e : p.first 0 = 0 := rfl
      omega
    | succ n ih =>
      intro hn hi
      have hc : p.comings[n]? = some p.comings[n] := List.getElem?_eq_getElem (by omega)
      by_cases c : i < p.first n
      · exact ih (by omega) c
      · rw [first_succ hc] at hi
        exact ⟨n, mem_partsOf.mpr ⟨_, hc, by omega, hi⟩⟩
  exact key _ (Nat.le_refl _) h
def Own (p : Plan) (tr : List Nat) (s : Stand) : Prop := s.length = p.tracks.length ∧ ∀ t i, i ∈ s.getD t [] → ∃ k, tr[k]? = some t ∧ i ∈ p.partsOf k
theorem Own.one {p : Plan} {tr : List Nat} {s : Stand} (h : Own p tr s) {t i k n : Nat} (hi : i ∈ s.getD t []) (hk : i ∈ p.partsOf k) (hn : tr[k]? = some n) : t = n := by
  obtain ⟨j, h1, h2⟩ := h.2 t i hi
  rw [partsOf_one hk h2, h1] at hn
  exact Option.some.inj hn
theorem around_mem {l : List Nat} : ∀ {row : List Nat} {y : List Nat × List Nat}, around l row = some y → ∀ i ∈ l, i ∈ row
  | [], y, h, i, hi => by
    unfold around at h
    split at h
    · rename_i c; rw [c] at hi; exact hi
    · cases h
  | x :: r, y, h, i, hi => by
    unfold around at h
    split at h
    · rename_i c
      rw [← c] at hi
      exact List.mem_of_mem_take hi
    · cases q : around l r with
      | none => rw [q] at h; cases h
      | some z => exact .tail _ (around_mem q i hi)
def goRow (p : Plan) (g : Going) (n : Nat) (row : List Nat) : Option (List Nat) := match around g.parts row with
  | none => none
  | some y => match (if g.right = true then (if g.right = true then y.2 else y.1).head? else (if g.right = true then y.2 else y.1).getLast?) with
    | some _ => none
    | none => if ((p.tracks[n]?).any fun t => t.open_ g.right) = false then none else some (y.1 ++ y.2)
def comeRow (p : Plan) (c : Coming) (t : Track) (k n : Nat) (row : List Nat) : Option (List Nat) :=
  if (c.costs.getD n none).isNone = true then none else if t.open_ c.right = false then none else if t.long < p.long row + p.long (p.partsOf k) then none else some (if c.right = true then row ++ p.partsOf k else p.partsOf k ++ row)
theorem any_at {s : Stand} {t i : Nat} (h : i ∈ s.getD t []) : t < s.length ∧ (s.any fun r => r.contains i) = true := by
  have hl : t < s.length := by
    rcases Nat.lt_or_ge t s.length with q | q
    · exact q
    · rw [List.getD_eq_getElem?_getD, List.getElem?_eq_none q] at h
      cases h
  refine ⟨hl, List.any_eq_true.mpr ⟨_, getD_mem hl, ?_⟩⟩
  rw [List.contains_iff_mem]
  exact h
theorem find_at {p : Plan} {tr : List Nat} {s : Stand} (h : Own p tr s) {t i : Nat} (hi : i ∈ s.getD t []) : (s.findIdx? fun r => r.contains i) = some t := by
  obtain ⟨hl, _⟩ := any_at hi
  rw [List.findIdx?_eq_some_iff_getElem]
  refine ⟨hl, ?_, fun j hj => ?_⟩
  · rw [List.getD_eq_getElem?_getD, List.getElem?_eq_getElem hl] at hi
    simpa using hi
  · intro q
    have hj' : j < s.length := Nat.lt_trans hj hl
    have q' : i ∈ s.getD j [] := by
      rw [List.getD_eq_getElem?_getD, List.getElem?_eq_getElem hj']
      simpa using q
    obtain ⟨k, k1, k2⟩ := h.2 j i q'
    have := h.one hi k2 k1
    omega
theorem find_is {s : Stand} {n i : Nat} (h : (s.findIdx? fun r => r.contains i) = some n) : i ∈ s.getD n [] := by
  obtain ⟨hl, hc, _⟩ := List.findIdx?_eq_some_iff_getElem.mp h
  rw [List.getD_eq_getElem?_getD, List.getElem?_eq_getElem hl]
  simpa using hc
theorem does_goRow {p : Plan} {tr : List Nat} {s : Stand} (h : Own p tr s) {k j n x : Nat} {g : Going} {r : List Nat} (hg : p.goings[k]? = some g) (hx : g.parts = x :: r) (hj : x ∈ p.partsOf j) (hn : tr[j]? = some n) :
    toO (p.does tr s (.go k)) = (goRow p g n (s.getD n [])).map fun q => s.set n q := by
  have ehd : g.parts.headD 0 = x := by rw [hx]; rfl
  unfold Plan.does
  dsimp only
  rw [hg]
  dsimp only
  rw [ehd]
  by_cases c : ∃ y, around g.parts (s.getD n []) = some y
  · obtain ⟨y, hy⟩ := c
    have hall := around_mem hy
    have e1 : (g.parts.find? fun i => !(s.any fun r => r.contains i)) = none := by
      rw [List.find?_eq_none]
      intro i hi
      rw [(any_at (hall i hi)).2]
      simp
    have e2 : (s.findIdx? fun r => r.contains x) = some n := find_at h (hall x (by rw [hx]; exact .head _))
    rw [e1, e2]
    dsimp only
    unfold goRow
    rw [hy]
    dsimp only
    split
    · rename_i z hz; rw [hz]; rfl
    · rename_i hz
      rw [hz]
      dsimp only
      split <;> rfl
  · have e0 : goRow p g n (s.getD n []) = none := by
      unfold goRow
      cases q : around g.parts (s.getD n []) with
      | none => rfl
      | some y => exact absurd ⟨y, q⟩ c
    rw [e0]
    split
    · rfl
    · split
      · rfl
      · rename_i m hm
        have e : m = n := h.one (find_is hm) hj hn
        subst e
        cases q : around g.parts (s.getD m []) with
        | none => rfl
        | some y => exact absurd ⟨y, q⟩ c
theorem does_comeRow {p : Plan} {tr : List Nat} {s : Stand} {k n : Nat} {c : Coming} {t : Track} (hc : p.comings[k]? = some c) (hn : tr[k]? = some n) (ht : p.tracks[n]? = some t) :
    toO (p.does tr s (.come k)) = (comeRow p c t k n (s.getD n [])).map fun q => s.set n q := by
  have en : tr.getD k 0 = n := by rw [List.getD_eq_getElem?_getD, hn]; rfl
  unfold Plan.does comeRow
  dsimp only
  rw [en, hc, ht]
  dsimp only
  split
  · rfl
  · split
    · rfl
    · split <;> rfl
def only (p : Plan) (t : Nat) (r : List Nat) : Stand := (nothing p).set t r
theorem nothing_get (p : Plan) (t : Nat) : (nothing p).getD t [] = [] := by
  unfold nothing
  rw [List.getD_eq_getElem?_getD, List.getElem?_map]
  cases p.tracks[t]? <;> rfl
theorem nothing_len (p : Plan) : (nothing p).length = p.tracks.length := by unfold nothing; rw [List.length_map]
theorem set_get {s : Stand} {n t : Nat} {r : List Nat} (hn : n < s.length) : (s.set n r).getD t [] = if t = n then r else s.getD t [] := by
  rw [List.getD_eq_getElem?_getD, List.getD_eq_getElem?_getD]
  by_cases c : t = n
  · subst c
    rw [List.getElem?_set_self hn, if_pos rfl]
    rfl
  · rw [List.getElem?_set_ne (fun z => c z.symm), if_neg c]
theorem only_get {p : Plan} {t u : Nat} {r : List Nat} (ht : t < p.tracks.length) : (only p t r).getD u [] = if u = t then r else [] := by
  unfold only
  rw [set_get (by rw [nothing_len]; exact ht), nothing_get]
theorem only_nil (p : Plan) (t : Nat) : only p t [] = nothing p := by
  refine List.ext_getElem? fun j => ?_
  unfold only nothing
  rw [List.getElem?_set, List.getElem?_map, List.length_map]
  split
  · rename_i e
    subst e
    split
    · rename_i hl
      rw [List.getElem?_eq_getElem hl]
      rfl
    · rename_i hl
      rw [List.getElem?_eq_none (by omega)]
      rfl
  · rfl
theorem Own.only {p : Plan} {tr : List Nat} {s : Stand} (h : Own p tr s) {t : Nat} (ht : t < p.tracks.length) : Own p tr (Mx.only p t (s.getD t [])) := by
  refine ⟨by unfold Mx.only; rw [List.length_set, nothing_len], fun u i hi => ?_⟩
  rw [only_get ht] at hi
  split at hi
  · rename_i e; subst e; exact h.2 _ i hi
  · cases hi
theorem Own.start (p : Plan) (tr : List Nat) : Own p tr (nothing p) := ⟨nothing_len p, fun t i hi => by rw [nothing_get] at hi; cases hi⟩
theorem one_move {p : Plan} (ok : PlanOk p) {tr : List Nat} (hr : rowOk p tr = true) {m : Move} (hm : m ∈ p.moves) : ∃ n, n < p.tracks.length ∧ mine p (grp tr n) m = true ∧ ∃ f : List Nat → Option (List Nat),
    (∀ s, Own p tr s → toO (p.does tr s m) = (f (s.getD n [])).map fun q => s.set n q) ∧
    (∀ s q, Own p tr s → f (s.getD n []) = some q → (∀ i ∈ q, ∃ k, tr[k]? = some n ∧ i ∈ p.partsOf k) ∧ ∀ t, t ≠ n → mine p (grp tr t) m = false) := by
  have hr' := hr
  unfold rowOk at hr'
  rw [Bool.and_eq_true, List.all_eq_true] at hr'
  have hl : tr.length = p.comings.length := by simpa using hr'.1
  have ht : ∀ t ∈ tr, t < p.tracks.length := fun t ht => of_decide_eq_true (hr'.2 t ht)
  cases m with
  | come k =>
    have hk := come_mem hm
    have hn : tr[k]? = some tr[k] := List.getElem?_eq_getElem (by omega)
    have hnt := ht _ (List.mem_of_getElem? hn)
    have hc : p.comings[k]? = some p.comings[k] := List.getElem?_eq_getElem hk
    have htr : p.tracks[tr[k]]? = some p.tracks[tr[k]] := List.getElem?_eq_getElem hnt
    refine ⟨tr[k], hnt, (mine_come ok hk).mpr (mem_grp.mpr hn), comeRow p _ _ k _, fun s _ => does_comeRow hc hn htr, fun s q hs e => ⟨fun i hi => ?_, fun t hne => ?_⟩⟩
    · unfold comeRow at e
      split at e
      · cases e
      · split at e
        · cases e
        · split at e
          · cases e
          · have e := Option.some.inj e
            rw [← e] at hi
            have hi : i ∈ s.getD tr[k] [] ∨ i ∈ p.partsOf k := by
              split at hi
              · exact List.mem_append.mp hi
              · exact (List.mem_append.mp hi).symm
            rcases hi with z | z
            · exact hs.2 _ i z
            · exact ⟨k, hn, z⟩
    · cases z : mine p (grp tr t) (.come k) with
      | false => rfl
      | true =>
        have := mem_grp.mp ((mine_come ok hk).mp z)
        rw [hn] at this
        exact absurd (Option.some.inj this).symm hne
  | go k =>
    have hk := go_mem hm
    have hg : p.goings[k]? = some p.goings[k] := List.getElem?_eq_getElem hk
    obtain ⟨_, g1, g2, g3⟩ := ok.go _ (List.mem_of_getElem? hg)
    have epm : partsM p (.go k) = p.goings[k].parts := by
      show ((p.goings[k]?).map fun g => g.parts).getD [] = _
      rw [hg]
      rfl
    cases hx : p.goings[k].parts with
    | nil => exact absurd hx g1
    | cons x r =>
      have hxl : x < p.lengths.length := g3 x (by rw [hx]; exact .head _)
      obtain ⟨j, hj⟩ := part_home hxl
      have hjl : j < p.comings.length := by
        obtain ⟨c, hc, _⟩ := mem_partsOf.mp hj
        exact (List.getElem?_eq_some_iff.mp hc).1
      have hn : tr[j]? = some tr[j] := List.getElem?_eq_getElem (by omega)
      have hnt := ht _ (List.mem_of_getElem? hn)
      refine ⟨tr[j], hnt, mine_iff.mpr ⟨x, by rw [epm, hx]; exact .head _, j, mem_grp.mpr hn, hj⟩, goRow p p.goings[k] tr[j], fun s hs => does_goRow hs hg hx hj hn, fun s q hs e => ?_⟩
      unfold goRow at e
      cases ha : around p.goings[k].parts (s.getD tr[j] []) with
      | none => rw [ha] at e; cases e
      | some y =>
        rw [ha] at e
        dsimp only at e
        refine ⟨fun i hi => ?_, fun t hne => ?_⟩
        · split at e
          · cases e
          · split at e
            · cases e
            · have e := Option.some.inj e
              rw [← e] at hi
              exact hs.2 _ i ((around_sub ha).subset hi)
        · cases z : mine p (grp tr t) (.go k) with
          | false => rfl
          | true =>
            obtain ⟨i, hi, j', hj', hp⟩ := mine_iff.mp z
            rw [epm] at hi
            have := hs.one (around_mem ha i hi) hp (mem_grp.mp hj')
            exact absurd this.symm hne
theorem toO_ok {A B : Type} {x : Except A B} {b : B} (h : toO x = some b) : x = .ok b := by
  cases x with
  | ok c => exact congrArg _ (Option.some.inj h)
  | error e => cases h
theorem toO_err {A B : Type} {x : Except A B} (h : toO x = none) : ∃ e, x = .error e := by
  cases x with
  | ok c => cases h
  | error e => exact ⟨e, rfl⟩
theorem by_tracks {p : Plan} (ok : PlanOk p) {tr : List Nat} (hr : rowOk p tr = true) : ∀ (l : List Move) (s : Stand), (∀ m ∈ l, m ∈ p.moves) → Own p tr s →
    isOk (fin p tr s l) = (List.range p.tracks.length).all fun t => isOk (fin p tr (only p t (s.getD t [])) (l.filter (mine p (grp tr t))))
  | [], s, _, _ => by
    have : ∀ t, isOk (fin p tr (only p t (s.getD t [])) (([] : List Move).filter (mine p (grp tr t)))) = true := fun t => rfl
    rw [List.all_eq_true.mpr fun t _ => this t]
    rfl
  | m :: l, s, hin, hs => by
    obtain ⟨n, hn, hmine, f, hf, hq⟩ := one_move ok hr (hin m (.head _))
    have hsl : n < s.length := by rw [hs.1]; exact hn
    have hon := hs.only hn
    have eon : (only p n (s.getD n [])).getD n [] = s.getD n [] := by rw [only_get hn, if_pos rfl]
    cases e : f (s.getD n []) with
    | none =>
      have h1 := hf s hs
      rw [e] at h1
      obtain ⟨w, h1⟩ := toO_err h1
      have h2 := hf _ hon
      rw [eon, e] at h2
      obtain ⟨w2, h2⟩ := toO_err h2
      rw [fin_error h1]
      have : isOk (fin p tr (only p n (s.getD n [])) ((m :: l).filter (mine p (grp tr n)))) = false := by
        rw [List.filter_cons, if_pos hmine, fin_error h2]
        rfl
      show false = _
      symm
      rw [List.all_eq_false]
      exact ⟨n, List.mem_range.mpr hn, by rw [this]; simp⟩
    | some q =>
      obtain ⟨q1, q2⟩ := hq s q hs e
      have h1 := hf s hs
      rw [e] at h1
      have h1 := toO_ok h1
      have h2 := hf _ hon
      rw [eon, e] at h2
      have h2 := toO_ok h2
      have hs' : Own p tr (s.set n q) := ⟨by rw [List.length_set]; exact hs.1, fun t i hi => by
        rw [set_get hsl] at hi
        split at hi
        · rename_i z; subst z; exact q1 i hi
        · exact hs.2 t i hi⟩
      rw [fin_ok h1, by_tracks ok hr l (s.set n q) (fun x hx => hin x (.tail _ hx)) hs']
      have key : ∀ t, t < p.tracks.length → isOk (fin p tr (only p t ((s.set n q).getD t [])) (l.filter (mine p (grp tr t)))) = isOk (fin p tr (only p t (s.getD t [])) ((m :: l).filter (mine p (grp tr t)))) := by
        intro t ht
        rw [set_get hsl]
        by_cases c : t = n
        · subst c
          rw [if_pos rfl, List.filter_cons, if_pos hmine, fin_ok h2]
          congr 2
          unfold only
          dsimp only
          rw [List.set_set]
        · rw [if_neg c, List.filter_cons, if_neg (by rw [q2 t c]; simp)]
      rw [Bool.eq_iff_iff, List.all_eq_true, List.all_eq_true]
      constructor
      · intro h t ht
        rw [← key t (List.mem_range.mp ht)]
        exact h t ht
      · intro h t ht
        rw [key t (List.mem_range.mp ht)]
        exact h t ht
def can (p : Plan) (t : Nat) (g : List Nat) : Bool := isOk (fin p (List.replicate p.comings.length t) (nothing p) (p.moves.filter (mine p g)))
theorem does_congr {p : Plan} {a b : List Nat} {s : Stand} {m : Move} (h : ∀ k, m = .come k → a.getD k 0 = b.getD k 0) : p.does a s m = p.does b s m := by
  cases m with
  | come k =>
    unfold Plan.does
    dsimp only
    rw [h k rfl]
  | go k => rfl
theorem fin_congr {p : Plan} {a b : List Nat} : ∀ {l : List Move} {s : Stand}, (∀ k, Move.come k ∈ l → a.getD k 0 = b.getD k 0) → fin p a s l = fin p b s l
  | [], s, _ => rfl
  | m :: l, s, h => by
    unfold fin
    rw [does_congr (a := a) (b := b) fun k e => h k (by rw [← e]; exact .head _)]
    split
    · rfl
    · exact fin_congr fun k hk => h k (.tail _ hk)
theorem can_of {p : Plan} (ok : PlanOk p) {tr : List Nat} {t : Nat} : isOk (fin p tr (nothing p) (p.moves.filter (mine p (grp tr t)))) = can p t (grp tr t) := by
  unfold can
  congr 1
  refine fin_congr fun k hk => ?_
  obtain ⟨h1, h2⟩ := List.mem_filter.mp hk
  have hkl := come_mem h1
  have := mem_grp.mp ((mine_come ok hkl).mp h2)
  rw [List.getD_eq_getElem?_getD, this, List.getD_eq_getElem?_getD, List.getElem?_replicate, if_pos hkl]
theorem right_can {p : Plan} (ok : PlanOk p) {tr : List Nat} (hr : rowOk p tr = true) : p.right tr = (List.range p.tracks.length).all fun t => can p t (grp tr t) := by
  have e : p.right tr = isOk (fin p tr (nothing p) p.moves) := by
    rw [right_fin]
    cases fin p tr (nothing p) p.moves <;> rfl
  rw [e, by_tracks ok hr p.moves (nothing p) (fun m hm => hm) (Own.start p tr)]
  congr 1
  funext t
  rw [nothing_get, only_nil, can_of ok]
end Mx
namespace Mx
open Sx61
theorem fin_stand {p : Plan} {tr : List Nat} {ms : List Move} (hn : ms.Nodup) {t : Stand} (h : fin p tr (nothing p) ms = .ok t) : ∃ done, StandOk p done t := by
  have key : ∀ n i s, n = ms.length - i → i ≤ ms.length → Ran p tr ms i s → ∃ done, StandOk p done t := by
    intro n
    induction n with
    | zero =>
      intro i s e hi R
      have e : i = ms.length := by omega
      subst e
      rw [R.last] at h
      cases h
      exact ⟨_, R.ok⟩
    | succ n ih =>
      intro i s e hi R
      have hl : i < ms.length := by omega
      have hm : ms[i]? = some ms[i] := List.getElem?_eq_getElem hl
      cases hd : p.does tr s ms[i] with
      | error w =>
        rw [R.stop hm hd] at h
        cases h
      | ok u => exact ih (i + 1) u (by omega) (by omega) (R.next hn hm hd)
  exact key _ 0 _ rfl (Nat.zero_le _) (Ran.start p tr ms)
end Mx
namespace Mx
open Sx61
theorem least_filter {f : List Nat → Nat} {m : Nat} : ∀ {l : List (List Nat)} {r : List Nat} {rest : List (List Nat)}, (l.filter fun x => decide (f x = m)) = r :: rest → (∀ x ∈ l, m ≤ f x) → least f l = some r
  | [], _, _, h, _ => by cases h
  | a :: l, r, rest, h, hm => by
    rw [List.filter_cons] at h
    unfold least
    by_cases c : f a = m
    · rw [if_pos (decide_eq_true c)] at h
      have e := (List.cons.inj h).1
      subst e
      cases q : least f l with
      | none => rfl
      | some b =>
        have := hm b (.tail _ (least_mem q))
        dsimp only
        rw [if_neg (by omega)]
    · rw [if_neg (by simpa using c)] at h
      rw [least_filter h fun x hx => hm x (.tail _ hx)]
      dsimp only
      have hr : r ∈ l.filter fun x => decide (f x = m) := by rw [h]; exact .head _
      have e : f r = m := by simpa using (List.mem_filter.mp hr).2
      have := hm a (.head _)
      rw [if_pos (by omega)]
theorem fewest_filter {p : Plan} (ok : PlanOk p) {l : List (List Nat)} {u m : Nat} {r : List Nat} {rest : List (List Nat)} (h : ((l.filter fun x => decide (used x = u)).filter fun x => decide (p.cost x = m)) = r :: rest) (hu : ∀ x ∈ l, u ≤ used x)
    (hm : ∀ x ∈ l.filter (fun x => decide (used x = u)), m ≤ p.cost x) : least (fun r => used r * (COST * COMINGS + 1) + p.cost r) l = some r := by
  have hc : ∀ x, p.cost x ≤ 6000 := fun x => by
    have h1 := cost_le ok (r := x)
    have h2 := ok.coms
    omega
  have e6 : COST * COMINGS + 1 = 6001 := rfl
  rw [e6]
  have hr : r ∈ (l.filter fun x => decide (used x = u)).filter fun x => decide (p.cost x = m) := by rw [h]; exact .head _
  have em : p.cost r = m := by simpa using (List.mem_filter.mp hr).2
  have hm6 : m ≤ 6000 := by rw [← em]; exact hc r
  refine least_filter (m := u * 6001 + m) (rest := rest) ?_ fun x hx => ?_
  · rw [← h, List.filter_filter]
    refine List.filter_congr fun x hx => ?_
    have h1 := hc x
    have h2 := hu x hx
    rw [Bool.eq_iff_iff]
    simp only [decide_eq_true_eq, Bool.and_eq_true]
    constructor
    · intro e
      omega
    · rintro ⟨e1, e2⟩
      rw [e1, e2]
  · have h1 := hc x
    have h2 := hu x hx
    by_cases c : used x = u
    · have := hm x (List.mem_filter.mpr ⟨hx, decide_eq_true c⟩)
      rw [c]
      omega
    · omega
theorem step_best (p : Plan) : Sx61.step p .best = (p, match least p.cost p.ways with
    | none => ok (-6)
    | some r => ⟨num (p.cost r), [[p.ways.length, (p.ways.filter fun x => p.cost x == p.cost r).length], r]⟩) := rfl
theorem step_fewest (p : Plan) : Sx61.step p .fewest = (p, match least (fun r => used r * (COST * COMINGS + 1) + p.cost r) p.ways with
    | none => ok (-6)
    | some r => ⟨num (used r), [[p.cost r], r]⟩) := rfl
theorem step_forced (p : Plan) : Sx61.step p .forced = (p, match p.ways with
    | [] => ok (-6)
    | r :: w => ⟨num ((List.range p.comings.length).filter fun k => w.all fun x => x.getD k 0 == r.getD k 0).length, ((List.range p.comings.length).filter fun k => w.all fun x => x.getD k 0 == r.getD k 0).map fun k => [k, r.getD k 0]⟩) := by
  have base : Sx61.step p .forced = (p, match p.ways with
    | [] => ok (-6)
    | r :: w => let l := (List.range p.comings.length).filter fun k => w.all fun x => x.getD k 0 == r.getD k 0
      ⟨num l.length, l.map fun k => [k, r.getD k 0]⟩) := rfl
  rw [base]
theorem ways_priced {p : Plan} {r : List Nat} (h : r ∈ p.ways) : rowOk p r = true ∧ Priced p r := by
  obtain ⟨h1, h2⟩ := ways_mem.mp h
  refine ⟨h1, ?_⟩
  rw [right_fin] at h2
  cases e : fin p r (nothing p) p.moves with
  | error w => rw [e] at h2; cases h2
  | ok t => exact priced_of e
theorem ways_few {p : Plan} (ok : PlanOk p) : p.ways.length ≤ 4096 := by
  unfold Plan.ways
  have h1 := List.length_filter_le p.right (rows p.tracks.length p.comings.length)
  rw [rows_len] at h1
  have : p.tracks.length ^ p.comings.length ≤ 4096 := by
    calc p.tracks.length ^ p.comings.length ≤ 4 ^ p.comings.length := Nat.pow_le_pow_left ok.tracks _
      _ ≤ 4 ^ 6 := Nat.pow_le_pow_right (by decide) ok.coms
      _ = 4096 := by decide
  omega
end Mx
namespace L2
open PySem PySem.Spec PyProof.Rows
abbrev Key := Sum Int Str
def keyIs : Key → Value → Bool
  | .inl k, v => Value.isInt k v
  | .inr x, v => Value.isStrOf x v
def keyH (w : World) : Key → Int
  | .inl k => hashInt k
  | .inr x => hashStr w x
theorem keyIs_shape : ∀ {k : Key} {v : Value}, keyIs k v = true → (∃ i t, k = Sum.inl i ∧ v = Value.int i t) ∨ (∃ x t, k = Sum.inr x ∧ v = Value.str x t)
  | .inl i, v, h => by
    obtain ⟨t, e⟩ := Value.isInt_shape (k := i) (v := v) h
    exact .inl ⟨i, t, rfl, e⟩
  | .inr x, v, h => by
    obtain ⟨t, e⟩ := Value.isStrOf_shape (x := x) (v := v) h
    exact .inr ⟨x, t, rfl, e⟩
theorem keyIs_int (i : Int) (t : Tok) : keyIs (.inl i) (.int i t) = true := by simp [keyIs, Value.isInt]
theorem keyIs_str (x : Str) (t : Tok) : keyIs (.inr x) (.str x t) = true := by simp [keyIs, Value.isStrOf]
theorem key_ll (a b : Int) : decide ((Sum.inl a : Key) = Sum.inl b) = (a == b) := by
  by_cases e : a = b
  · subst e; simp
  · have h : ¬ (Sum.inl a : Key) = Sum.inl b := fun q => e (Sum.inl.inj q)
    rw [decide_eq_false h]
    exact (beq_eq_false_iff_ne.mpr e).symm
theorem key_rr (a b : Str) : decide ((Sum.inr a : Key) = Sum.inr b) = decide (a = b) := by
  by_cases e : a = b
  · subst e; simp
  · have h : ¬ (Sum.inr a : Key) = Sum.inr b := fun q => e (Sum.inr.inj q)
    rw [decide_eq_false h, decide_eq_false e]
theorem key_lr (a : Int) (b : Str) : decide ((Sum.inl a : Key) = Sum.inr b) = false := decide_eq_false (fun q => nomatch q)
theorem key_rl (a : Str) (b : Int) : decide ((Sum.inr a : Key) = Sum.inl b) = false := decide_eq_false (fun q => nomatch q)
def mixKind (prog : Program) (w : World) : PySem.KeyKind prog w Key where
  is := keyIs
  hash := keyH w
  inj := fun v a b ha hb => by
    rcases keyIs_shape ha with ⟨i, t, rfl, rfl⟩ | ⟨x, t, rfl, rfl⟩
    · rcases keyIs_shape hb with ⟨j, u, rfl, e⟩ | ⟨y, u, rfl, e⟩
      · injection e with e1 _; rw [e1]
      · exact nomatch e
    · rcases keyIs_shape hb with ⟨j, u, rfl, e⟩ | ⟨y, u, rfl, e⟩
      · exact nomatch e
      · injection e with e1 _; rw [e1]
  byValue := fun k v h => by
    rcases keyIs_shape h with ⟨i, t, rfl, rfl⟩ | ⟨x, t, rfl, rfl⟩ <;> rfl
  pyHash := fun hv h => by
    rcases keyIs_shape hv with ⟨i, t, rfl, rfl⟩ | ⟨x, t, rfl, rfl⟩
    · exact wpAny_pyHash_int h
    · exact wpAny_pyHash_str h
  eqBool := fun hu hv h => by
    rcases keyIs_shape hu with ⟨i, t, rfl, rfl⟩ | ⟨x, t, rfl, rfl⟩
    · rcases keyIs_shape hv with ⟨j, u, rfl, rfl⟩ | ⟨y, u, rfl, rfl⟩
      · rw [key_ll] at h; exact wpAny_eqBool_int h
      · rw [key_lr] at h; exact SeqAt.EqAt.int_str i t y u _ _ _ _ h
    · rcases keyIs_shape hv with ⟨j, u, rfl, rfl⟩ | ⟨y, u, rfl, rfl⟩
      · rw [key_rl] at h; exact SeqAt.EqAt.str_int x t j u _ _ _ _ h
      · rw [key_rr] at h; exact wpAny_eqBool_str h
  «strs» := fun k x t v h => by
    rcases keyIs_shape h with ⟨i, u, rfl, e⟩ | ⟨y, u, rfl, e⟩
    · exact nomatch e
    · injection e with e1 _
      subst e1
      cases v <;> rfl
theorem mixKind_int (prog : Program) (w : World) (i : Int) (t : Tok) : (mixKind prog w).is (.inl i) (.int i t) = true := keyIs_int i t
theorem mixKind_str (prog : Program) (w : World) (x : Str) (t : Tok) : (mixKind prog w).is (.inr x) (.str x t) = true := keyIs_str x t
end L2
namespace L2
open PySem PySem.Spec PyProof.Rows
inductive V where
  | non | bl (b : Bool) | int (i : Int) | str (x : Str) | byt (b : Array UInt8) | flt (b : UInt64) | ref (a : Addr) | ty (n : String)
  deriving DecidableEq
def RelV : V → Value → Prop
  | .non, u => u = Value.none
  | .bl b, u => u = Value.bool b
  | .int i, u => ∃ t, u = Value.int i t
  | .str x, u => ∃ t, u = Value.str x t
  | .byt b, u => ∃ t, u = Value.bytes b t
  | .flt b, u => ∃ t, u = Value.float b t
  | .ref a, u => u = Value.ref a
  | .ty n, u => u = Value.type n
abbrev Vals : List V → List Value → Prop := Paired RelV
theorem Vals.length {xs : List V} {us : List Value} (r : Vals xs us) : xs.length = us.length := Paired.length r
theorem Vals.get : ∀ {xs : List V} {us : List Value} {i : Nat} {x : V}, Vals xs us → xs[i]? = some x → ∃ u, us[i]? = some u ∧ RelV x u
  | _, _, _, _, .nil, e => by simp at e
  | _, _, 0, _, .cons r _, e => by simp at e; subst e; exact ⟨_, rfl, r⟩
  | _, _, i + 1, x, .cons _ t, e => by
    obtain ⟨u, h1, h2⟩ := Vals.get (i := i) (x := x) t (by simpa using e)
    exact ⟨u, by simpa using h1, h2⟩
theorem Vals.set {x : V} {u : Value} (r : RelV x u) : ∀ {xs : List V} {us : List Value} (i : Nat), Vals xs us → Vals (xs.set i x) (us.set i u)
  | _, _, _, .nil => .nil
  | _, _, 0, .cons _ t => .cons r t
  | _, _, i + 1, .cons q t => .cons q (Vals.set r i t)
theorem Vals.append : ∀ {xs ys : List V} {us ws : List Value}, Vals xs us → Vals ys ws → Vals (xs ++ ys) (us ++ ws)
  | _, _, _, _, .nil, s => s
  | _, _, _, _, .cons r t, s => .cons r (Vals.append t s)
theorem Vals.take : ∀ {xs : List V} {us : List Value} (n : Nat), Vals xs us → Vals (xs.take n) (us.take n)
  | _, _, 0, _ => .nil
  | _, _, _ + 1, .nil => .nil
  | _, _, n + 1, .cons r t => .cons r (Vals.take n t)
theorem Vals.drop : ∀ {xs : List V} {us : List Value} (n : Nat), Vals xs us → Vals (xs.drop n) (us.drop n)
  | _, _, 0, r => r
  | _, _, _ + 1, .nil => .nil
  | _, _, n + 1, .cons _ t => Vals.drop n t
def RelO : Option V → Option Value → Prop
  | some v, some u => RelV v u
  | none, none => True
  | _, _ => False
def KV {κ : Type} : List (κ × V) → List (κ × Value) → Prop := Paired fun (p : κ × V) (q : κ × Value) => p.1 = q.1 ∧ RelV p.2 q.2
def kV : Key → V
  | .inl i => .int i
  | .inr x => .str x
inductive HO where
  /-- a list -/
  | lst (xs : List V)
  /-- a tuple (never changes) -/
  | tup (xs : List V)
  /-- a dict whose keys are ints and texts; one whose keys are tuples of ints and texts (the empty one is both) -/
  | dK (kvs : List (Key × V)) | dT (kvs : List (List Key × V))
  /-- a set of ints: its members, its size -/
  | set (S : Int → Bool) (n : Nat)
  /-- an instance of the class at C, its dict at dx, its attributes -/
  | ins (C dx : Addr) (fs : List (Str × V))
  /-- the dict of the instance at x -/
  | own (x : Addr)
  /-- the dict of an exception -/
  | xd (fs : List (Str × V))
  /-- a bound method, f of x -/
  | met (f x : Addr)
  /-- a range object lo, lo + 1, .. below hi -/
  | rng (lo hi : Int)
  /-- a thing that is known to the object (the script; a dict while a loop walks it): read, never written while it is so -/
  | frz (o : Obj) (u : HO)
  /-- a code object's table -/
  | tbl (ps : Array Value)
  /-- any other thing, by what is true of its one object (a def of one's own: SetO a S n := HO.ext fun h => ..) -/
  | ext (φ : Heap → Prop)
abbrev Hp := Addr → Option HO
def upd (H : Hp) (a : Addr) (o : HO) : Hp := fun b => if b = a then some o else H b
theorem upd_same {H : Hp} {a : Addr} {o : HO} : upd H a o a = some o := by unfold upd; rw [if_pos rfl]
theorem upd_ne {H : Hp} {a b : Addr} {o : HO} (h : b ≠ a) : upd H a o b = H b := by unfold upd; rw [if_neg h]
theorem upd_upd {H : Hp} {a : Addr} {o u : HO} : upd (upd H a o) a u = upd H a u := by
  funext b; unfold upd; split <;> rfl
theorem ne_of {H : Hp} {a b : Addr} {o u : HO} (h : H a = some o) (h' : H b = some u) (d : o ≠ u) : a ≠ b := by
  intro e; subst e; rw [h] at h'; exact d (Option.some.inj h')
theorem ne_of_none {H : Hp} {a b : Addr} {o : HO} (h : H a = some o) (h' : H b = none) : a ≠ b := by
  intro e; subst e; rw [h] at h'; cases h'
section
variable (P : Program) (w : World)
def ObjOk (H : Hp) (h : Heap) (a : Addr) : HO → Prop
  | .lst xs => xs.length ≤ sizeLine ∧ ∃ (its : List Value) (n : Nat), Vals xs its ∧ h.get? a = some { cls := .type "list", data := .seq its.toArray n }
  | .tup xs => xs.length ≤ sizeLine ∧ ∃ its : List Value, Vals xs its ∧ IsTup h a its.toArray
  | .dK kvs => kvs.length ≤ sizeLine ∧ (a == sysModules) = false ∧ ∃ vs, KV kvs vs ∧ h.DictOf (mixKind P w) a vs
  | .dT kvs => kvs.length ≤ sizeLine ∧ (a == sysModules) = false ∧ ∃ xs : List (List Key × Addr × Value),
      Paired (fun (p : List Key × V) (q : List Key × Addr × Value) => p.1 = q.1 ∧ H q.2.1 = some (.tup (p.1.map kV)) ∧ RelV p.2 q.2.2) kvs xs ∧
      ∃ o es ep, h.get? a = some o ∧ o.ExactDict ∧ o.data = .dict es ep ∧ es.toList = xs.map (entryOfKey (tupleKind (mixKind P w))) ∧ (xs.map (·.1)).Nodup
  | .set S n => h.SetOf (intKind P w) a S n
  | .ins C dx fs => H dx = some (.own a) ∧ fs.length ≤ 1000 ∧ dx ≠ a ∧ h.get? a = some (PySem.W.instObj C dx) ∧
      ∃ mA, h.Ns1 dx mA ∧ (∀ f, RelO (fs.lookup f) (mA f)) ∧ PySem.Within mA (fs.map (·.1))
  | .own _ => ∃ o, h.get? a = some o
  | .xd fs => ∃ mA, h.Ns1 a mA ∧ ∀ f, RelO (fs.lookup f) (mA f)
  | .rng lo hi => ∃ t u v, h.get? a = some { cls := .type "range", data := .fields #[.int lo t, .int hi u, .int 1 v] }
  | .frz o u => h.get? a = some o ∧ ObjOk H h a u
  | .tbl ps => h.get? a = some { cls := .none, data := .fields ps }
  | .met f x => h.get? a = some (PySem.W.methodObj (.ref f) (.ref x))
  | .ext φ => φ h ∧ (∃ o, h.get? a = some o) ∧ ∀ h1 h2 : Heap, φ h1 → (∀ o, h1.get? a = some o → h2.get? a = some o) → φ h2
def HOk (H : Hp) (h : Heap) : Prop := ∀ a o, H a = some o → ObjOk P w H h a o
end
section
variable {P : Program} {w : World} {H H' : Hp} {h h' : Heap} {a : Addr} {o : HO}
theorem ObjOk.lt (x : ObjOk P w H h a o) : a < h.objs.size := by
  cases o with
  | lst xs => obtain ⟨_, _, _, _, e⟩ := x; exact Heap.lt_size e
  | tup xs => obtain ⟨_, _, _, p⟩ := x; exact p.lt
  | dK kvs => obtain ⟨_, _, _, _, o, _, _, e, _⟩ := x; exact Heap.lt_size e
  | dT kvs => obtain ⟨_, _, _, _, o, _, _, e, _⟩ := x; exact Heap.lt_size e
  | set S n => obtain ⟨o, _, _, _, e, _⟩ := x; exact Heap.lt_size e
  | ins C dx fs => obtain ⟨_, _, _, e, _⟩ := x; exact Heap.lt_size e
  | own y => obtain ⟨_, e⟩ := x; exact Heap.lt_size e
  | xd fs => obtain ⟨_, ⟨_, _, _, e, _⟩, _⟩ := x; exact Heap.lt_size e
  | rng lo hi => obtain ⟨_, _, _, e⟩ := x; exact Heap.lt_size e
  | frz ob u => obtain ⟨e, _⟩ := x; exact Heap.lt_size e
  | tbl ps => exact Heap.lt_size (show h.get? a = some _ from x)
  | met f y => exact Heap.lt_size (show h.get? a = some _ from x)
  | ext φ => obtain ⟨_, ⟨_, e⟩, _⟩ := x; exact Heap.lt_size e
theorem Paired.mapP {α β : Type} {F G : α → β → Prop} : ∀ {l₁ : List α} {l₂ : List β}, Paired F l₁ l₂ → (∀ a b, F a b → G a b) → Paired G l₁ l₂
  | _, _, .nil, _ => .nil
  | _, _, .cons r t, f => .cons (f _ _ r) (Paired.mapP t f)
theorem ObjOk.stay (x : ObjOk P w H h a o) (k : ∀ b u, (b = a ∨ H b = some (.own a)) → h.get? b = some u → h'.get? b = some u)
    (ho : ∀ b, H b = some (.own a) → H' b = some (.own a)) (ht : ∀ b xs, H b = some (.tup xs) → H' b = some (.tup xs)) : ObjOk P w H' h' a o := by
  induction o with
  | lst xs => obtain ⟨z, its, n, r, e⟩ := x; exact ⟨z, its, n, r, k _ _ (.inl rfl) e⟩
  | tup xs => obtain ⟨z, its, r, ob, e, c⟩ := x; exact ⟨z, its, r, ob, k _ _ (.inl rfl) e, c⟩
  | dK kvs => obtain ⟨z, y, vs, r, ob, es, ep, e, c⟩ := x; exact ⟨z, y, vs, r, ob, es, ep, k _ _ (.inl rfl) e, c⟩
  | dT kvs =>
    obtain ⟨z, y, xs, r, ob, es, ep, e, c⟩ := x
    exact ⟨z, y, xs, Paired.mapP r fun p q z => ⟨z.1, ht _ _ z.2.1, z.2.2⟩, ob, es, ep, k _ _ (.inl rfl) e, c⟩
  | set S n => obtain ⟨ob, es, ep, t, e, c⟩ := x; exact ⟨ob, es, ep, t, k _ _ (.inl rfl) e, c⟩
  | ins C dx fs =>
    obtain ⟨d, z, ne, e, mA, ⟨od, es, ep, e2, c⟩, r⟩ := x
    exact ⟨ho _ d, z, ne, k _ _ (.inl rfl) e, mA, ⟨od, es, ep, k _ _ (.inr d) e2, c⟩, r⟩
  | own y => obtain ⟨ob, e⟩ := x; exact ⟨ob, k _ _ (.inl rfl) e⟩
  | xd fs => obtain ⟨mA, ⟨od, es, ep, e, c⟩, r⟩ := x; exact ⟨mA, ⟨od, es, ep, k _ _ (.inl rfl) e, c⟩, r⟩
  | rng lo hi => obtain ⟨t, u, v, e⟩ := x; exact ⟨t, u, v, k _ _ (.inl rfl) e⟩
  | frz ob u ih => obtain ⟨e, q⟩ := x; exact ⟨k _ _ (.inl rfl) e, ih q⟩
  | tbl ps =>
    have e : h.get? a = some { cls := .none, data := .fields ps } := x
    show h'.get? a = some { cls := .none, data := .fields ps }
    exact k a _ (.inl rfl) e
  | met f y =>
    have e : h.get? a = some (PySem.W.methodObj (.ref f) (.ref y)) := x
    show h'.get? a = some (PySem.W.methodObj (.ref f) (.ref y))
    exact k a _ (.inl rfl) e
  | ext φ => obtain ⟨p, ⟨o, e⟩, st⟩ := x; exact ⟨st _ _ p fun o q => k _ _ (.inl rfl) q, ⟨o, k _ _ (.inl rfl) e⟩, st⟩
theorem HOk.lt (x : HOk P w H h) (e : H a = some o) : a < h.objs.size := (x a o e).lt
theorem HOk.fresh (x : HOk P w H h) (e : h.objs.size ≤ a) : H a = none := by
  cases q : H a with
  | none => rfl
  | some u => exact absurd (Nat.lt_of_lt_of_le (x.lt q) e) (Nat.lt_irrefl _)
theorem HOk.kept (x : HOk P w H h) (k : ∀ b u, h.get? b = some u → h'.get? b = some u) : HOk P w H h' := fun a o e =>
  (x a o e).stay (fun b u _ q => k b u q) (fun _ q => q) fun _ _ q => q
theorem HOk.laid (x : HOk P w H h) (k : ∀ b u, h.get? b = some u → h'.get? b = some u) (hp : h.objs.size ≤ a) (new : ObjOk P w (upd H a o) h' a o) : HOk P w (upd H a o) h' := fun b u e => by
  have hn := x.fresh hp
  by_cases hb : b = a
  · subst hb; rw [upd_same] at e; cases e; exact new
  · rw [upd_ne hb] at e
    exact (x b u e).stay (fun c v _ q => k c v q) (fun c q => by rw [upd_ne (ne_of_none q hn)]; exact q) fun c xs q => by rw [upd_ne (ne_of_none q hn)]; exact q
end
def Rd (H : Hp) (a : Addr) (u : HO) : Prop := H a = some u ∨ ∃ o, H a = some (.frz o u)
theorem Rd.ok {P : Program} {w : World} {H : Hp} {h : Heap} {a : Addr} {u : HO} (r : Rd H a u) (x : HOk P w H h) : ObjOk P w H h a u := by
  rcases r with r | ⟨o, r⟩
  · exact x a u r
  · obtain ⟨_, q⟩ := x a _ r
    exact q
def Mut : Option HO → Prop
  | some (.lst _) => True
  | some (.dK _) => True
  | some (.dT _) => True
  | some (.set _ _) => True
  | some (.ins _ _ _) => True
  | some (.ext _) => True
  | _ => False
section
variable {P : Program} {w : World} {H : Hp} {h h' : Heap} {x e : Addr} {o' : HO}
theorem HOk.write (ok : HOk P w H h) (mu : Mut (H x)) (he : e = x ∨ H e = some (.own x)) (k : ∀ b u, b ≠ e → h.get? b = some u → h'.get? b = some u) (heo : ∃ u, h'.get? e = some u)
    (new : ObjOk P w (upd H x o') h' x o') : HOk P w (upd H x o') h' := fun b u q => by
  have nown : ∀ c y, H c = some (.own y) → c ≠ x := fun c y r z => by subst z; rw [r] at mu; exact mu
  have ntup : ∀ c xs, H c = some (.tup xs) → c ≠ x := fun c xs r z => by subst z; rw [r] at mu; exact mu
  by_cases hb : b = x
  · subst hb; rw [upd_same] at q; cases q; exact new
  · rw [upd_ne hb] at q
    by_cases hbe : b = e
    · have q' : H b = some (.own x) := by
        rcases he with z | z
        · exact absurd (hbe.trans z) hb
        · rw [hbe]; exact z
      rw [q] at q'; cases q'
      obtain ⟨v, hv⟩ := heo
      exact ⟨v, by rw [hbe]; exact hv⟩
    · refine (ok b u q).stay (fun c v hc r => k c v ?_ r) (fun c r => by rw [upd_ne (nown c b r)]; exact r) fun c xs r => by rw [upd_ne (ntup c xs r)]; exact r
      rcases hc with rfl | hc
      · exact hbe
      · rintro rfl
        rcases he with z | z
        · exact nown c b hc z
        · rw [hc] at z; cases z; exact hb rfl
end
structure Un (fs ex : List Addr) (H H' : Hp) (h h' : Heap) : Prop where
  keep : ∀ b o, h.get? b = some o → H b = none → b ∉ fs → b ∉ ex → h'.get? b = some o
  slot : ∀ b o, h.get? b = some o → H b = none → b ∈ fs → b ∉ ex → ∃ sl, h'.get? b = some { o with slots := sl }
  free : ∀ b o, h.get? b = some o → H b = none → b ∉ ex → H' b = none
  there : ∀ b o, h.get? b = some o → b ∉ ex → ∃ o', h'.get? b = some o'
  tups : ∀ b xs, H b = some (.tup xs) → H' b = some (.tup xs)
  frzs : ∀ b o u, H b = some (.frz o u) → H' b = some (.frz o u)
  tbls : ∀ b ps, H b = some (.tbl ps) → ∃ more, H' b = some (.tbl (ps ++ more))
section
variable {fs fs' ex ex' : List Addr} {H H1 H2 : Hp} {h h1 h2 h' : Heap} {a x e : Addr} {o : HO}
theorem Un.any (u : Un fs ex H H1 h h1) {b : Addr} {ob : Obj} (q : h.get? b = some ob) (n : H b = none) (hx : b ∉ ex) : ∃ sl, h1.get? b = some { ob with slots := sl } := by
  by_cases hb : b ∈ fs
  · exact u.slot b ob q n hb hx
  · exact ⟨ob.slots, u.keep b ob q n hb hx⟩
theorem Un.kept (k : ∀ b u, h.get? b = some u → h'.get? b = some u) : Un fs ex H H h h' :=
  ⟨fun b ob q _ _ _ => k b ob q, fun b ob q _ _ _ => ⟨ob.slots, k b ob q⟩, fun _ _ _ n _ => n, fun b ob q _ => ⟨ob, k b ob q⟩, fun _ _ q => q, fun _ _ _ q => q, fun _ ps q => ⟨#[], by rw [q]; simp⟩⟩
theorem Un.refl : Un fs ex H H h h := Un.kept fun _ _ q => q
theorem Un.laid (k : ∀ b u, h.get? b = some u → h'.get? b = some u) (hp : h.objs.size ≤ a) (hn : H a = none) : Un fs ex H (upd H a o) h h' where
  keep := fun b u q _ _ _ => k b u q
  slot := fun b u q _ _ _ => ⟨u.slots, k b u q⟩
  free := fun b u q n _ => by rw [upd_ne (Nat.ne_of_lt (Nat.lt_of_lt_of_le (Heap.lt_size q) hp))]; exact n
  there := fun b u q _ => ⟨u, k b u q⟩
  tups := fun b xs q => by rw [upd_ne (ne_of_none q hn)]; exact q
  frzs := fun b u xs q => by rw [upd_ne (ne_of_none q hn)]; exact q
  tbls := fun b ps q => ⟨#[], by rw [upd_ne (ne_of_none q hn), q]; simp⟩
theorem Un.write (mu : Mut (H x)) (he : e = x ∨ H e = some (.own x)) (k : ∀ b u, b ≠ e → h.get? b = some u → h'.get? b = some u) (heo : ∃ u, h'.get? e = some u) : Un fs ex H (upd H x o) h h' := by
  have hx : ∀ b, H b = none → b ≠ x := fun b n z => by subst z; rw [n] at mu; exact mu
  have hb : ∀ b, H b = none → b ≠ e := fun b n z => by
    subst z
    rcases he with r | r
    · exact hx b n r
    · rw [n] at r; cases r
  have hm : ∀ b u, H b = some u → ¬ Mut (some u) → b ≠ x := fun b u q nm z => by subst z; rw [q] at mu; exact nm mu
  refine ⟨fun b u q n _ _ => k b u (hb b n) q, fun b u q n _ _ => ⟨u.slots, k b u (hb b n) q⟩, fun b u q n _ => by rw [upd_ne (hx b n)]; exact n, fun b u q _ => ?_,
    fun b xs q => by rw [upd_ne (hm b _ q fun z => z)]; exact q, fun b u xs q => by rw [upd_ne (hm b _ q fun z => z)]; exact q, fun b ps q => ⟨#[], by rw [upd_ne (hm b _ q fun z => z), q]; simp⟩⟩
  by_cases hbe : b = e
  · subst hbe; exact heo
  · exact ⟨u, k b u hbe q⟩
end
def trk (h : Heap) (H : Hp) : List Addr := (List.range h.objs.size).filter fun a => (H a).isSome
def hidT (h : Heap) (H : Hp) : Heap := PySem.W.hideAll h (trk h H)
theorem hidT_size (h : Heap) (H : Hp) : (hidT h H).objs.size = h.objs.size := PySem.W.hideAll_size _ _
theorem hidT_get {h : Heap} {H : Hp} {b : Addr} {o : Obj} (e : h.get? b = some o) (n : H b = none) : (hidT h H).get? b = some o :=
  PySem.W.hideAll_get _ e fun hm => by
    have q : (H b).isSome = true := (List.mem_filter.mp hm).2
    rw [n] at q; simp at q
theorem of_hidT {h : Heap} {H : Hp} {b : Addr} {o : Obj} (e : (hidT h H).get? b = some o) : h.get? b = some o ∧ H b = none := by
  have e' : h.get? b = some o := PySem.W.of_hideAll (trk h H) e
  refine ⟨e', ?_⟩
  cases q : H b with
  | none => rfl
  | some x =>
    have hm : b ∈ trk h H := List.mem_filter.mpr ⟨List.mem_range.mpr (Heap.lt_size e'), by simp [q]⟩
    have z : (hidT h H).get? b = none := PySem.W.hideAll_none (trk h H) hm
    rw [z] at e; cases e
def allNews (g h : Heap) (L : Addr) : List (Addr × Obj) := (List.range h.objs.size).filterMap fun a => if a = L ∨ (g.get? a).isSome = true then none else (h.get? a).map fun o => (a, o)
theorem mem_allNews {g h : Heap} {L a : Addr} {o : Obj} (h1 : a ≠ L) (h2 : g.get? a = none) (h3 : h.get? a = some o) : (a, o) ∈ allNews g h L :=
  List.mem_filterMap.mpr ⟨a, List.mem_range.mpr (Heap.lt_size h3), by simp [h1, h2, h3]⟩
theorem of_mem_allNews {g h : Heap} {L : Addr} {p : Addr × Obj} (hp : p ∈ allNews g h L) : p.1 ≠ L ∧ g.get? p.1 = none ∧ h.get? p.1 = some p.2 := by
  obtain ⟨b, _, e⟩ := List.mem_filterMap.mp hp
  split at e
  · cases e
  · rename_i hn
    cases q : h.get? b with
    | none => rw [q] at e; simp at e
    | some u =>
      rw [q] at e
      simp only [Option.map_some, Option.some.injEq] at e
      subst e
      refine ⟨fun z => hn (.inl z), ?_, q⟩
      show g.get? b = none
      cases r : g.get? b with
      | none => rfl
      | some v => exact (hn (.inr (by simp [r]))).elim
theorem news_all {g h : Heap} {L : Addr} : News g L h (allNews g h L) := fun p hp => let ⟨a, b, c⟩ := of_mem_allNews hp; ⟨c, a, b⟩
end L2
namespace L2
open PySem PySem.Spec PyProof.Rows
structure Mod (K : Frag) (mg : Str → Option Value) (base : Heap) : Prop where
  kin : K.In base
  glob : base.Ns mainGlobals mg
  blt : ∃ mb, base.Ns builtinsNs mb ∧ ∀ x : Str, x ≠ "__name__" → mb x = bootBuiltins x
  nolimit : base.NoLimit
structure Cx where
  prog : Program
  w : World
  K : Frag
  mg : Str → Option Value
  base : Heap
  A : Around
  N : List Str
  s_0 : Shared
  H_0 : Hp
  env : Env
  outer : List Env
  stack : List Env
  ex : List Addr
  fn : Str → Bool
  calm : Bool
  pn : List (Addr × Obj)
  xe : Value → Shared → Prop
def frs (l : List Env) : List Addr := l.filterMap (·.frame)
abbrev Cx.fs (X : Cx) : List Addr := frs X.outer
def Vis (sc : Scope) (x : Str) : Prop := sc.names.lookup x = some .local ∨ sc.names.lookup x = some .cell ∨ sc.names.lookup x = some .free
def Loc (sc : Scope) (x : Str) : Prop := sc.names.lookup x = some .local ∨ sc.names.lookup x = some .cell
def Look (env : Env) (h : Heap) (m : Str → Option Value) (x : Str) (u : Value) : Prop :=
  (env.kindOf x = some .local ∧ m x = some u) ∨ ((env.kindOf x = some .cell ∨ env.kindOf x = some .free) ∧ ∃ c, env.cells.lookup x = some c ∧ h.IsCell c (some u))
structure Cx.Ok (X : Cx) : Prop where
  mod : Mod X.K X.mg X.base
  kind : X.env.scope.kind = .function
  glob : X.env.globals = mainGlobals
  blt : X.env.builtins = builtinsNs
  above : X.s_0.heap.objs.size ≤ X.env.locals
  inj : ∀ x y c, X.env.cells.lookup x = some c → X.env.cells.lookup y = some c → x = y
  has : ∀ x, (X.env.kindOf x = some .cell ∨ X.env.kindOf x = some .free) → ∃ c, X.env.cells.lookup x = some c
  cab : ∀ x c, X.fn x = true → X.env.cells.lookup x = some c → X.s_0.heap.objs.size ≤ c
  hd : X.calm = true → X.A.handled = none
  frames : X.A.frames = some X.stack
  stk : X.stack = X.outer ∨ (X.stack = X.env :: X.outer ∧ X.env.frame = some X.env.locals)
  exf : ∀ b ∈ X.ex, b ≠ X.env.locals ∧ ∀ x c, X.env.cells.lookup x = some c → c ≠ b
  bs : ∀ b o, X.base.get? b = some o → X.s_0.heap.get? b = some o ∧ X.H_0 b = none
  bsz : X.base.objs.size ≤ X.s_0.heap.objs.size
  noex : ∀ b o, X.base.get? b = some o → b ∉ X.ex
  exfs : ∀ b ∈ X.ex, b ∉ X.fs
  funs : X.s_0.heap.FunFrames X.base X.outer
  frf : ∀ b ∈ X.fs, X.H_0 b = none
structure Inv (X : Cx) (pins : List (Addr × Obj)) (σ : List (Option V)) (H : Hp) (s : Shared) : Prop where
  ok : X.Ok
  os : s.os = X.s_0.os
  bare : AllBare s.gens
  base : Un X.fs X.ex X.H_0 H X.s_0.heap s.heap
  loc : ∃ m, s.heap.Ns X.env.locals m ∧ ∀ (i : Nat) (x : Str) (v : V), X.N[i]? = some x → σ[i]? = some (some v) → Vis X.env.scope x → ∃ u, RelV v u ∧ Look X.env s.heap m x u
  cell : ∀ x c, X.env.cells.lookup x = some c → ∃ v, s.heap.IsCell c v
  free : H X.env.locals = none
  freeC : ∀ x c, X.env.cells.lookup x = some c → H c = none
  pin : ∀ p ∈ X.pn ++ pins, s.heap.get? p.1 = some p.2 ∧ H p.1 = none ∧ p.1 ≠ X.env.locals ∧ p.1 ∉ X.fs ∧ ∀ v, p.2.data ≠ .cell v
  hok : HOk X.prog X.w H s.heap
  len : σ.length = X.N.length
section
variable {X : Cx} {pins : List (Addr × Obj)} {σ : List (Option V)} {H H' : Hp} {s : Shared} {h' : Heap}
theorem Cx.Ok.nofr (ok : X.Ok) {b : Addr} {o : Obj} (e : X.base.get? b = some o) : b ∉ X.fs := fun hb => by
  have := (ok.funs.mem hb).1
  rw [e] at this; cases this
theorem Inv.bs (I : Inv X pins σ H s) : ∀ b o, X.base.get? b = some o → s.heap.get? b = some o ∧ H b = none := fun b o e =>
  ⟨I.base.keep b o (I.ok.bs b o e).1 (I.ok.bs b o e).2 (I.ok.nofr e) (I.ok.noex b o e), I.base.free b o (I.ok.bs b o e).1 (I.ok.bs b o e).2 (I.ok.noex b o e)⟩
theorem Inv.bk (I : Inv X pins σ H s) : ∀ b o, X.base.get? b = some o → s.heap.get? b = some o := fun b o e => (I.bs b o e).1
theorem Inv.mod (I : Inv X pins σ H s) : Mod X.K X.mg X.base := I.ok.mod
theorem Inv.kIn (I : Inv X pins σ H s) : X.K.In s.heap := I.ok.mod.kin.keeps I.bk
theorem Inv.fr (I : Inv X pins σ H s) : ∃ m, Fr X.base X.env.locals s.heap m :=
  let ⟨m, hn, _⟩ := I.loc
  ⟨m, hn, I.bk, Nat.le_trans I.ok.bsz I.ok.above⟩
theorem Inv.lt (I : Inv X pins σ H s) : X.env.locals < s.heap.objs.size := let ⟨_, hn, _⟩ := I.loc; hn.lt
theorem Inv.sz (I : Inv X pins σ H s) : X.s_0.heap.objs.size ≤ s.heap.objs.size := Nat.le_trans I.ok.above (Nat.le_of_lt I.lt)
theorem Inv.nofs (I : Inv X pins σ H s) {a : Addr} (h : s.heap.objs.size ≤ a) : a ∉ X.fs := fun hb => by
  obtain ⟨_, o, ho, _⟩ := I.ok.funs.mem hb
  exact absurd (Nat.lt_of_lt_of_le (Heap.lt_size ho) (Nat.le_trans I.sz h)) (Nat.lt_irrefl _)
theorem Inv.cne (I : Inv X pins σ H s) : ∀ x c, X.env.cells.lookup x = some c → c ≠ X.env.locals := fun x c e z => by
  obtain ⟨v, o, ho, hd⟩ := I.cell x c e
  obtain ⟨m, ⟨o', es, ep, ho', hd', _⟩, _⟩ := I.loc
  rw [z, ho'] at ho; cases ho; rw [hd'] at hd; cases hd
theorem Inv.funs (I : Inv X pins σ H s) : s.heap.FunFrames X.base X.outer := by
  have all : ∀ (l : List Env), (∀ b ∈ frs l, b ∈ X.fs) → X.s_0.heap.FunFrames X.base l → s.heap.FunFrames X.base l := by
    intro l
    induction l with
    | nil => intro _ _; trivial
    | cons env r ih =>
      intro hs hl
      obtain ⟨hk, ⟨L, o, hf, hn, ho, hd⟩, hr⟩ := hl
      have hL : L ∈ X.fs := hs L (by unfold frs; rw [List.filterMap_cons, hf]; exact List.mem_cons_self)
      obtain ⟨sl, e⟩ := I.base.slot L o ho (I.ok.frf L hL) hL fun z => I.ok.exfs L z hL
      exact ⟨hk, ⟨L, _, hf, hn, e, hd⟩, ih (fun b hb => hs b (by unfold frs; rw [List.filterMap_cons, hf]; exact List.mem_cons_of_mem _ hb)) hr⟩
  exact all X.outer (fun _ hb => hb) I.ok.funs
theorem Inv.stack (I : Inv X pins σ H s) : s.heap.FunFrames X.base X.stack := by
  rcases I.ok.stk with e | ⟨e, hf⟩
  · rw [e]; exact I.funs
  · rw [e]
    obtain ⟨m, hn, _⟩ := I.loc
    refine .cons (by rw [I.ok.kind]; decide) hf hn ?_ I.funs
    exact Heap.get?_none_of_le (Nat.le_trans I.ok.bsz I.ok.above)
theorem Inv.stkSub (I : Inv X pins σ H s) : ∀ b ∈ frs X.stack, b ∈ X.env.locals :: X.fs := fun b hb => by
  rcases I.ok.stk with e | ⟨e, hf⟩
  · rw [e] at hb; exact List.mem_cons_of_mem _ hb
  · rw [e] at hb
    unfold frs at hb
    rw [List.filterMap_cons, hf] at hb
    exact hb
theorem Inv.stkFree (I : Inv X pins σ H s) : ∀ b ∈ frs X.stack, H b = none := fun b hb => by
  rcases List.mem_cons.mp (I.stkSub b hb) with e | hb
  · rw [e]; exact I.free
  · obtain ⟨_, o, ho, _⟩ := I.ok.funs.mem hb
    exact I.base.free b o ho (I.ok.frf b hb) fun z => I.ok.exfs b z hb
theorem Inv.step {g' : Array GenState} {t' : Nat} {d' : Drawn} {ch : List Addr} (I : Inv X pins σ H s)
    (hch : ∀ b ∈ ch, (b ∈ X.ex ∨ X.s_0.heap.objs.size ≤ b) ∧ b ≠ X.env.locals ∧ (∀ x c, X.env.cells.lookup x = some c → c ≠ b) ∧ ∀ p ∈ X.pn ++ pins, p.1 ≠ b)
    (keep : ∀ b o, b ≠ X.env.locals → b ∉ X.fs → b ∉ ch → s.heap.get? b = some o → H b = none → h'.get? b = some o)
    (slot : ∀ b o, b ≠ X.env.locals → b ∈ X.fs → b ∉ ch → s.heap.get? b = some o → H b = none → ∃ sl, h'.get? b = some { o with slots := sl }) (free : ∀ b o, b ∉ ch → s.heap.get? b = some o → H b = none → H' b = none)
    (there : ∀ b o, b ∉ ch → s.heap.get? b = some o → ∃ o', h'.get? b = some o')
    (tups : ∀ b xs, H b = some (.tup xs) → H' b = some (.tup xs)) (frzs : ∀ b o u, H b = some (.frz o u) → H' b = some (.frz o u)) (tbls : ∀ b ps, H b = some (.tbl ps) → ∃ more, H' b = some (.tbl (ps ++ more)))
    (ns : ∀ m, s.heap.Ns X.env.locals m → h'.Ns X.env.locals m) (hok : HOk X.prog X.w H' h') (hg : AllBare g') :
    Inv X pins σ H' { s with heap := h', gens := g', drawn := d', toks := t' } := by
  have neL : ∀ b o, X.s_0.heap.get? b = some o → b ≠ X.env.locals := fun b o e => Nat.ne_of_lt (Nat.lt_of_lt_of_le (Heap.lt_size e) I.ok.above)
  have neC : ∀ b o, X.s_0.heap.get? b = some o → b ∉ X.ex → b ∉ ch := fun b o e hx hb => by
    rcases (hch b hb).1 with z | z
    · exact hx z
    · exact absurd (Nat.lt_of_lt_of_le (Heap.lt_size e) z) (Nat.lt_irrefl _)
  have cellK : ∀ x c, X.env.cells.lookup x = some c → ∀ v, s.heap.IsCell c v → h'.IsCell c v := fun x c e v ⟨o, ho, hd⟩ => by
    have nch : c ∉ ch := fun z => (hch c z).2.2.1 x c e rfl
    by_cases hc : c ∈ X.fs
    · obtain ⟨sl, q⟩ := slot c o (I.cne x c e) hc nch ho (I.freeC x c e)
      exact ⟨_, q, hd⟩
    · exact ⟨o, keep c o (I.cne x c e) hc nch ho (I.freeC x c e), hd⟩
  refine ⟨I.ok, I.os, hg, ⟨fun b o e n hb hx => ?_, fun b o e n hb hx => ?_, fun b o e n hx => ?_, fun b o e hx => ?_, fun b xs e => tups b xs (I.base.tups b xs e), fun b o xs e => frzs b o xs (I.base.frzs b o xs e), fun b ps e => ?_⟩, ?_, fun x c e => ?_, ?_, fun x c e => ?_, fun p hp => ?_, hok, I.len⟩
  · exact keep b o (neL b o e) hb (neC b o e hx) (I.base.keep b o e n hb hx) (I.base.free b o e n hx)
  · obtain ⟨sl, e1⟩ := I.base.slot b o e n hb hx
    obtain ⟨sl', e2⟩ := slot b _ (neL b o e) hb (neC b o e hx) e1 (I.base.free b o e n hx)
    exact ⟨sl', e2⟩
  · obtain ⟨o', e1⟩ := I.base.there b o e hx
    exact free b o' (neC b o e hx) e1 (I.base.free b o e n hx)
  · obtain ⟨o', e1⟩ := I.base.there b o e hx
    exact there b o' (neC b o e hx) e1
  · obtain ⟨m1, e1⟩ := I.base.tbls b ps e
    obtain ⟨m2, e2⟩ := tbls b _ e1
    exact ⟨m1 ++ m2, by rw [e2, Array.append_assoc]⟩
  · obtain ⟨m, hn, hl⟩ := I.loc
    refine ⟨m, ns m hn, fun i x v e1 e2 e3 => ?_⟩
    obtain ⟨u, r, l⟩ := hl i x v e1 e2 e3
    refine ⟨u, r, ?_⟩
    rcases l with l | ⟨k, c, e, z⟩
    · exact .inl l
    · exact .inr ⟨k, c, e, cellK x c e _ z⟩
  · obtain ⟨v, z⟩ := I.cell x c e
    exact ⟨v, cellK x c e v z⟩
  · obtain ⟨m, ⟨o, _, _, ho, _⟩, _⟩ := I.loc
    exact free _ o (fun z => (hch _ z).2.1 rfl) ho I.free
  · obtain ⟨v, o, ho, hd⟩ := I.cell x c e
    exact free c o (fun z => (hch c z).2.2.1 x c e rfl) ho (I.freeC x c e)
  · obtain ⟨e, n, ne, nf, d⟩ := I.pin p hp
    have nch : p.1 ∉ ch := fun z => (hch p.1 z).2.2.2 p hp rfl
    exact ⟨keep p.1 p.2 ne nf nch e n, free p.1 p.2 nch e n, ne, nf, d⟩
theorem Inv.un {t' : Nat} (I : Inv X pins σ H s) (u : Un X.fs [] H H' s.heap h') (hok : HOk X.prog X.w H' h') : Inv X pins σ H' { s with heap := h', toks := t' } := by
  obtain ⟨m, ⟨o, es, ep, ho, r⟩, _⟩ := id I.loc
  obtain ⟨sl, hL⟩ := u.any ho I.free (by simp)
  exact I.step (g' := s.gens) (d' := s.drawn) (ch := []) (fun _ z => nomatch z) (fun b o _ hb _ e n => u.keep b o e n hb (by simp)) (fun b o _ hb _ e n => u.slot b o e n hb (by simp)) (fun b o _ e n => u.free b o e n (by simp)) (fun b o _ e => u.there b o e (by simp)) u.tups u.frzs u.tbls (fun m' hm => by
    obtain ⟨o', es', ep', ho', r'⟩ := hm
    rw [ho] at ho'; cases ho'
    exact ⟨_, es', ep', hL, r'⟩) hok I.bare
theorem Inv.call {g' : Array GenState} {t' : Nat} {d' : Drawn} {ch : List Addr} (I : Inv X pins σ H s) (u : Un (frs X.stack) ch H H' s.heap h') (hok : HOk X.prog X.w H' h') (hg : AllBare g')
    (hch : ∀ b ∈ ch, (b ∈ X.ex ∨ X.s_0.heap.objs.size ≤ b) ∧ b ≠ X.env.locals ∧ (∀ x c, X.env.cells.lookup x = some c → c ≠ b) ∧ ∀ p ∈ X.pn ++ pins, p.1 ≠ b) :
    Inv X pins σ H' { s with heap := h', gens := g', drawn := d', toks := t' } := by
  obtain ⟨m, ⟨o, es, ep, ho, r⟩, _⟩ := id I.loc
  obtain ⟨sl, hL⟩ := u.any ho I.free fun z => (hch _ z).2.1 rfl
  exact I.step (ch := ch) hch (fun b o hL hb hc e n => u.keep b o e n (fun z => (List.mem_cons.mp (I.stkSub b z)).elim hL hb) hc) (fun b o _ _ hc e n => u.any e n hc) (fun b o hc e n => u.free b o e n hc) (fun b o hc e => u.there b o e hc) u.tups u.frzs u.tbls (fun m' hm => by
    obtain ⟨o', es', ep', ho', r'⟩ := hm
    rw [ho] at ho'; cases ho'
    exact ⟨_, es', ep', hL, r'⟩) hok hg
theorem Inv.turned {t' : Nat} {it : Addr} (I : Inv X pins σ H s) (k : ∀ b o, b ≠ it → s.heap.get? b = some o → h'.get? b = some o) (hn : H it = none) (hL : it ≠ X.env.locals)
    (h1 : it ∈ X.ex ∨ X.s_0.heap.objs.size ≤ it) (h2 : ∀ x c, X.env.cells.lookup x = some c → c ≠ it) (h3 : ∀ p ∈ X.pn ++ pins, p.1 ≠ it) : Inv X pins σ H { s with heap := h', toks := t' } := by
  have nit : ∀ b u, H b = some u → b ≠ it := fun b u e z => by rw [z, hn] at e; cases e
  refine I.step (g' := s.gens) (d' := s.drawn) (ch := [it]) (fun b hb => ?_) (fun b o _ _ hc e _ => k b o (fun z => hc (by simp [z])) e) (fun b o _ _ hc e _ => ⟨o.slots, k b o (fun z => hc (by simp [z])) e⟩) (fun _ _ _ _ n => n)
    (fun b o hc e => ⟨o, k b o (fun z => hc (by simp [z])) e⟩) (fun _ _ e => e) (fun _ _ _ e => e) (fun b ps e => ⟨#[], by rw [e]; simp⟩) (fun m hm => ?_) (fun b u e => ?_) I.bare
  · have e : b = it := by simpa using hb
    subst e
    exact ⟨h1, hL, h2, h3⟩
  · obtain ⟨o, es, ep, ho, r⟩ := hm
    exact ⟨o, es, ep, k _ o (Ne.symm hL) ho, r⟩
  · refine (I.hok b u e).stay (fun c v hc q => k c v ?_ q) (fun _ q => q) fun _ _ q => q
    rcases hc with z | z
    · rw [z]; exact nit b u e
    · exact nit c _ z
theorem Inv.tok (I : Inv X pins σ H s) (t : Nat) : Inv X pins σ H { s with toks := t } := I.un (h' := s.heap) (t' := t) Un.refl I.hok
theorem Inv.kept {t' : Nat} (I : Inv X pins σ H s) (k : ∀ b u, s.heap.get? b = some u → h'.get? b = some u) : Inv X pins σ H { s with heap := h', toks := t' } := I.un (Un.kept k) (I.hok.kept k)
theorem Inv.laid {a : Addr} {o : HO} {t' : Nat} (I : Inv X pins σ H s) (k : ∀ b u, s.heap.get? b = some u → h'.get? b = some u) (hp : s.heap.objs.size ≤ a) (new : ObjOk X.prog X.w (upd H a o) h' a o) :
    Inv X pins σ (upd H a o) { s with heap := h', toks := t' } := I.un (Un.laid k hp (I.hok.fresh hp)) (I.hok.laid k hp new)
theorem Inv.write {x e : Addr} {o : HO} {t' : Nat} (I : Inv X pins σ H s) (mu : Mut (H x)) (he : e = x ∨ H e = some (.own x)) (k : ∀ b u, b ≠ e → s.heap.get? b = some u → h'.get? b = some u) (heo : ∃ u, h'.get? e = some u)
    (new : ObjOk X.prog X.w (upd H x o) h' x o) : Inv X pins σ (upd H x o) { s with heap := h', toks := t' } := I.un (Un.write mu he k heo) (I.hok.write mu he k heo new)
theorem Inv.weak {σ' : List (Option V)} (I : Inv X pins σ H s) (hl : σ'.length = σ.length) (w : ∀ (i : Nat) v, σ'[i]? = some (some v) → σ[i]? = some (some v)) : Inv X pins σ' H s :=
  ⟨I.ok, I.os, I.bare, I.base, let ⟨m, hn, hl'⟩ := I.loc; ⟨m, hn, fun i x v e1 e2 e3 => hl' i x v e1 (w i v e2) e3⟩, I.cell, I.free, I.freeC, I.pin, I.hok, hl.trans I.len⟩
theorem Inv.pins_of {pins' : List (Addr × Obj)} (I : Inv X pins σ H s) (h : ∀ p ∈ pins', s.heap.get? p.1 = some p.2 ∧ H p.1 = none ∧ p.1 ≠ X.env.locals ∧ p.1 ∉ X.fs ∧ ∀ v, p.2.data ≠ .cell v) : Inv X pins' σ H s :=
  ⟨I.ok, I.os, I.bare, I.base, I.loc, I.cell, I.free, I.freeC, fun p hp => (List.mem_append.mp hp).elim (fun z => I.pin p (List.mem_append_left _ z)) (h p), I.hok, I.len⟩
theorem nodup_ix {N : List Str} (hN : N.Nodup) {i j : Nat} {x : Str} (a : N[i]? = some x) (b : N[j]? = some x) : i = j := by
  obtain ⟨h1, e1⟩ := List.getElem?_eq_some_iff.mp a
  obtain ⟨h2, e2⟩ := List.getElem?_eq_some_iff.mp b
  exact (List.getElem_inj hN).mp (e1.trans e2.symm)
theorem store_ok2 {M : Model} {A : Around} {E : Value → Shared → Prop} {i : Nat} {x : Str} {v : V} {u : Value} {Q : Unit → Shared → Prop} (I : Inv X pins σ H s) (hN : X.N.Nodup) (hi : X.N[i]? = some x) (hx : Loc X.env.scope x) (r : RelV v u)
    (h : ∀ s', Inv X pins (σ.set i (some v)) H s' → (∃ a, Heap.SameBut a s.heap s'.heap ∧ (a = X.env.locals ∨ X.env.cells.lookup x = some a)) → Q () s') (hf : X.fn x = true ∨ X.env.scope.names.lookup x = some .local := by first | exact .inl rfl | exact .inr rfl | assumption) : wpAny M A (storeName X.env x u) Q E s := by
  obtain ⟨m, hn, hl⟩ := id I.loc
  have hcls : (X.env.scope.kind == .class || (X.env.scope.kind == .module && X.env.locals != X.env.globals)) = false := by rw [I.ok.kind]; rfl
  have hiσ : i < σ.length := by rw [I.len]; exact (List.getElem?_eq_some_iff.mp hi).1
  have cne := I.cne
  have tracked : ∀ {a : Addr} {h' : Heap}, (∃ o, s.heap.get? a = some o ∧ H a = none) → Heap.SameBut a s.heap h' → HOk X.prog X.w H h' := fun {a h'} ha hs b ob e => by
    obtain ⟨_, _, hfree⟩ := ha
    refine (I.hok b ob e).stay (fun c w' hc q => (hs.2 c ?_).trans q) (fun _ q => q) fun _ _ q => q
    rintro rfl
    rcases hc with rfl | hc
    · rw [hfree] at e; cases e
    · rw [hfree] at hc; cases hc
  rcases hx with hk | hk
  · refine wpAny_storeName_local hk hn (fun h' hn' hs => ?_) hcls
    obtain ⟨oL, _, _, hoL, _⟩ := id hn
    refine h _ ⟨I.ok, I.os, I.bare, ⟨fun b o e n hb hx => ?_, fun b o e n hb hx => ?_, I.base.free, fun b o e hx => ?_, I.base.tups, I.base.frzs, I.base.tbls⟩, ⟨_, hn', fun j y v' e1 e2 e3 => ?_⟩, fun y c e => ?_, I.free, I.freeC, fun p hp => ?_, tracked ⟨oL, hoL, I.free⟩ hs, by simpa using I.len⟩ ⟨_, hs, .inl rfl⟩
    · exact (hs.2 b (Nat.ne_of_lt (Nat.lt_of_lt_of_le (Heap.lt_size e) I.ok.above))).trans (I.base.keep b o e n hb hx)
    · obtain ⟨sl, e1⟩ := I.base.slot b o e n hb hx
      exact ⟨sl, (hs.2 b (Nat.ne_of_lt (Nat.lt_of_lt_of_le (Heap.lt_size e) I.ok.above))).trans e1⟩
    · obtain ⟨o', e1⟩ := I.base.there b o e hx
      exact ⟨o', (hs.2 b (Nat.ne_of_lt (Nat.lt_of_lt_of_le (Heap.lt_size e) I.ok.above))).trans e1⟩
    · by_cases hj : j = i
      · subst hj
        rw [hi] at e1; cases e1
        rw [List.getElem?_set_self hiσ] at e2
        cases e2
        exact ⟨u, r, .inl ⟨hk, by simp⟩⟩
      · rw [List.getElem?_set_ne (Ne.symm hj)] at e2
        obtain ⟨u', r', q⟩ := hl j y v' e1 e2 e3
        refine ⟨u', r', ?_⟩
        rcases q with ⟨k, e⟩ | ⟨k, c, e, z⟩
        · refine .inl ⟨k, ?_⟩
          have : y ≠ x := fun e => hj (nodup_ix hN e1 (e ▸ hi))
          simp [this, e]
        · exact .inr ⟨k, c, e, z.sameBut hs (cne y c e)⟩
    · obtain ⟨w', z⟩ := I.cell y c e
      exact ⟨w', z.sameBut hs (cne y c e)⟩
    · obtain ⟨e, n, ne, nf, d⟩ := I.pin p hp
      exact ⟨(hs.2 p.1 ne).trans e, n, ne, nf, d⟩
  · have hfn : X.fn x = true := by
      rcases hf with z | z
      · exact z
      · rw [z] at hk; cases hk
    obtain ⟨c, hc⟩ := I.ok.has x (.inl hk)
    obtain ⟨w', z⟩ := I.cell x c hc
    refine wpAny_storeName_cell I.ok.kind hk hc z (fun h' hc' hs => ?_)
    obtain ⟨oc, hoc, hocd⟩ := id z
    refine h { s with heap := h' } ⟨I.ok, I.os, I.bare, ⟨fun b o e n hb hx => ?_, fun b o e n hb hx => ?_, I.base.free, fun b o e hx => ?_, I.base.tups, I.base.frzs, I.base.tbls⟩, ⟨m, hn.sameBut hs (Ne.symm (cne x c hc)), fun j y v' e1 e2 e3 => ?_⟩, fun y c' e => ?_, I.free, I.freeC, fun p hp => ?_, tracked ⟨oc, hoc, I.freeC x c hc⟩ hs, by simpa using I.len⟩ ⟨c, hs, .inr hc⟩
    · exact (hs.2 b (Nat.ne_of_lt (Nat.lt_of_lt_of_le (Heap.lt_size e) (I.ok.cab x c hfn hc)))).trans (I.base.keep b o e n hb hx)
    · obtain ⟨sl, e1⟩ := I.base.slot b o e n hb hx
      exact ⟨sl, (hs.2 b (Nat.ne_of_lt (Nat.lt_of_lt_of_le (Heap.lt_size e) (I.ok.cab x c hfn hc)))).trans e1⟩
    · obtain ⟨o', e1⟩ := I.base.there b o e hx
      exact ⟨o', (hs.2 b (Nat.ne_of_lt (Nat.lt_of_lt_of_le (Heap.lt_size e) (I.ok.cab x c hfn hc)))).trans e1⟩
    · by_cases hj : j = i
      · subst hj
        rw [hi] at e1; cases e1
        rw [List.getElem?_set_self hiσ] at e2
        cases e2
        exact ⟨u, r, .inr ⟨.inl hk, c, hc, hc'⟩⟩
      · rw [List.getElem?_set_ne (Ne.symm hj)] at e2
        obtain ⟨u', r', q⟩ := hl j y v' e1 e2 e3
        refine ⟨u', r', ?_⟩
        rcases q with q | ⟨k, c', e, z'⟩
        · exact .inl q
        · refine .inr ⟨k, c', e, z'.sameBut hs ?_⟩
          rintro rfl
          exact hj (nodup_ix hN e1 (I.ok.inj _ _ _ e hc ▸ hi))
    · by_cases hcc : c' = c
      · subst hcc; exact ⟨_, hc'⟩
      · obtain ⟨w2, z2⟩ := I.cell y c' e
        exact ⟨w2, z2.sameBut hs hcc⟩
    · obtain ⟨e, n, ne, nf, d⟩ := I.pin p hp
      refine ⟨(hs.2 p.1 ?_).trans e, n, ne, nf, d⟩
      intro q
      rw [q, hoc] at e
      have q' : oc = p.2 := Option.some.inj e
      exact d w' (by rw [← q']; exact hocd)
theorem store_ok {M : Model} {A : Around} {E : Value → Shared → Prop} {i : Nat} {x : Str} {v : V} {u : Value} {Q : Unit → Shared → Prop} (I : Inv X pins σ H s) (hN : X.N.Nodup) (hi : X.N[i]? = some x) (hx : Loc X.env.scope x) (r : RelV v u)
    (h : ∀ s', Inv X pins (σ.set i (some v)) H s' → Q () s') (hf : X.fn x = true ∨ X.env.scope.names.lookup x = some .local := by first | exact .inl rfl | exact .inr rfl | assumption) : wpAny M A (storeName X.env x u) Q E s :=
  store_ok2 I hN hi hx r (fun s' I' _ => h s' I') hf
theorem Inv.call' {s' : Shared} {ch : List Addr} (I : Inv X pins σ H s) (ho : s'.os = s.os) (u : Un (frs X.stack) ch H H' s.heap s'.heap) (hok : HOk X.prog X.w H' s'.heap) (hg : AllBare s'.gens)
    (hch : ∀ b ∈ ch, (b ∈ X.ex ∨ X.s_0.heap.objs.size ≤ b) ∧ b ≠ X.env.locals ∧ (∀ x c, X.env.cells.lookup x = some c → c ≠ b) ∧ ∀ p ∈ X.pn ++ pins, p.1 ≠ b) : Inv X pins σ H' s' := by
  obtain ⟨h', g', d', t', o'⟩ := s'
  have e : o' = s.os := ho
  subst e
  exact I.call (g' := g') (t' := t') (d' := d') u hok hg hch
end
abbrev XK := Value → Option Addr → Hp → Prop
abbrev St := List (Option V)
abbrev VK := V → Hp → Prop
abbrev TE := St → Hp → VK → Prop
abbrev TT := St → Hp → (Bool → Hp → Prop) → Prop
abbrev TA := St → Hp → (List V → Hp → Prop) → Prop
structure Ends where
  nx : St → Hp → Prop
  rt : VK
  bk : St → Hp → Prop := fun _ _ => False
  ct : St → Hp → Prop := fun _ _ => False
abbrev TS := Ends → St → Hp → Prop
def EP (X : Cx) (pins : List (Addr × Obj)) (σ : St) (Q : VK) (u : Value) (s' : Shared) : Prop := ∃ v H', Inv X pins σ H' s' ∧ RelV v u ∧ Q v H'
def TP (X : Cx) (pins : List (Addr × Obj)) (σ : St) (Q : Bool → Hp → Prop) (b : Bool) (s' : Shared) : Prop := ∃ H', Inv X pins σ H' s' ∧ Q b H'
def AP (X : Cx) (pins : List (Addr × Obj)) (σ : St) (Q : List V → Hp → Prop) (us : List Value) (s' : Shared) : Prop := ∃ vs H', Inv X pins σ H' s' ∧ Vals vs us ∧ Q vs H'
def SP (X : Cx) (pins : List (Addr × Obj)) (D : Ends) (f : Flow) (s' : Shared) : Prop :=
  match f with
  | .next => ∃ σ' H', Inv X pins σ' H' s' ∧ D.nx σ' H'
  | .brk => ∃ σ' H', Inv X pins σ' H' s' ∧ D.bk σ' H'
  | .cont => ∃ σ' H', Inv X pins σ' H' s' ∧ D.ct σ' H'
  | .ret u => ∃ v σ' H', Inv X pins σ' H' s' ∧ RelV v u ∧ D.rt v H'
def PE (X : Cx) (e : Expr) (t : TE) : Prop :=
  ∀ (pins : List (Addr × Obj)) (s : Shared) (σ : St) (H : Hp) (Q : VK), Inv X pins σ H s → t σ H Q → wpAny (model X.prog X.w) X.A (eval e X.env) (EP X pins σ Q) X.xe s
def PT (X : Cx) (e : Expr) (t : TT) : Prop :=
  ∀ (pins : List (Addr × Obj)) (s : Shared) (σ : St) (H : Hp) (Q : Bool → Hp → Prop), Inv X pins σ H s → t σ H Q → wpAny (model X.prog X.w) X.A (isTrue e X.env (eval e X.env)) (TP X pins σ Q) X.xe s
def PW (X : Cx) (e : Expr) (t : TT) : Prop :=
  ∀ (whole : Sem Value) (pins : List (Addr × Obj)) (s : Shared) (σ : St) (H : Hp) (Q : Bool → Hp → Prop), Inv X pins σ H s → t σ H Q → wpAny (model X.prog X.w) X.A (isTrue e X.env whole) (TP X pins σ Q) X.xe s
theorem PW.pt {X : Cx} {e : Expr} {t : TT} (h : PW X e t) : PT X e t := h _
def PA (X : Cx) (es : List Expr) (t : TA) : Prop :=
  ∀ (pos : Pos) (pins : List (Addr × Obj)) (s : Shared) (σ : St) (H : Hp) (Q : List V → Hp → Prop), Inv X pins σ H s → t σ H Q → wpAny (model X.prog X.w) X.A (spliced (backTo pos (starEach es X.env))) (AP X pins σ Q) X.xe s
def PS (X : Cx) (st : Stmt) (t : TS) : Prop :=
  ∀ (pins : List (Addr × Obj)) (s : Shared) (σ : St) (H : Hp) (D : Ends), Inv X pins σ H s → t D σ H → wpAny (model X.prog X.w) X.A (exec st X.env) (SP X pins D) X.xe s
def PSs (X : Cx) (st : List Stmt) (t : TS) : Prop :=
  ∀ (pins : List (Addr × Obj)) (s : Shared) (σ : St) (H : Hp) (D : Ends), Inv X pins σ H s → t D σ H → wpAny (model X.prog X.w) X.A (execs st X.env) (SP X pins D) X.xe s
theorem thn {α : Type} {t : Sem α} {Q Q' : α → Shared → Prop} {M : Model} {A : Around} {E : Value → Shared → Prop} {s : Shared} (h : wpAny M A t Q E s) (hQ : ∀ a s, Q a s → Q' a s) : wpAny M A t Q' E s := wpAny_mono h hQ fun _ _ x => x
end L2
namespace L2
open PySem PySem.Spec PyProof.Rows
section
variable {X : Cx}
def tVar (i : Nat) : TE := fun σ H Q => ∃ v, σ[i]? = some (some v) ∧ Q v H
def tC (v : V) : TE := fun _ H Q => Q v H
theorem pe_var {i : Nat} {x : Str} {pos : Pos} (hN : X.N[i]? = some x) (hv : Vis X.env.scope x) (hd : (x == ("__debug__" : Str)) = false := by decide) (hcd : (x == ("__classdict__" : Str)) = false := by decide) : PE X (.Name x pos) (tVar i) := by
  intro pins s σ H Q I h
  obtain ⟨v, e, h⟩ := h
  obtain ⟨m, hn, hl⟩ := I.loc
  obtain ⟨u, r, l⟩ := hl i x v hN e hv
  have fin : EP X pins σ Q u s := ⟨v, H, I, r, h⟩
  rcases l with ⟨hk, hm⟩ | ⟨hk, c, hc, hcell⟩
  · exact wpAny_Name (wpAny_loadName_local I.ok.kind hk hn hm fin) hd
  · rcases hk with hk | hk
    · exact wpAny_Name (wpAny_loadName_cell I.ok.kind hk hc hcell fin) hd
    · exact wpAny_Name (wpAny_loadName_free I.ok.kind hk hc hcell fin hcd) hd
theorem pe_int {i j pos} : PE X (.Constant (.int i) j pos) (tC (.int i)) := fun _ _ _ H _ I h => wpAny_Constant_int ⟨.int i, H, I.tok _, ⟨_, rfl⟩, h⟩
theorem pe_bl {b j pos} : PE X (.Constant (.bool b) j pos) (tC (.bl b)) := fun _ _ _ H _ I h => Constant_bool ⟨.bl b, H, I, rfl, h⟩
theorem pe_non {j pos} : PE X (.Constant .none j pos) (tC .non) := fun _ _ _ H _ I h => Constant_none ⟨.non, H, I, rfl, h⟩
def Gl (X : Cx) (x : Str) : Prop := X.env.kindOf x = some .globalImplicit
theorem ld_glob {E : Value → Shared → Prop} {pins : List (Addr × Obj)} {s : Shared} {σ : St} {H : Hp} {x : Str} {u : Value} {pos : Pos} {Q : Value → Shared → Prop} (I : Inv X pins σ H s) (hg : Gl X x) (hm : X.mg x = some u) (h : Q u s)
    (hd : (x == ("__debug__" : Str)) = false := by decide) : wpAny (model X.prog X.w) X.A (eval (.Name x pos) X.env) Q E s :=
  Calls.Name_function_global I.ok.kind hg (Calls.loadGlobal_global (by rw [I.ok.glob]; exact I.mod.glob.keeps I.bk) hm h) hd
theorem ld_blt {E : Value → Shared → Prop} {pins : List (Addr × Obj)} {s : Shared} {σ : St} {H : Hp} {x : Str} {u : Value} {pos : Pos} {Q : Value → Shared → Prop} (I : Inv X pins σ H s) (hg : Gl X x) (hm : X.mg x = none) (hv : bootBuiltins x = some u) (h : Q u s)
    (hn : x ≠ "__name__" := by decide) (hd : (x == ("__debug__" : Str)) = false := by decide) : wpAny (model X.prog X.w) X.A (eval (.Name x pos) X.env) Q E s := by
  obtain ⟨mb, h1, h2⟩ := I.mod.blt
  exact Calls.Name_function_global I.ok.kind hg (Calls.loadGlobal_builtin (by rw [I.ok.glob]; exact I.mod.glob.keeps I.bk) hm (by rw [I.ok.blt]; exact h1.keeps I.bk) ((h2 x hn).trans hv) h) hd
theorem pe_glob {x : Str} {v : V} {u : Value} {pos : Pos} (hg : Gl X x) (hm : X.mg x = some u) (r : RelV v u) (hd : (x == ("__debug__" : Str)) = false := by decide) : PE X (.Name x pos) (tC v) :=
  fun _ _ _ H _ I h => ld_glob I hg hm ⟨v, H, I, r, h⟩ hd
variable {a b : Expr} {ta tb : TE} {pos : Pos}
def PC (X : Cx) (op : CmpOp) (a b : Expr) (t : TE) : Prop :=
  ∀ (pins : List (Addr × Obj)) (s : Shared) (σ : St) (H : Hp) (Q : VK), Inv X pins σ H s → t σ H Q →
    wpAny (model X.prog X.w) X.A (eval a X.env) (fun v s₁ => wpAny (model X.prog X.w) X.A (eval b X.env) (fun u s₂ => wpAny (model X.prog X.w) X.A (compareOp op v u) (EP X pins σ Q) X.xe s₂) X.xe s₁) X.xe s
def tB (t : TE) : TT := fun σ H Q => t σ H fun x H1 => ∃ c, x = .bl c ∧ Q c H1
theorem pt_cmp {op : CmpOp} {t : TE} (h : PC X op a b t) (h1 : behindInMarks op b = false := by first | exact nobehind _ (by decide) (by decide) | rfl) : PT X (.Compare a [op] [b] pos) (tB t) := by
  intro pins s σ H Q I hw
  refine wpAny_isTrue_Compare1 (thn (h pins s σ H _ I hw) fun v s1 h1 => thn h1 fun u s2 h2 => thn h2 fun c s3 ⟨x, H1, I1, r1, q1⟩ => ?_) h1
  obtain ⟨d, rfl, q⟩ := q1
  cases r1
  exact wpAny_truthy_bool ⟨H1, I1, q⟩
theorem pt_val {e : Expr} {t : TE} (h : PE X e t) (he : ∀ whole, isTrue e X.env whole = (do let v ← whole; standAt e.pos; holding [v] (truthy v)) := by intro _; rfl) : PT X e (tB t) := by
  intro pins s σ H Q I hw
  refine isTrue_plain (thn (h pins s σ H _ I hw) fun v s1 ⟨x, H1, I1, r1, q1⟩ => ?_) (he _)
  obtain ⟨d, rfl, q⟩ := q1
  cases r1
  exact wpAny_truthy_bool ⟨H1, I1, q⟩
variable {tA tB' : TT} {rest : List Expr}
def tAnd (t u : TT) : TT := fun σ H Q => t σ H fun c H1 => if c = true then u σ H1 Q else Q false H1
def tOr (t u : TT) : TT := fun σ H Q => t σ H fun c H1 => if c = true then Q true H1 else u σ H1 Q
def tNot (t : TT) : TT := fun σ H Q => t σ H fun c H1 => Q (!c) H1
theorem pw_and1 (ha : PT X a tA) : PW X (.BoolOp .And [a] pos) tA := by
  intro wh pins s σ H Q I h
  refine isTrue_and (thn (ha pins s σ H Q I h) fun c s1 e => ?_)
  cases c with
  | true => exact isTrue_and_nil e
  | false => exact e
theorem pw_or1 (ha : PT X a tA) : PW X (.BoolOp .Or [a] pos) tA := by
  intro wh pins s σ H Q I h
  refine isTrue_or (thn (ha pins s σ H Q I h) fun c s1 e => ?_)
  cases c with
  | false => exact isTrue_or_nil e
  | true => exact e
theorem pw_and (ha : PT X a tA) (hb : PW X (.BoolOp .And (b :: rest) pos) tB') : PW X (.BoolOp .And (a :: b :: rest) pos) (tAnd tA tB') := by
  intro wh pins s σ H Q I h
  refine isTrue_and (thn (ha pins s σ H _ I h) fun c s1 ⟨H1, I1, q1⟩ => ?_)
  cases c with
  | true => exact hb wh pins s1 σ H1 Q I1 q1
  | false => exact ⟨H1, I1, q1⟩
theorem pw_or (ha : PT X a tA) (hb : PW X (.BoolOp .Or (b :: rest) pos) tB') : PW X (.BoolOp .Or (a :: b :: rest) pos) (tOr tA tB') := by
  intro wh pins s σ H Q I h
  refine isTrue_or (thn (ha pins s σ H _ I h) fun c s1 ⟨H1, I1, q1⟩ => ?_)
  cases c with
  | true => exact ⟨H1, I1, q1⟩
  | false => exact hb wh pins s1 σ H1 Q I1 q1
theorem pt_not (ha : PT X a tA) : PT X (.UnaryOp .Not a pos) (tNot tA) := by
  intro pins s σ H Q I h
  exact isTrue_not (ha pins s σ H (fun c H1 => Q (!c) H1) I h)
def tAndV (ta tb : TE) : TE := fun σ H Q => ta σ H fun x H1 => ∃ c, x = .bl c ∧ if c = true then tb σ H1 Q else Q (.bl false) H1
theorem pe_one {op} {t : TE} (h : PE X a t) : PE X (.BoolOp op [a] pos) t := fun pins s σ H Q I hw => BoolOp_one (h pins s σ H Q I hw)
theorem pe_and (ha : PE X a ta) (hb : PE X (.BoolOp .And (b :: rest) pos) tb) : PE X (.BoolOp .And (a :: b :: rest) pos) (tAndV ta tb) := by
  intro pins s σ H Q I h
  refine BoolOp_and (thn (ha pins s σ H _ I h) fun v s1 ⟨x, H1, I1, r1, q1⟩ => ?_)
  obtain ⟨c, rfl, q1⟩ := q1
  cases r1
  refine wpAny_truthy_bool ?_
  cases c with
  | true => exact hb pins s1 σ H1 Q I1 q1
  | false => exact ⟨.bl false, H1, I1, rfl, q1⟩
end
end L2
namespace L2
open PySem PySem.Spec PyProof.Rows
def SqL (K : Frag) (H : Hp) (a : Addr) (xs : List V) : Prop :=
  Rd H a (.lst xs) ∨
    ∃ (o : Obj) (its : Array Value) (n : Nat), K.lookup a = some o ∧ o.cls = .type "list" ∧ o.dict = none ∧ o.data = .seq its n ∧ its.size ≤ sizeLine ∧ Vals xs its.toList
def SqT (K : Frag) (H : Hp) (a : Addr) (xs : List V) : Prop :=
  Rd H a (.tup xs) ∨
    ∃ (o : Obj) (its : Array Value) (n : Nat), K.lookup a = some o ∧ o.cls = .type "tuple" ∧ o.data = .seq its n ∧ its.size ≤ sizeLine ∧ Vals xs its.toList
def absV : Value → Option V
  | .none => some .non
  | .bool b => some (.bl b)
  | .int i _ => some (.int i)
  | .str x _ => some (.str x)
  | .bytes b _ => some (.byt b)
  | .float b _ => some (.flt b)
  | .ref a => some (.ref a)
  | .type n => some (.ty n)
  | _ => none
theorem RelV.abs {x : V} {u : Value} (r : RelV x u) : absV u = some x := by
  cases x with
  | non => cases r; rfl
  | bl _ => cases r; rfl
  | int _ => obtain ⟨t, rfl⟩ := r; rfl
  | str _ => obtain ⟨t, rfl⟩ := r; rfl
  | byt _ => obtain ⟨t, rfl⟩ := r; rfl
  | flt _ => obtain ⟨t, rfl⟩ := r; rfl
  | ref _ => cases r; rfl
  | ty _ => cases r; rfl
theorem RelV.inj {x y : V} {u : Value} (r : RelV x u) (q : RelV y u) : x = y := Option.some.inj (r.abs.symm.trans q.abs)
theorem Vals.inj : ∀ {xs ys : List V} {us : List Value}, Vals xs us → Vals ys us → xs = ys
  | _, _, _, .nil, .nil => rfl
  | _, _, _, .cons r t, .cons r' t' => by rw [r.inj r', Vals.inj t t']
section
variable {X : Cx} {pins : List (Addr × Obj)} {σ : St} {H : Hp} {s : Shared} {a : Addr} {xs ys : List V}
theorem SqL.of {K : Frag} (h : H a = some (.lst xs)) : SqL K H a xs := .inl (.inl h)
theorem SqT.of {K : Frag} (h : H a = some (.tup xs)) : SqT K H a xs := .inl (.inl h)
theorem Inv.list (I : Inv X pins σ H s) (h : SqL X.K H a xs) : ∃ its : List Value, Vals xs its ∧ PlainL s.heap a its.toArray ∧ xs.length ≤ sizeLine := by
  rcases h with h | ⟨o, its, n, hk, hc, hd, hs, hz, r⟩
  · obtain ⟨z, its, n, r, e⟩ := h.ok I.hok
    exact ⟨its, r, ⟨_, n, e, rfl, rfl, rfl⟩, z⟩
  · refine ⟨its.toList, r, ⟨o, n, I.kIn a o hk, hc, hd, by simpa using hs⟩, ?_⟩
    have e := r.length
    simp only [Array.length_toList] at e
    omega
theorem Inv.tuple (I : Inv X pins σ H s) (h : SqT X.K H a xs) : ∃ its : List Value, Vals xs its ∧ IsTup s.heap a its.toArray ∧ xs.length ≤ sizeLine := by
  rcases h with h | ⟨o, its, n, hk, hc, hs, hz, r⟩
  · obtain ⟨z, its, r, p⟩ := h.ok I.hok
    exact ⟨its, r, p, z⟩
  · refine ⟨its.toList, r, ⟨o, I.kIn a o hk, hc, n, by simpa using hs⟩, ?_⟩
    have e := r.length
    simp only [Array.length_toList] at e
    omega
theorem Inv.list_inj (I : Inv X pins σ H s) (h : SqL X.K H a xs) (h' : SqL X.K H a ys) : xs = ys := by
  obtain ⟨its, r, ⟨o, n, e, _, _, d⟩, _⟩ := I.list h
  obtain ⟨its', r', ⟨o', n', e', _, _, d'⟩, _⟩ := I.list h'
  rw [e] at e'; cases e'
  rw [d] at d'
  injection d' with d1 _
  have : its = its' := by simpa using congrArg Array.toList d1
  subst this
  exact r.inj r'
end
abbrev Cx.wish (X : Cx) (E : Value → Shared → Prop) : Cx := { X with xe := E }
abbrev Cx.nox (X : Cx) : Cx := X.wish fun _ _ => False
theorem Cx.Ok.wish {X : Cx} (ok : X.Ok) (E : Value → Shared → Prop) : (X.wish E).Ok :=
  ⟨ok.mod, ok.kind, ok.glob, ok.blt, ok.above, ok.inj, ok.has, ok.cab, ok.hd, ok.frames, ok.stk, ok.exf, ok.bs, ok.bsz, ok.noex, ok.exfs, ok.funs, ok.frf⟩
theorem Cx.Ok.unwish {X : Cx} {E : Value → Shared → Prop} (ok : (X.wish E).Ok) : X.Ok :=
  ⟨ok.mod, ok.kind, ok.glob, ok.blt, ok.above, ok.inj, ok.has, ok.cab, ok.hd, ok.frames, ok.stk, ok.exf, ok.bs, ok.bsz, ok.noex, ok.exfs, ok.funs, ok.frf⟩
section
variable {X : Cx} {pins : List (Addr × Obj)} {σ : St} {H : Hp} {s : Shared} {E : Value → Shared → Prop}
theorem Inv.wish (I : Inv X pins σ H s) (E : Value → Shared → Prop) : Inv (X.wish E) pins σ H s := ⟨I.ok.wish E, I.os, I.bare, I.base, I.loc, I.cell, I.free, I.freeC, I.pin, I.hok, I.len⟩
theorem Inv.unwish (I : Inv (X.wish E) pins σ H s) : Inv X pins σ H s := ⟨I.ok.unwish, I.os, I.bare, I.base, I.loc, I.cell, I.free, I.freeC, I.pin, I.hok, I.len⟩
theorem SP.unwish {D : Ends} {f : Flow} {s' : Shared} (h : SP (X.wish E) pins D f s') : SP X pins D f s' := by
  cases f with
  | next => obtain ⟨σ', H', I, q⟩ := h; exact ⟨σ', H', I.unwish, q⟩
  | brk => obtain ⟨σ', H', I, q⟩ := h; exact ⟨σ', H', I.unwish, q⟩
  | cont => obtain ⟨σ', H', I, q⟩ := h; exact ⟨σ', H', I.unwish, q⟩
  | ret u => obtain ⟨v, σ', H', I, r, q⟩ := h; exact ⟨v, σ', H', I.unwish, r, q⟩
theorem PSs.nox {st : List Stmt} {t : TS} (h : PSs X.nox st t) : PSs X st t := fun pins s σ H D I hw =>
  wpAny_mono (h pins s σ H D (I.wish _) hw) (fun _ _ q => q.unwish) fun _ _ z => False.elim z
end
section
variable {X : Cx} {st : Stmt} {rest : List Stmt} {t u : TS} {e : Expr} {te : TE} {pos : Pos}
def tNext : TS := fun D σ H => D.nx σ H
def tSeq (t u : TS) : TS := fun D σ H => t { D with nx := u D } σ H
theorem pss_nil : PSs X [] tNext := fun _ _ σ H _ I h => wpAny_execs_nil ⟨σ, H, I, h⟩
theorem pss_cons (h1 : PS X st t) (h2 : PSs X rest u) : PSs X (st :: rest) (tSeq t u) := by
  intro pins s σ H D I h
  refine wpAny_execs_cons (thn (h1 pins s σ H { D with nx := u D } I h) fun f s1 q => ?_)
  cases f with
  | next =>
    obtain ⟨σ', H', I', q⟩ := q
    exact h2 pins s1 σ' H' D I' q
  | ret v => exact q
  | brk => exact q
  | cont => exact q
theorem pss_one (h1 : PS X st t) : PSs X [st] t := by
  intro pins s σ H D I h
  refine wpAny_execs_cons (thn (h1 pins s σ H D I h) fun f s1 q => ?_)
  cases f with
  | next => exact wpAny_execs_nil q
  | ret v => exact q
  | brk => exact q
  | cont => exact q
theorem Inv.quiet {pins : List (Addr × Obj)} {σ : St} {H : Hp} {s : Shared} (I : Inv X pins σ H s) : interactive X.env = false := by simp [interactive, I.ok.kind]
def tDrop (te : TE) : TS := fun D σ H => te σ H fun _ H1 => D.nx σ H1
theorem ps_expr (he : PE X e te) (hs : swapsWith e none pos.line X.env = pure false := by rfl) : PS X (.Expr e pos) (tDrop te) := by
  intro pins s σ H D I h
  exact wpAny_Expr_any (thn (he pins s σ H _ I h) fun v s1 ⟨x, H1, I1, r1, q1⟩ => ⟨σ, H1, I1, q1⟩) I.quiet hs
def tRet (te : TE) : TS := fun D σ H => te σ H D.rt
theorem ps_ret (he : PE X e te) : PS X (.Return (some e) pos) (tRet te) := by
  intro pins s σ H D I h
  exact wpAny_Return_some (thn (he pins s σ H _ I h) fun v s1 ⟨x, H1, I1, r1, q1⟩ => ⟨x, σ, H1, I1, r1, q1⟩)
def tIfS (c : TT) (t u : TS) : TS := fun D σ H => c σ H fun b H1 => if b = true then t D σ H1 else u D σ H1
theorem ps_if {c : Expr} {a b : List Stmt} {tc : TT} (hc : PT X c tc) (ha : PSs X a t) (hb : PSs X b u) : PS X (.If c a b pos) (tIfS tc t u) := by
  intro pins s σ H D I h
  refine wpAny_If (thn (hc pins s σ H _ I h) fun d s1 ⟨H1, I1, q1⟩ => ?_)
  cases d with
  | true => exact ha pins s1 σ H1 D I1 q1
  | false => exact hb pins s1 σ H1 D I1 q1
end
abbrev TG := V → St → Hp → (St → Hp → Prop) → Prop
abbrev TGs := List V → St → Hp → (St → Hp → Prop) → Prop
def PG (X : Cx) (target : Expr) (t : TG) : Prop :=
  ∀ (pins : List (Addr × Obj)) (s : Shared) (σ : St) (H : Hp) (v : V) (u : Value) (Q : St → Hp → Prop), Inv X pins σ H s → RelV v u → t v σ H Q →
    wpAny (model X.prog X.w) X.A (assign target X.env u) (fun _ s' => ∃ σ' H', Inv X pins σ' H' s' ∧ Q σ' H') X.xe s
def PGs (X : Cx) (ts : List Expr) (t : TGs) : Prop :=
  ∀ (pins : List (Addr × Obj)) (s : Shared) (σ : St) (H : Hp) (vs : List V) (us : List Value) (Q : St → Hp → Prop), Inv X pins σ H s → Vals vs us → t vs σ H Q →
    wpAny (model X.prog X.w) X.A (assignInOrder ((assignEach ts X.env).map (·.2)) us) (fun _ s' => ∃ σ' H', Inv X pins σ' H' s' ∧ Q σ' H') X.xe s
abbrev TSet := V → V → V → Hp → (Hp → Prop) → Prop
def PSet (X : Cx) (t : TSet) : Prop :=
  ∀ (pins : List (Addr × Obj)) (s : Shared) (σ : St) (H : Hp) (o i v : V) (ov iv u : Value) (Q : Hp → Prop), Inv X pins σ H s → RelV o ov → RelV i iv → RelV v u → t o i v H Q →
    wpAny (model X.prog X.w) X.A (setItem ov iv u) (fun _ s' => ∃ H', Inv X pins σ H' s' ∧ Q H') X.xe s
section
variable {X : Cx} {pos : Pos}
def gName (i : Nat) : TG := fun v σ H Q => Q (σ.set i (some v)) H
theorem pg_name {i : Nat} {x : Str} (hN : X.N.Nodup) (hi : X.N[i]? = some x) (hx : Loc X.env.scope x) (hf : X.fn x = true ∨ X.env.scope.names.lookup x = some .local := by first | exact .inl rfl | exact .inr rfl | assumption) : PG X (.Name x pos) (gName i) := by
  intro pins s σ H v u Q I r h
  exact wpAny_assign_Name (store_ok I hN hi hx r (fun s' I' => ⟨_, H, I', h⟩) hf)
def gNil : TGs := fun vs σ H Q => vs = [] ∧ Q σ H
def gCons (t : TG) (u : TGs) : TGs := fun vs σ H Q => ∃ v r, vs = v :: r ∧ t v σ H fun σ' H' => u r σ' H' Q
theorem pgs_nil : PGs X [] gNil := by
  intro pins s σ H vs us Q I r h
  obtain ⟨e, h⟩ := h
  subst e
  cases r
  exact assignInOrder_nil ⟨σ, H, I, h⟩
theorem pgs_cons {e : Expr} {es : List Expr} {t : TG} {u : TGs} (h1 : PG X e t) (h2 : PGs X es u)
    (hs : (assignEach (e :: es) X.env).map (·.2) = assign e X.env :: (assignEach es X.env).map (·.2) := by rfl) : PGs X (e :: es) (gCons t u) := by
  intro pins s σ H vs us Q I r h
  obtain ⟨v, vr, e1, h⟩ := h
  subst e1
  cases r with
  | cons r rr =>
    rw [hs]
    refine assignInOrder_cons (thn (h1 pins s σ H _ _ _ I r h) fun _ s1 ⟨σ1, H1, I1, q1⟩ => ?_)
    exact h2 pins s1 σ1 H1 _ _ Q I1 rr q1
def gTup (K : Frag) (n : Nat) (t : TGs) : TG := fun v σ H Q => ∃ a xs, v = .ref a ∧ SqT K H a xs ∧ xs.length = n ∧ t xs σ H Q
theorem pg_tup {es : List Expr} {k : Nat} {t : TGs} {n : Nat} (hc : X.calm = true) (h : PGs X es t)
    (hn : (assignEach es X.env).length = n := by rfl) (hst : (assignEach es X.env).findIdx? (·.1) = none := by rfl) : PG X (.Tuple es k pos) (gTup X.K n t) := by
  intro pins s σ H v u Q I r hw
  obtain ⟨a, xs, e1, hq, hl, hw⟩ := hw
  subst e1
  cases r
  obtain ⟨its, rv, ht, hz⟩ := I.tuple hq
  refine assign_Tuple_tuple (I.ok.hd hc) ht (by simp [hn, ← hl, rv.length]) hst fun h' hx => ?_
  have I1 : Inv X pins σ H { s with heap := h' } := I.kept (t' := s.toks) fun b o e => hx b o (Nat.ne_of_lt (Heap.lt_size e)) e
  exact h pins _ σ H xs _ Q I1 (by simpa using rv) hw
def gSub (to ti : TE) (t : TSet) : TG := fun v σ H Q => to σ H fun o H1 => ti σ H1 fun i H2 => t o i v H2 fun H3 => Q σ H3
theorem pg_sub {o i : Expr} {to ti : TE} {t : TSet} (ho : PE X o to) (hi : PE X i ti) (hs : PSet X t)
    (ha : ∀ v, assign (.Subscript o i pos) X.env v = (do
      let ov ← holding [v] (eval o X.env)
      let iv ← holding [v, ov] (eval i X.env)
      standAt pos
      holding [v, ov, iv] (setItem ov iv v)
      release [v, ov, iv] []) := by intro _; rfl) : PG X (.Subscript o i pos) (gSub to ti t) := by
  intro pins s σ H v u Q I r h
  rw [ha]
  refine wpAny_bind (wpAny_holding (thn (ho pins s σ H _ I h) fun ov s1 ⟨x, H1, I1, r1, q1⟩ => ?_))
  refine wpAny_bind (wpAny_holding (thn (hi pins s1 σ H1 _ I1 q1) fun iv s2 ⟨y, H2, I2, r2, q2⟩ => ?_))
  refine wpAny_bind (wpAny_standAt (wpAny_bind (wpAny_holding (thn (hs pins s2 σ H2 x y v ov iv u _ I2 r1 r2 r q2) fun _ s3 ⟨H3, I3, q3⟩ => ?_))))
  exact wpAny_release ⟨σ, H3, I3, q3⟩
def tAsg (te : TE) (g : TG) : TS := fun D σ H => te σ H fun x H1 => g x σ H1 D.nx
theorem ps_asg {tg e : Expr} {te : TE} {g : TG} (he : PE X e te) (hg : PG X tg g) (hs : swapsWithSole [tg] e pos.line X.env = pure false := by rfl) (hw : swappedStores [tg] e X.env = pure none := by rfl)
    (h1 : (assignEach [tg] X.env).map (·.2) = [assign tg X.env] := by rfl) : PS X (.Assign [tg] e pos) (tAsg te g) := by
  intro pins s σ H D I h
  refine wpAny_Assign_stores (thn (he pins s σ H _ I h) fun v s1 ⟨x, H1, I1, r1, q1⟩ => ?_) hs hw
  rw [h1]
  exact thn (hg pins s1 σ H1 x v _ I1 r1 q1) fun _ s2 q => q
theorem ps_set {i : Nat} {x : Str} {e : Expr} {te : TE} {pos' : Pos} (hN : X.N.Nodup) (hi : X.N[i]? = some x) (hx : Loc X.env.scope x) (he : PE X e te) (hs : swapsWith e (some (.Name x pos')) pos.line X.env = pure false := by rfl) (hf : X.fn x = true ∨ X.env.scope.names.lookup x = some .local := by first | exact .inl rfl | exact .inr rfl | assumption) :
    PS X (.Assign [.Name x pos'] e pos) (tAsg te (gName i)) := by
  intro pins s σ H D I h
  refine wpAny_Assign_Name (thn (he pins s σ H _ I h) fun v s1 ⟨y, H1, I1, r1, q1⟩ => ?_) hs
  exact store_ok I1 hN hi hx r1 (fun s2 I2 => ⟨_, H1, I2, q1⟩) hf
end
section
variable {X : Cx} {pos : Pos}
def tWhile (c : TT) (tb : TS) : TS := fun D σ H => ∃ W : Nat → St → Hp → Prop, (∃ m, W m σ H) ∧ ∀ m σ H, W m σ H →
  c σ H fun b H1 => if b = true then ∃ N : St → Hp → Prop, (∀ σ' H', N σ' H' → ∃ m', m' < m ∧ W m' σ' H') ∧ tb { D with nx := N, ct := N, bk := D.nx } σ H1 else D.nx σ H1
theorem ps_while {c : Expr} {body : List Stmt} {tc : TT} {tb : TS} (hp : PassesOwn (model X.prog X.w) X.A X.env X.xe) (hc : PT X c tc) (hb : PSs X body tb) : PS X (.While c body [] pos) (tWhile tc tb) := by
  intro pins s σ H D I h
  obtain ⟨W, ⟨m0, w0⟩, turn⟩ := h
  refine wpAny_While (codeAny_whileLoop (fun n s' => ∃ σ' H', Inv X pins σ' H' s' ∧ W n σ' H') ?_ m0 ⟨σ, H, I, w0⟩)
  rintro n s1 ⟨σ1, H1, I1, w1⟩
  refine wpAny_passesOwn hp (thn (hc pins s1 σ1 H1 _ I1 (turn n σ1 H1 w1)) fun b s2 ⟨H2, I2, q2⟩ => ?_)
  cases b with
  | true =>
    obtain ⟨N, hN, q2⟩ := q2
    rw [if_pos rfl]
    refine wpAny_passesOwn hp (thn (hb pins s2 σ1 H2 _ I2 q2) fun f s3 q3 => ?_)
    cases f with
    | next =>
      obtain ⟨σ3, H3, I3, n3⟩ := q3
      obtain ⟨m', hm, w3⟩ := hN σ3 H3 n3
      exact ⟨m', hm, σ3, H3, I3, w3⟩
    | cont =>
      obtain ⟨σ3, H3, I3, n3⟩ := q3
      obtain ⟨m', hm, w3⟩ := hN σ3 H3 n3
      exact ⟨m', hm, σ3, H3, I3, w3⟩
    | brk => exact q3
    | ret v => exact q3
  | false =>
    rw [if_neg Bool.false_ne_true]
    exact wpAny_execs_nil ⟨σ1, H2, I2, q2⟩
end
structure It where
  go : Nat → Hp → Prop
  yld : Nat → Hp → V → Hp → Prop
  stop : Nat → Hp → Prop
def FpOk (X : Cx) (pins : List (Addr × Obj)) (H : Hp) (b : Addr) : Prop :=
  H b = none ∧ b ≠ X.env.locals ∧ b ∉ X.fs ∧ (b ∈ X.ex ∨ X.s_0.heap.objs.size ≤ b) ∧ (∀ x c, X.env.cells.lookup x = some c → c ≠ b) ∧ ∀ p ∈ X.pn ++ pins, p.1 ≠ b
theorem Inv.fpOk {X : Cx} {pins : List (Addr × Obj)} {σ : St} {H H' : Hp} {s : Shared} {b : Addr} (I : Inv X pins σ H s) (hb : s.heap.objs.size ≤ b) (hn : H' b = none) : FpOk X pins H' b := by
  refine ⟨hn, Nat.ne_of_gt (Nat.lt_of_lt_of_le I.lt hb), I.nofs hb, .inr (Nat.le_trans I.sz hb), fun x c e z => ?_, fun p hp z => ?_⟩
  · obtain ⟨v, q⟩ := I.cell x c e
    exact absurd (Nat.lt_of_lt_of_le q.lt (by rw [z]; exact hb)) (Nat.lt_irrefl _)
  · exact absurd (Nat.lt_of_lt_of_le (Heap.lt_size (I.pin p hp).1) (by rw [z]; exact hb)) (Nat.lt_irrefl _)
structure Turn (P : Program) (w : World) (K : Frag) (tg : Expr) (J : It) (fp : List Addr) (it : Addr) (tn : Nat → Heap → Prop) : Prop where
  mem : it ∈ fp
  obj : ∀ i h, tn i h → ∀ b ∈ fp, ∃ o, h.get? b = some o ∧ ∀ v, o.data ≠ .cell v
  keep : ∀ i h h', tn i h → (∀ b ∈ fp, ∀ o, h.get? b = some o → h'.get? b = some o) → tn i h'
  item : ∀ (X : Cx), X.prog = P → X.w = w → X.K = K → X.calm = true → ∀ (i : Nat) (pins : List (Addr × Obj)) (s : Shared) (σ : St) (H : Hp) (E : Value → Shared → Prop), Inv X pins σ H s → (∀ b ∈ fp, FpOk X pins H b) → tn i s.heap → J.go i H →
    wpAny (model P w) X.A (pyNext (.ref it)) (fun r s1 => ∃ u, r = some u ∧
      wpAny (model P w) X.A (letOwnedTupleGo tg (.ref it) u) (fun _ s2 => ∃ x H', Inv X pins σ H' s2 ∧ RelV x u ∧ J.yld i H x H' ∧ tn (i + 1) s2.heap ∧ ∀ b ∈ fp, H' b = none) E s1) E s
  done : ∀ (X : Cx), X.prog = P → X.w = w → X.K = K → X.calm = true → ∀ (i : Nat) (pins : List (Addr × Obj)) (s : Shared) (σ : St) (H : Hp) (E : Value → Shared → Prop), Inv X pins σ H s → (∀ b ∈ fp, FpOk X pins H b) → tn i s.heap → J.stop i H →
    wpAny (model P w) X.A (pyNext (.ref it)) (fun r s1 => r = none ∧ Inv X pins σ H s1) E s
  self : ∀ (A : Around) (i : Nat) (s : Shared) (Q : Value → Shared → Prop) (E : Value → Shared → Prop), tn i s.heap → Q (.ref it) s → wpAny (model P w) A (pyIter (.ref it)) Q E s
abbrev TI := St → Hp → (It → Hp → Prop) → Prop
def PIE (X : Cx) (pins : List (Addr × Obj)) (σ : St) (tg : Expr) (R : It → Hp → Prop) (itv : Value) (s2 : Shared) : Prop :=
  ∃ (it : Addr) (fp : List Addr) (tn : Nat → Heap → Prop) (J : It) (H' : Hp), itv = .ref it ∧ Inv X pins σ H' s2 ∧ Turn X.prog X.w X.K tg J fp it tn ∧ tn 0 s2.heap ∧ (∀ b ∈ fp, FpOk X pins H' b) ∧ R J H'
def PI (X : Cx) (tg iter : Expr) (wi : TI) : Prop :=
  ∀ (pins : List (Addr × Obj)) (s : Shared) (σ : St) (H : Hp) (R : It → Hp → Prop), Inv X pins σ H s → wi σ H R →
    wpAny (model X.prog X.w) X.A (eval iter X.env) (fun v s1 => wpAny (model X.prog X.w) X.A (pyIter v) (PIE X pins σ tg R) X.xe s1) X.xe s
theorem go_of {M : Model} {A : Around} {E : Value → Shared → Prop} {s : Shared} {tg : Expr} {it : Addr} {u : Value} {o : Obj} {n : String} {vs : Array Value} {Q : Unit → Shared → Prop} (ho : s.heap.get? it = some o) (hc : o.cls = .type n) (hd : o.data = .fields vs)
    (hn : ["enumerate", "zip", "dict_itemiterator", "dict_reverseitemiterator", "odict_iterator", "itertools.zip_longest", "itertools.pairwise"].contains n = false) (hQ : Q () s) : wpAny M A (letOwnedTupleGo tg (.ref it) u) Q E s := by
  unfold letOwnedTupleGo
  cases tg <;> first
    | exact wpAny_pure hQ
    | (cases u <;> first
        | exact wpAny_pure hQ
        | (refine wpAny_bind (wpAny_load ho ?_)
           rw [hc, hd]
           show wpAny M A (if (["enumerate", "zip", "dict_itemiterator", "dict_reverseitemiterator", "odict_iterator", "itertools.zip_longest", "itertools.pairwise"].contains n && vs[0]? == some (rawInt _)) = true then _ else _) Q E s
           rw [if_neg (by intro h; rw [hn, Bool.false_and] at h; cases h)]
           exact wpAny_pure hQ))
def Itl (K : Frag) (a : Addr) : It :=
  ⟨fun i H => ∃ xs x, SqL K H a xs ∧ xs[i]? = some x, fun i H x H' => H' = H ∧ ∀ xs, SqL K H a xs → xs[i]? = some x, fun i H => ∃ xs, SqL K H a xs ∧ xs.length ≤ i⟩
def Itr (lo : Int) (n : Nat) : It := ⟨fun i _ => i < n, fun i H x H' => H' = H ∧ x = .int (lo + i), fun i _ => n ≤ i⟩
theorem turn_list {P : Program} {w : World} {K : Frag} {tg : Expr} (a it : Addr) : Turn P w K tg (Itl K a) [it] it (fun i h => h.IsListIter it a i) where
  mem := by simp
  obj := fun i h st b hb => by
    have e : b = it := by simpa using hb
    subst e
    obtain ⟨o, e, c, d⟩ := st
    exact ⟨o, e, fun v z => by rw [d] at z; cases z⟩
  keep := fun i h h' st k => st.at fun o e => k it (by simp) o e
  item := by
    intro X hP hw hK hc i pins s σ H E I hf st hg
    subst hP hw hK
    obtain ⟨xs, x, hq, hx⟩ := hg
    obtain ⟨its, rv, p, hz⟩ := I.list hq
    obtain ⟨u, hu, ru⟩ := rv.get hx
    obtain ⟨f0, f1, f2, f3, f4, f5⟩ := hf it (by simp)
    refine wpAny_pyNext_list_item st p.isList (x := u) (by simpa using hu) fun h' st' sb => ?_
    have I1 : Inv X pins σ H { s with heap := h' } := I.turned (t' := s.toks) (fun b o hb e => (sb.2 b hb).trans e) f0 f1 f3 f4 f5
    obtain ⟨o, e, c, d⟩ := id st'
    exact ⟨u, rfl, go_of (s := { s with heap := h' }) e c d (by decide) ⟨x, H, I1, ru, ⟨rfl, fun ys hy => by rw [I.list_inj hy hq]; exact hx⟩, st', fun b hb => (hf b hb).1⟩⟩
  done := by
    intro X hP hw hK hc i pins s σ H E I hf st hg
    subst hP hw hK
    obtain ⟨xs, hq, hx⟩ := hg
    obtain ⟨its, rv, p, hz⟩ := I.list hq
    obtain ⟨f0, f1, f2, f3, f4, f5⟩ := hf it (by simp)
    have hl := rv.length
    exact wpAny_pyNext_list_end (I.ok.hd hc) st p.isList (by simp; omega) fun h' eb => ⟨rfl, I.turned (t' := s.toks) (fun b o hb e => eb b o hb e) f0 f1 f3 f4 f5⟩
  self := fun _ _ _ _ _ st h => wpAny_pyIter_listiter st h
theorem turn_range {P : Program} {w : World} {K : Frag} {tg : Expr} (it : Addr) (lo : Int) (n : Nat) : Turn P w K tg (Itr lo n) [it] it (fun i h => IsRangeIter h it (lo + (i : Nat) * 1) ((n : Int) - (i : Nat)) 1) where
  mem := by simp
  obj := fun i h st b hb => by
    have e : b = it := by simpa using hb
    subst e
    exact ⟨_, st, fun v z => by
      have z' : Data.fields _ = Data.cell v := z
      cases z'⟩
  keep := fun i h h' st k => k it (by simp) _ st
  item := by
    intro X hP hw hK hc i pins s σ H E I hf st hg
    subst hP hw hK
    obtain ⟨f0, f1, f2, f3, f4, f5⟩ := hf it (by simp)
    have W := Walks.range (prog := X.prog) (w := X.w) (I.ok.hd hc) it lo 1 n
    refine W.item i s _ _ hg st fun v h' tk hv st' kk => ?_
    obtain ⟨t, rfl⟩ := hv
    have I1 : Inv X pins σ H { s with heap := h', toks := tk } := I.turned (fun b o hb e => kk b o (by simpa using hb) e) f0 f1 f3 f4 f5
    refine ⟨_, rfl, go_of (s := { s with heap := h', toks := tk }) (n := "range_iterator") st' rfl rfl (by decide) ⟨.int (lo + i), H, I1, ⟨t, ?_⟩, ⟨rfl, rfl⟩, st', fun b hb => (hf b hb).1⟩⟩
    rw [Int.mul_one]
  done := by
    intro X hP hw hK hc i pins s σ H E I hf st hg
    subst hP hw hK
    obtain ⟨f0, f1, f2, f3, f4, f5⟩ := hf it (by simp)
    exact wpAny_pyNext_range_end (I.ok.hd hc) st (by have : n ≤ i := hg; omega) fun h' eb => ⟨rfl, I.turned (t' := s.toks) (fun b o hb e => eb b o hb e) f0 f1 f3 f4 f5⟩
  self := fun _ _ _ _ _ st h => wpAny_pyIter_rangeiter st h
end L2
namespace L2
open PySem PySem.Spec PyProof.Rows
section
variable {X : Cx} {tg : Expr}
def iList (K : Frag) (tl : TE) : TI := fun σ H R => tl σ H fun x H1 => ∃ a, x = .ref a ∧ (∃ xs, SqL K H1 a xs) ∧ R (Itl K a) H1
theorem pi_list {l : Expr} {tl : TE} (hl : PE X l tl) : PI X tg l (iList X.K tl) := by
  intro pins s σ H R I h
  refine thn (hl pins s σ H _ I h) fun v s1 ⟨x, H1, I1, r1, q1⟩ => ?_
  obtain ⟨a, e, ⟨xs, hq⟩, q⟩ := q1
  subst e
  cases r1
  obtain ⟨its, rv, p, hz⟩ := I1.list hq
  refine wpAny_pyIter_list p.isList ?_
  refine ⟨s1.heap.objs.size, [s1.heap.objs.size], _, _, H1, rfl, I1.kept (t' := s1.toks) fun b o e => Heap.get?_push_of_some _ e, turn_list a _, ⟨_, Heap.get?_push_size _ rfl, rfl, rfl⟩, fun b hb => ?_, q⟩
  have e : b = s1.heap.objs.size := by simpa using hb
  subst e
  exact I1.fpOk (Nat.le_refl _) (I1.hok.fresh (Nat.le_refl _))
theorem range_it {pins : List (Addr × Obj)} {σ : St} {H : Hp} {s : Shared} {R : It → Hp → Prop} {E : Value → Shared → Prop} {lo hi : Int} {t u v : Tok} {tk : Nat} (I : Inv X pins σ H s) (h1 : -(2 ^ 62) ≤ lo) (h2 : lo < 2 ^ 62) (h3 : -(2 ^ 62) ≤ hi) (h4 : hi < 2 ^ 62)
    (q : R (Itr lo (hi - lo).toNat) H) : wpAny (model X.prog X.w) X.A (pyIter (.ref s.heap.objs.size)) (PIE X pins σ tg R) E { s with heap := s.heap.push { cls := .type "range", data := .fields #[.int lo t, .int hi u, .int 1 v] }, toks := tk } := by
  refine wpAny_pyIter_range (IsRange.new ..) (small_one h1 h2 h3 h4) ?_
  have I1 : Inv X pins σ H { s with heap := s.heap.push { cls := .type "range", data := .fields #[.int lo t, .int hi u, .int 1 v] }, toks := tk } := I.kept fun b o e => Heap.get?_push_of_some _ e
  refine ⟨(s.heap.push { cls := .type "range", data := .fields #[.int lo t, .int hi u, .int 1 v] }).objs.size, [(s.heap.push { cls := .type "range", data := .fields #[.int lo t, .int hi u, .int 1 v] }).objs.size], _, _, H, rfl,
    I1.kept (t' := tk) fun b o e => Heap.get?_push_of_some _ e, turn_range _ lo (hi - lo).toNat, ?_, fun b hb => ?_, q⟩
  · have e1 : lo + ((0 : Nat) : Int) * 1 = lo := by simp
    have e2 : (((hi - lo).toNat : Nat) : Int) - ((0 : Nat) : Int) = Builtin.Range.rangeSize lo hi 1 := by rw [rangeSize_one]; split <;> omega
    show IsRangeIter _ _ (lo + ((0 : Nat) : Int) * 1) ((((hi - lo).toNat : Nat) : Int) - ((0 : Nat) : Int)) 1
    rw [e1, e2]
    exact Heap.get?_push_size _ rfl
  · have e : b = (s.heap.push { cls := .type "range", data := .fields #[.int lo t, .int hi u, .int 1 v] }).objs.size := by simpa using hb
    subst e
    exact I1.fpOk (Nat.le_refl _) (I1.hok.fresh (Nat.le_refl _))
def iRng1 (ta : TA) : TI := fun σ H R => ta σ H fun vs H1 => ∃ j : Int, vs = [.int j] ∧ -(2 ^ 62) ≤ j ∧ j < 2 ^ 62 ∧ R (Itr 0 j.toNat) H1
theorem pi_range1 {a : Expr} {ta : TA} {p pos : Pos} (hg : Gl X "range") (hm : X.mg "range" = none) (ha : PA X [a] ta) (hs : starEach [a] X.env = [(false, eval a X.env)] := by rfl) : PI X tg (.Call (.Name "range" p) [a] [] pos) (iRng1 ta) := by
  intro pins s σ H R I h
  refine Call_ (ld_blt I hg hm boot_range (PyProof.Rows.callWith_type1 (thn (ha pos pins s σ H _ I h) fun us s1 ⟨vs, H1, I1, r1, q1⟩ => ?_) hs rfl))
  obtain ⟨j, e, q1, q2, q⟩ := q1
  subst e
  cases r1 with
  | cons r rr =>
    cases rr
    obtain ⟨t, rfl⟩ := r
    exact call_range_1 (range_it I1 (by omega) (by omega) q1 q2 (by simpa using q))
def tFor (wi : TI) (g : TG) (tb : TS) : TS := fun D σ H => wi σ H fun J H1 => ∃ W : Nat → Nat → St → Hp → Prop, (∃ m, W 0 m σ H1) ∧ ∀ i m σ H, W i m σ H →
  (J.stop i H ∧ D.nx σ H) ∨ (J.go i H ∧ ∃ N : St → Hp → Prop, (∀ σ' H', N σ' H' → ∃ m', m' < m ∧ W (i + 1) m' σ' H') ∧ ∀ x H', J.yld i H x H' → g x σ H' fun σ2 H2 => tb { D with nx := N, ct := N, bk := D.nx } σ2 H2)
def pinsAt (fp : List Addr) (h : Heap) : List (Addr × Obj) := fp.filterMap fun b => (h.get? b).map fun o => (b, o)
theorem mem_pinsAt {fp : List Addr} {h : Heap} {b : Addr} {o : Obj} (hb : b ∈ fp) (e : h.get? b = some o) : (b, o) ∈ pinsAt fp h := List.mem_filterMap.mpr ⟨b, hb, by rw [e]; rfl⟩
theorem of_pinsAt {fp : List Addr} {h : Heap} {p : Addr × Obj} (hp : p ∈ pinsAt fp h) : p.1 ∈ fp ∧ h.get? p.1 = some p.2 := by
  obtain ⟨b, hb, e⟩ := List.mem_filterMap.mp hp
  cases q : h.get? b with
  | none => rw [q] at e; cases e
  | some o =>
    rw [q] at e
    have e' : (b, o) = p := Option.some.inj e
    subst e'
    exact ⟨hb, q⟩
theorem Inv.pinned {pins : List (Addr × Obj)} {σ : St} {H : Hp} {s : Shared} {fp : List Addr} (I : Inv X pins σ H s) (hf : ∀ b ∈ fp, FpOk X pins H b) (ho : ∀ b ∈ fp, ∃ o, s.heap.get? b = some o ∧ ∀ v, o.data ≠ .cell v) : Inv X (pins ++ pinsAt fp s.heap) σ H s :=
  I.pins_of fun p hp => (List.mem_append.mp hp).elim (fun z => I.pin p (List.mem_append_right _ z)) fun z => by
    obtain ⟨hb, e⟩ := of_pinsAt z
    obtain ⟨f0, f1, f2, _⟩ := hf p.1 hb
    obtain ⟨o, e', d⟩ := ho p.1 hb
    rw [e] at e'; cases e'
    exact ⟨e, f0, f1, f2, d⟩
theorem Inv.unpinned {pins pl : List (Addr × Obj)} {σ : St} {H : Hp} {s : Shared} (I : Inv X (pins ++ pl) σ H s) : Inv X pins σ H s := I.pins_of fun p hp => I.pin p (List.mem_append_right _ (List.mem_append_left _ hp))
theorem ps_for {iter : Expr} {body : List Stmt} {wi : TI} {g : TG} {tb : TS} {pos : Pos} (hp : PassesOwn (model X.prog X.w) X.A X.env X.xe) (hc : X.calm = true) (hi : PI X tg iter wi) (hg : PG X tg g) (hb : PSs X body tb)
    (hs : ∀ x, foldedSetIterable iter X.env x = pure x := by intro _; rfl) : PS X (.For tg iter body [] pos) (tFor wi g tb) := by
  intro pins s σ H D I h
  refine wpAny_For (thn (hi pins s σ H _ I h) fun v s1 h1 => thn h1 fun itv s2 h2 => ?_) hs
  obtain ⟨it, fp, tn, J, H2, e, I2, T, st2, f2, W, ⟨m0, w0⟩, turn⟩ := h2
  subst e
  have stat : ∀ {H' : Hp}, (∀ b ∈ fp, H' b = none) → ∀ b ∈ fp, FpOk X pins H' b := fun hn b hb => ⟨hn b hb, (f2 b hb).2⟩
  refine codeAny_forLoop_any (fun n s' => ∃ i σ' H', Inv X pins σ' H' s' ∧ tn i s'.heap ∧ (∀ b ∈ fp, H' b = none) ∧ W i n σ' H') ?_ m0 ⟨0, σ, H2, I2, st2, fun b hb => (f2 b hb).1, w0⟩
  rintro n s3 ⟨i, σ3, H3, I3, st3, fr3, w3⟩
  rcases turn i n σ3 H3 w3 with ⟨stop, qn⟩ | ⟨go, N, hN, step⟩
  · refine wpAny_passesOwn hp (thn (T.done X rfl rfl rfl hc i pins s3 σ3 H3 X.xe I3 (stat fr3) st3 stop) fun r s4 ⟨hr, I4⟩ => ?_)
    subst hr
    exact wpAny_execs_nil ⟨σ3, H3, I4, qn⟩
  · refine wpAny_passesOwn hp (thn (T.item X rfl rfl rfl hc i pins s3 σ3 H3 X.xe I3 (stat fr3) st3 go) fun r s4 ⟨u, hr, h4⟩ => ?_)
    subst hr
    refine wpAny_passesOwn hp (thn h4 fun _ s5 ⟨x, H5, I5, r5, y5, st5, fr5⟩ => ?_)
    have I5' := I5.pinned (stat fr5) (T.obj _ _ st5)
    refine wpAny_passesOwn hp (thn (hg _ s5 σ3 H5 x u _ I5' r5 (step x H5 y5)) fun _ s6 ⟨σ6, H6, I6, q6⟩ => ?_)
    refine wpAny_passesOwn hp (thn (hb _ s6 σ6 H6 _ I6 q6) fun f s7 q7 => ?_)
    have again : ∀ {σ7 : St} {H7 : Hp}, Inv X (pins ++ pinsAt fp s5.heap) σ7 H7 s7 → N σ7 H7 → ∃ m, m < n ∧ ∃ i σ' H', Inv X pins σ' H' s7 ∧ tn i s7.heap ∧ (∀ b ∈ fp, H' b = none) ∧ W i m σ' H' := fun {σ7 H7} I7 n7 => by
      obtain ⟨m', hm, w7⟩ := hN σ7 H7 n7
      refine ⟨m', hm, i + 1, σ7, H7, I7.unpinned, T.keep _ _ _ st5 fun b hb o e => (I7.pin (b, o) (List.mem_append_right _ (List.mem_append_right _ (mem_pinsAt hb e)))).1, fun b hb => ?_, w7⟩
      obtain ⟨o, e, d⟩ := T.obj _ _ st5 b hb
      exact (I7.pin (b, o) (List.mem_append_right _ (List.mem_append_right _ (mem_pinsAt hb e)))).2.1
    cases f with
    | next => obtain ⟨σ7, H7, I7, n7⟩ := q7; exact again I7 n7
    | cont => obtain ⟨σ7, H7, I7, n7⟩ := q7; exact again I7 n7
    | brk => obtain ⟨σ7, H7, I7, q7⟩ := q7; exact ⟨σ7, H7, I7.unpinned, q7⟩
    | ret v => obtain ⟨x7, σ7, H7, I7, r7, q7⟩ := q7; exact ⟨x7, σ7, H7, I7.unpinned, r7, q7⟩
end
theorem for_list {K : Frag} {a : Addr} {xs : List V} {g : TG} {tb : TS} {D : Ends} {σ : St} {H : Hp} (Pv : Nat → St → Hp → Prop) (h0 : Pv 0 σ H) (hl : ∀ i σ H, i ≤ xs.length → Pv i σ H → SqL K H a xs)
    (hs : ∀ i x σ H, xs[i]? = some x → Pv i σ H → g x σ H fun σ2 H2 => tb { D with nx := Pv (i + 1), ct := Pv (i + 1), bk := D.nx } σ2 H2) (hd : ∀ σ H, Pv xs.length σ H → D.nx σ H) :
    ∃ W : Nat → Nat → St → Hp → Prop, (∃ m, W 0 m σ H) ∧ ∀ i m σ H, W i m σ H →
      ((Itl K a).stop i H ∧ D.nx σ H) ∨ ((Itl K a).go i H ∧ ∃ N : St → Hp → Prop, (∀ σ' H', N σ' H' → ∃ m', m' < m ∧ W (i + 1) m' σ' H') ∧ ∀ x H', (Itl K a).yld i H x H' → g x σ H' fun σ2 H2 => tb { D with nx := N, ct := N, bk := D.nx } σ2 H2) := by
  refine ⟨fun i m σ H => m = xs.length - i ∧ i ≤ xs.length ∧ Pv i σ H, ⟨xs.length, by simp, Nat.zero_le _, h0⟩, ?_⟩
  rintro i m σ H ⟨rfl, hi, p⟩
  have q := hl i σ H hi p
  by_cases hlt : i < xs.length
  · refine .inr ⟨⟨xs, xs[i], q, by simp [hlt]⟩, Pv (i + 1), fun σ' H' p' => ⟨xs.length - (i + 1), by omega, rfl, hlt, p'⟩, fun x H' y => ?_⟩
    obtain ⟨e, y⟩ := y
    subst e
    exact hs i x σ _ (y xs q) p
  · have e : i = xs.length := by omega
    subst e
    exact .inl ⟨⟨xs, q, Nat.le_refl _⟩, hd σ H p⟩
theorem for_range {lo : Int} {n : Nat} {g : TG} {tb : TS} {D : Ends} {σ : St} {H : Hp} (Pv : Nat → St → Hp → Prop) (h0 : Pv 0 σ H)
    (hs : ∀ i σ H, i < n → Pv i σ H → g (.int (lo + i)) σ H fun σ2 H2 => tb { D with nx := Pv (i + 1), ct := Pv (i + 1), bk := D.nx } σ2 H2) (hd : ∀ σ H, Pv n σ H → D.nx σ H) :
    ∃ W : Nat → Nat → St → Hp → Prop, (∃ m, W 0 m σ H) ∧ ∀ i m σ H, W i m σ H →
      ((Itr lo n).stop i H ∧ D.nx σ H) ∨ ((Itr lo n).go i H ∧ ∃ N : St → Hp → Prop, (∀ σ' H', N σ' H' → ∃ m', m' < m ∧ W (i + 1) m' σ' H') ∧ ∀ x H', (Itr lo n).yld i H x H' → g x σ H' fun σ2 H2 => tb { D with nx := N, ct := N, bk := D.nx } σ2 H2) := by
  refine ⟨fun i m σ H => m = n - i ∧ i ≤ n ∧ Pv i σ H, ⟨n, by simp, Nat.zero_le _, h0⟩, ?_⟩
  rintro i m σ H ⟨rfl, hi, p⟩
  by_cases hlt : i < n
  · refine .inr ⟨hlt, Pv (i + 1), fun σ' H' p' => ⟨n - (i + 1), by omega, rfl, hlt, p'⟩, fun x H' y => ?_⟩
    obtain ⟨e, y⟩ := y
    subst e y
    exact hs i σ _ hlt p
  · have e : i = n := by omega
    subst e
    exact .inl ⟨Nat.le_refl _, hd σ H p⟩
theorem while_by {c : TT} {tb : TS} {D : Ends} {σ : St} {H : Hp} (Pv : St → Hp → Prop) (μ : St → Hp → Nat) (h0 : Pv σ H)
    (hs : ∀ σ H, Pv σ H → c σ H fun b H1 => if b = true then tb { D with nx := fun σ' H' => Pv σ' H' ∧ μ σ' H' < μ σ H, ct := fun σ' H' => Pv σ' H' ∧ μ σ' H' < μ σ H, bk := D.nx } σ H1 else D.nx σ H1)
    (mono : ∀ σ H Q Q', (∀ b H1, Q b H1 → Q' b H1) → c σ H Q → c σ H Q') : tWhile c tb D σ H := by
  refine ⟨fun m σ H => m = μ σ H ∧ Pv σ H, ⟨_, rfl, h0⟩, ?_⟩
  rintro m σ H ⟨rfl, p⟩
  refine mono σ H _ _ (fun b H1 q => ?_) (hs σ H p)
  cases b with
  | true => exact ⟨_, fun σ' H' ⟨p', l⟩ => ⟨_, l, rfl, p'⟩, q⟩
  | false => exact q
end L2
namespace L2
open PySem PySem.Spec PyProof.Rows
abbrev R2 := V → V → Hp → VK → Prop
def OpR (X : Cx) (f : Value → Value → Sem Value) (r : R2) : Prop :=
  ∀ (pins : List (Addr × Obj)) (s : Shared) (σ : St) (H : Hp) (x y : V) (v u : Value) (Q : VK), Inv X pins σ H s → RelV x v → RelV y u → r x y H Q →
    wpAny (model X.prog X.w) X.A (f v u) (EP X pins σ Q) X.xe s
def CallR (X : Cx) (f : Value) (r : List V → Hp → VK → Prop) : Prop :=
  ∀ (pins : List (Addr × Obj)) (s : Shared) (σ : St) (H : Hp) (xs : List V) (us : List Value) (Q : VK), Inv X pins σ H s → Vals xs us → r xs H Q →
    wpAny (model X.prog X.w) X.A (call f us) (EP X pins σ Q) X.xe s
def tOp (r : R2) (ta tb : TE) : TE := fun σ H Q => ta σ H fun x H1 => tb σ H1 fun y H2 => r x y H2 Q
def rI0 (g : Int → Int → V) : R2 := fun x y H Q => ∃ i j, x = .int i ∧ y = .int j ∧ Q (g i j) H
section
variable {X : Cx} {a b c : Expr} {ta tb tc : TE} {pos : Pos}
theorem binT (ha : PE X a ta) (hb : PE X b tb) {pins : List (Addr × Obj)} {s : Shared} {σ : St} {H : Hp} {R : V → V → Hp → Prop} (I : Inv X pins σ H s)
    (h : ta σ H fun x H1 => tb σ H1 fun y H2 => R x y H2) {Q : Value → Shared → Prop} {f : Value → Value → Sem Value}
    (hf : ∀ v u s2 x y H2, Inv X pins σ H2 s2 → RelV x v → RelV y u → R x y H2 → wpAny (model X.prog X.w) X.A (f v u) Q X.xe s2) :
    wpAny (model X.prog X.w) X.A (eval a X.env) (fun v s₁ => wpAny (model X.prog X.w) X.A (eval b X.env) (fun u s₂ => wpAny (model X.prog X.w) X.A (f v u) Q X.xe s₂) X.xe s₁) X.xe s := by
  refine thn (ha pins s σ H _ I h) fun v s1 ⟨x, H1, I1, r1, q1⟩ => ?_
  refine thn (hb pins s1 σ H1 _ I1 q1) fun u s2 ⟨y, H2, I2, r2, q2⟩ => ?_
  exact hf v u s2 x y H2 I2 r1 r2 q2
theorem pe_op {op : Operator} {r : R2} (ho : OpR X (binaryOp op) r) (ha : PE X a ta) (hb : PE X b tb) : PE X (.BinOp a op b pos) (tOp r ta tb) := by
  intro pins s σ H Q I h
  exact wpAny_BinOp (binT ha hb I h fun v u s2 x y H2 I2 rx ry q => ho pins s2 σ H2 x y v u Q I2 rx ry q)
theorem opI0 {f : Value → Value → Sem Value} {g : Int → Int → Int}
    (rule : ∀ (i j : Int) (t u : Tok) (s : Shared) (Q : Value → Shared → Prop) (E : Value → Shared → Prop), Q (.int (g i j) s.toks) { s with toks := s.toks + 1 } → wpAny (model X.prog X.w) X.A (f (.int i t) (.int j u)) Q E s) :
    OpR X f (rI0 fun i j => .int (g i j)) := by
  intro pins s σ H x y v u Q I rx ry h
  obtain ⟨i, j, rfl, rfl, q⟩ := h
  obtain ⟨t, rfl⟩ := rx
  obtain ⟨t', rfl⟩ := ry
  exact rule i j t t' s _ _ ⟨.int (g i j), H, I.tok _, ⟨_, rfl⟩, q⟩
theorem opB0 {f : Value → Value → Sem Value} {g : Int → Int → Bool}
    (rule : ∀ (i j : Int) (t u : Tok) (s : Shared) (Q : Value → Shared → Prop) (E : Value → Shared → Prop), Q (.bool (g i j)) s → wpAny (model X.prog X.w) X.A (f (.int i t) (.int j u)) Q E s) :
    OpR X f (rI0 fun i j => .bl (g i j)) := by
  intro pins s σ H x y v u Q I rx ry h
  obtain ⟨i, j, rfl, rfl, q⟩ := h
  obtain ⟨t, rfl⟩ := rx
  obtain ⟨t', rfl⟩ := ry
  exact rule i j t t' s _ _ ⟨.bl (g i j), H, I, rfl, q⟩
theorem op_add : OpR X (binaryOp .Add) (rI0 fun i j => .int (i + j)) := opI0 fun _ _ _ _ _ _ _ q => add_int q
theorem op_sub : OpR X (binaryOp .Sub) (rI0 fun i j => .int (i - j)) := opI0 fun _ _ _ _ _ _ _ q => sub_int q
end
def scal : V → V → Bool
  | .non, .non => true | .non, .int _ => true | .int _, .non => true | .non, .bl _ => true | .bl _, .non => true | .non, .str _ => true | .str _, .non => true
  | .int _, .int _ => true | .bl _, .bl _ => true | .str _, .str _ => true | .byt _, .byt _ => true
  | .int _, .str _ => true | .str _, .int _ => true | .bl _, .str _ => true | .str _, .bl _ => true
  | _, _ => false
def rEq : R2 := fun x y H Q => scal x y = true ∧ Q (.bl (decide (x = y))) H
def rNe : R2 := fun x y H Q => scal x y = true ∧ Q (.bl (!decide (x = y))) H
theorem dec_int {i j : Int} : decide (V.int i = V.int j) = (i == j) := by
  rw [Bool.eq_iff_iff]
  simp
theorem dec_bl {i j : Bool} : decide (V.bl i = V.bl j) = (i == j) := by
  rw [Bool.eq_iff_iff]
  simp
theorem dec_str {i j : Str} : decide (V.str i = V.str j) = (i == j) := by
  rw [Bool.eq_iff_iff]
  simp
theorem dec_byt {i j : Array UInt8} : decide (V.byt i = V.byt j) = (i.toList == j.toList) := by
  rw [Bool.eq_iff_iff]
  cases i
  cases j
  simp
section
variable {X : Cx} {a b c : Expr} {ta tb tc : TE} {pos : Pos}
theorem fin_bl {pins : List (Addr × Obj)} {σ : St} {H : Hp} {s : Shared} {Q : VK} {k k' : Bool} (I : Inv X pins σ H s) (q : Q (.bl k) H) (e : k = k') : EP X pins σ Q (.bool k') s := by
  subst e
  exact ⟨.bl k, H, I, rfl, q⟩
theorem op_eq : OpR X (compareOp .Eq) rEq := by
  intro pins s σ H x y v u Q I rx ry h
  obtain ⟨hs, q⟩ := h
  cases x with
  | non =>
    cases rx
    cases y with
    | non => cases ry; exact PySem.EqNone.eq_none_none (fin_bl I q (by simp))
    | bl j => cases ry; exact PySem.EqNone.eq_none_bool (fin_bl I q (by simp))
    | int j => obtain ⟨t', rfl⟩ := ry; exact PySem.EqNone.eq_none_int (fin_bl I q (by simp))
    | str j => obtain ⟨t', rfl⟩ := ry; exact PySem.EqNone.eq_none_str (fin_bl I q (by simp))
    | _ => exact absurd (show false = true from hs) Bool.false_ne_true
  | bl i =>
    cases rx
    cases y with
    | non => cases ry; exact PySem.EqNone.eq_bool_none (fin_bl I q (by simp))
    | bl j => cases ry; exact eq_bool (fin_bl I q dec_bl)
    | str j => obtain ⟨t', rfl⟩ := ry; exact PySem.EqMixed.eq_bool_str (fin_bl I q (by simp))
    | _ => exact absurd (show false = true from hs) Bool.false_ne_true
  | int i =>
    obtain ⟨t, rfl⟩ := rx
    cases y with
    | non => cases ry; exact PySem.EqNone.eq_int_none (fin_bl I q (by simp))
    | int j => obtain ⟨t', rfl⟩ := ry; exact eq_int (fin_bl I q dec_int)
    | str j => obtain ⟨t', rfl⟩ := ry; exact PySem.EqMixed.eq_int_str (fin_bl I q (by simp))
    | _ => exact absurd (show false = true from hs) Bool.false_ne_true
  | str i =>
    obtain ⟨t, rfl⟩ := rx
    cases y with
    | non => cases ry; exact PySem.EqNone.eq_str_none (fin_bl I q (by simp))
    | bl j => cases ry; exact PySem.EqMixed.eq_str_bool (fin_bl I q (by simp))
    | int j => obtain ⟨t', rfl⟩ := ry; exact PySem.EqMixed.eq_str_int (fin_bl I q (by simp))
    | str j => obtain ⟨t', rfl⟩ := ry; exact eq_str (fin_bl I q dec_str)
    | _ => exact absurd (show false = true from hs) Bool.false_ne_true
  | byt i =>
    obtain ⟨t, rfl⟩ := rx
    cases y with
    | byt j => obtain ⟨t', rfl⟩ := ry; exact PySem.W.eq_bytes (fin_bl I q dec_byt)
    | _ => exact absurd (show false = true from hs) Bool.false_ne_true
  | _ => cases y <;> exact absurd (show false = true from hs) Bool.false_ne_true
theorem op_ne : OpR X (compareOp .NotEq) rNe := by
  intro pins s σ H x y v u Q I rx ry h
  obtain ⟨hs, q⟩ := h
  cases x with
  | non =>
    cases rx
    cases y with
    | non => cases ry; exact PySem.EqNone.ne_none_none (fin_bl I q (by simp))
    | bl j => cases ry; exact PySem.EqNone.ne_none_bool (fin_bl I q (by simp))
    | int j => obtain ⟨t', rfl⟩ := ry; exact PySem.EqNone.ne_none_int (fin_bl I q (by simp))
    | str j => obtain ⟨t', rfl⟩ := ry; exact PySem.EqNone.ne_none_str (fin_bl I q (by simp))
    | _ => exact absurd (show false = true from hs) Bool.false_ne_true
  | bl i =>
    cases rx
    cases y with
    | non => cases ry; exact PySem.EqNone.ne_bool_none (fin_bl I q (by simp))
    | bl j => cases ry; exact ne_bool (fin_bl I q (congrArg not dec_bl))
    | str j => obtain ⟨t', rfl⟩ := ry; exact PySem.EqMixed.ne_bool_str (fin_bl I q (by simp))
    | _ => exact absurd (show false = true from hs) Bool.false_ne_true
  | int i =>
    obtain ⟨t, rfl⟩ := rx
    cases y with
    | non => cases ry; exact PySem.EqNone.ne_int_none (fin_bl I q (by simp))
    | int j => obtain ⟨t', rfl⟩ := ry; exact ne_int (fin_bl I q (congrArg not dec_int))
    | str j => obtain ⟨t', rfl⟩ := ry; exact PySem.EqMixed.ne_int_str (fin_bl I q (by simp))
    | _ => exact absurd (show false = true from hs) Bool.false_ne_true
  | str i =>
    obtain ⟨t, rfl⟩ := rx
    cases y with
    | non => cases ry; exact PySem.EqNone.ne_str_none (fin_bl I q (by simp))
    | bl j => cases ry; exact PySem.EqMixed.ne_str_bool (fin_bl I q (by simp))
    | int j => obtain ⟨t', rfl⟩ := ry; exact PySem.EqMixed.ne_str_int (fin_bl I q (by simp))
    | str j => obtain ⟨t', rfl⟩ := ry; exact ne_str (fin_bl I q (congrArg not dec_str))
    | _ => exact absurd (show false = true from hs) Bool.false_ne_true
  | byt i =>
    obtain ⟨t, rfl⟩ := rx
    cases y with
    | byt j => obtain ⟨t', rfl⟩ := ry; exact PySem.W.ne_bytes (fin_bl I q (congrArg not dec_byt))
    | _ => exact absurd (show false = true from hs) Bool.false_ne_true
  | _ => cases y <;> exact absurd (show false = true from hs) Bool.false_ne_true
theorem op_lt : OpR X (compareOp .Lt) (rI0 fun i j => .bl (decide (i < j))) := opB0 fun _ _ _ _ _ _ _ q => lt_int q
theorem op_le : OpR X (compareOp .LtE) (rI0 fun i j => .bl (decide (i ≤ j))) := opB0 fun _ _ _ _ _ _ _ q => le_int q
theorem op_gt : OpR X (compareOp .Gt) (rI0 fun i j => .bl (decide (j < i))) := opB0 fun _ _ _ _ _ _ _ q => gt_int q
theorem op_ge : OpR X (compareOp .GtE) (rI0 fun i j => .bl (decide (j ≤ i))) := opB0 fun _ _ _ _ _ _ _ q => ge_int q
theorem op_isN : OpR X (compareOp .Is) (fun x y H Q => y = .non ∧ Q (.bl (decide (x = .non))) H) := by
  intro pins s σ H x y v u Q I rx ry h
  obtain ⟨rfl, q⟩ := h
  cases ry
  refine is_none_gen (fin_bl I q ?_)
  cases x <;> first
    | (cases rx; rfl)
    | (obtain ⟨t, rfl⟩ := rx; rfl)
theorem nomark (b : Expr) {op : CmpOp} (h : op ≠ .In := by decide) (h2 : op ≠ .NotIn := by decide) : behindInMarks op b = false := by
  have e1 : (op == CmpOp.In) = false := by cases op <;> first | rfl | exact absurd rfl h
  have e2 : (op == CmpOp.NotIn) = false := by cases op <;> first | rfl | exact absurd rfl h2
  cases b <;> simp [behindInMarks, e1, e2]
theorem pe_cmpR {op : CmpOp} {r : R2} (ho : OpR X (compareOp op) r) (ha : PE X a ta) (hb : PE X b tb) (hm : behindInMarks op b = false) : PE X (.Compare a [op] [b] pos) (tOp r ta tb) := by
  intro pins s σ H Q I h
  exact wpAny_Compare1 (binT ha hb I h fun v u s2 x y H2 I2 rx ry q => ho pins s2 σ H2 x y v u Q I2 rx ry q) hm
def tTest (t : TE) : TT := fun σ H Q => t σ H fun x H' => ∃ k, x = .bl k ∧ Q k H'
theorem pt_cmpR {op : CmpOp} {r : R2} (ho : OpR X (compareOp op) r) (ha : PE X a ta) (hb : PE X b tb) (hm : behindInMarks op b = false) : PT X (.Compare a [op] [b] pos) (tTest (tOp r ta tb)) := by
  intro pins s σ H Q I h
  refine wpAny_isTrue_Compare1 (thn (ha pins s σ H _ I h) fun v s1 ⟨x, H1, I1, r1, q1⟩ => thn (hb pins s1 σ H1 _ I1 q1) fun u s2 ⟨y, H2, I2, r2, q2⟩ =>
    thn (ho pins s2 σ H2 x y v u _ I2 r1 r2 q2) fun c s3 ⟨z, H3, I3, r3, k, e, q3⟩ => ?_) hm
  subst e
  cases r3
  exact wpAny_truthy_bool ⟨H3, I3, q3⟩
def tChain (r r' : R2) (ta tb tc : TE) : TE := fun σ H Q => ta σ H fun x H1 => tb σ H1 fun y H2 => r x y H2 fun z H3 => ∃ k, z = .bl k ∧
  (if k = true then tc σ H3 fun w' H4 => r' y w' H4 Q else Q (.bl false) H3)
theorem pe_chain {op op' : CmpOp} {r r' : R2} (ho : OpR X (compareOp op) r) (ho' : OpR X (compareOp op') r') (ha : PE X a ta) (hb : PE X b tb) (hc : PE X c tc)
    (hm : lastMarks [op, op'] [b, c] = false := by with_unfolding_all rfl) : PE X (.Compare a [op, op'] [b, c] pos) (tChain r r' ta tb tc) := by
  intro pins s σ H Q I h
  refine Compare_chain (thn (ha pins s σ H _ I h) fun v s1 ⟨x, H1, I1, r1, q1⟩ => chain_link (thn (hb pins s1 σ H1 _ I1 q1) fun u s2 ⟨y, H2, I2, r2, q2⟩ =>
    thn (ho pins s2 σ H2 x y v u _ I2 r1 r2 q2) fun d s3 ⟨z, H3, I3, r3, k, e, q3⟩ => ?_)) hm
  subst e
  cases r3
  refine wpAny_truthy_bool ?_
  cases k with
  | false => exact ite_ff ⟨.bl false, H3, I3, rfl, q3⟩
  | true => exact ite_tt (chain_last (thn (hc pins s3 σ H3 _ I3 q3) fun w' s4 ⟨z', H4, I4, r4, q4⟩ => ho' pins s4 σ H4 y z' u w' Q I4 r2 r4 q4))
theorem pt_chain {op op' : CmpOp} {r r' : R2} (ho : OpR X (compareOp op) r) (ho' : OpR X (compareOp op') r') (ha : PE X a ta) (hb : PE X b tb) (hc : PE X c tc)
    (hm : lastMarks [op, op'] [b, c] = false := by with_unfolding_all rfl) : PT X (.Compare a [op, op'] [b, c] pos) (tTest (tChain r r' ta tb tc)) := by
  intro pins s σ H Q I h
  refine isTrue_chain (thn (ha pins s σ H _ I h) fun v s1 ⟨x, H1, I1, r1, q1⟩ => test_link (thn (hb pins s1 σ H1 _ I1 q1) fun u s2 ⟨y, H2, I2, r2, q2⟩ =>
    thn (ho pins s2 σ H2 x y v u _ I2 r1 r2 q2) fun d s3 ⟨z, H3, I3, r3, k, e, q3⟩ => ?_)) hm
  subst e
  cases r3
  refine wpAny_truthy_bool ?_
  cases k with
  | false =>
    obtain ⟨k', e', q'⟩ := q3
    cases e'
    exact ite_ff ⟨H3, I3, q'⟩
  | true =>
    refine ite_tt (test_last (thn (hc pins s3 σ H3 _ I3 q3) fun w' s4 ⟨z', H4, I4, r4, q4⟩ => thn (ho' pins s4 σ H4 y z' u w' _ I4 r2 r4 q4) fun d' s5 ⟨z2, H5, I5, r5, k2, e2, q5⟩ => ?_))
    subst e2
    cases r5
    exact wpAny_truthy_bool ⟨H5, I5, q5⟩
theorem line63 : (sizeLine : Nat) < 2 ^ 63 := by rw [sizeLine_eq]; decide
theorem vals1 {x : V} {us : List Value} (r : Vals [x] us) : ∃ u, us = [u] ∧ RelV x u := by
  cases r with
  | cons r1 r2 => cases r2; exact ⟨_, rfl, r1⟩
end
end L2
namespace L2
open PySem PySem.Spec PyProof.Rows
structure ObjM (h : Heap) (x dx C : Addr) (mA : Str → Option Value) : Prop where
  obj : h.get? x = some (PySem.W.instObj C dx)
  ns : h.Ns1 dx mA
  ne : dx ≠ x
theorem lookIn_ns {h : Heap} {dx : Addr} {mA : Str → Option Value} (n : h.Ns1 dx mA) : ∃ od, h.get? dx = some od ∧ ∀ name, PySem.W.lookIn name od = some (mA name) := by
  obtain ⟨o, es, ep, ho, hd, hk, _, hm⟩ := n
  refine ⟨o, ho, fun name => ?_⟩
  have e := hm name
  unfold nsFind findBy at e
  rw [← Array.find?_toList] at e
  unfold PySem.W.lookIn
  rw [hd]
  dsimp only
  split
  · rename_i y q
    rw [q] at e
    exact congrArg some e
  · rename_i q
    rw [q] at e
    have a : es.toList.any (·.refKey) = false := by
      rw [List.any_eq_false]
      intro y hy
      obtain ⟨z, t, hkey⟩ := hk y (Array.mem_toList_iff.mp hy)
      simp [DictEntry.refKey, hkey]
    have a' : ¬ es.toList.any (·.refKey) = true := by rw [a]; exact Bool.false_ne_true
    rw [if_neg a']
    exact congrArg some e
theorem ObjM.look {h : Heap} {x dx C : Addr} {mA : Str → Option Value} (I : ObjM h x dx C mA) : ∃ od, PySem.W.InstAt h x (PySem.W.instObj C dx) C (some od) ∧ ∀ name, PySem.W.lookIn name od = some (mA name) :=
  let ⟨od, ho, hl⟩ := lookIn_ns I.ns
  ⟨od, ⟨I.obj, rfl, rfl, ho⟩, hl⟩
section
variable {prog : Program} {w : World} {A : Around} {E : Value → Shared → Prop} {s : Shared} {K : Frag} {x dx C f : Addr} {mA : Str → Option Value} {name : Str} {v : Value}
theorem get_map {expr : Bool} {Q : Value → Shared → Prop} (X : K.In s.heap) (I : ObjM s.heap x dx C mA) (hg : PySem.W.plainGet K C name = true) (hh : PySem.W.hasDictIn K C = true)
    (ha : PySem.W.findIn K (.ref C) name = some none) (hv : mA name = some v) (hv' : PySem.W.handedIn v = true) (h : Q v { s with toks := s.toks + 1 }) :
    wpAny (model prog w) A (getAttr (.ref x) name expr) Q E s := by
  obtain ⟨od, J, hl⟩ := I.look
  exact PySem.W.get_value X J (PySem.W.plainGet_of hg).1 (PySem.W.findObj_own hh ha rfl (by rw [hl, hv])) hv' h
theorem get_meth {pl : Sem Bool} {Q : Value × List Value → Shared → Prop} (X : K.In s.heap) (I : ObjM s.heap x dx C mA) (hg : PySem.W.plainGet K C name = true)
    (hf : PySem.W.findIn K (.ref C) name = some (some (.ref f))) (ht : PySem.W.isFn K (.ref f) = true) (hv : mA name = none) (h : Q (.ref f, [.ref x]) s) :
    wpAny (model prog w) A (getMethod (.ref x) name pl) Q E s := by
  obtain ⟨od, J, hl⟩ := I.look
  exact PySem.W.method_fn X J (PySem.W.plainGet_of hg).1 (PySem.W.plainGet_of hg).2 hf (beq_iff_eq.mp ht) (by show (PySem.W.lookIn name od).map (·.isSome) = some false; rw [hl, hv]; rfl) h
theorem set_map {ns : List Str} {Q : Unit → Shared → Prop} (X : K.In s.heap) (I : ObjM s.heap x dx C mA)
    (hs : PySem.W.findIn K (.ref C) "__setattr__" = some (some (.builtin "object.__setattr__"))) (hp : PySem.W.plainOver K C = true) (ht : PySem.W.takerIn K C name = some none) (hh : PySem.W.hasDictIn K C = true)
    (hw : PySem.Within mA ns) (hsz : ns.length ≤ sizeLine)
    (h : ∀ h', ObjM h' x dx C (fun y => if y = name then some v else mA y) → Heap.SameBut dx s.heap h' → Q () { s with heap := h', toks := s.toks + 2 }) :
    wpAny (model prog w) A (setAttr (.ref x) name v) Q E s := by
  obtain ⟨od, J, hl⟩ := I.look
  refine PySem.W.set_plain X J hs (PySem.W.osa_open (s := { s with toks := s.toks + 1 }) (r := none) X J hp ht fun b => ?_)
  obtain ⟨cd, hc, hd'⟩ := PySem.W.any_some hh
  have hx : s.heap.get? x = some ⟨.ref C, some dx, .plain, #[]⟩ := I.obj
  refine wpAny_bind (wpAny_pure (wpAny_bind (wpAny_bind (wpAny_loadPart hx (wpAny_bind (PySem.W.Looks.here (s := { s with toks := s.toks + 1 }) (PySem.W.looks_clsIn X hc) ?_))))))
  rw [hd']
  refine wpAny_pure (a := some dx) (wpAny_bind (wpAny_pure (wpAny_bind ?_)))
  refine wpAny_nsSet1 (s := { s with toks := s.toks + 1 }) I.ns fun h' hn2 hs2 => ?_
  obtain ⟨oD, esD, epD, hoD, hdD, hcD⟩ := hn2.count (PySem.Within.cons name v hw)
  refine wpAny_bind (wpAny_lookBehind hoD (by rw [hdD]; exact pastItsLine_dict (Nat.le_trans hcD (by rw [List.length_cons]; omega))) ?_)
  exact wpAny_pure (h _ ⟨(hs2.2 _ (Ne.symm I.ne)).trans I.obj, hn2, I.ne⟩ hs2)
theorem make_map {R : Result → Shared → Prop} {vs : List Value} {kw : List (Str × Value)} (X : K.In s.heap) (hm : PySem.W.makesIn K C = true)
    (hi : PySem.W.findIn K (.ref C) "__init__" = some (some (.ref f))) (hf : PySem.W.typeIn K (.ref f) = some (.type "function"))
    (h : codeAny (model prog w) (A.under (.builtin "type.__call__" ⟨.ref C :: vs, kw⟩)) (.call (.ref f) ⟨.ref (s.heap.objs.size + 1) :: vs, kw⟩) (PySem.W.InitBack (s.heap.objs.size + 1) R)
      { s with heap := (s.heap.push PySem.W.emptyDict).push (PySem.W.instObj C s.heap.objs.size) }) :
    codeAny (model prog w) A (.call (.ref C) ⟨vs, kw⟩) R s := by
  obtain ⟨hh, g, d, t, os⟩ := s
  exact PySem.W.make_core (PySem.W.makes_of X hm) (PySem.W.looks_findIn X hi) (fun self => PySem.W.bind_fn X self hf) (.inl rfl) h
end
def putF (f : Str) (v : V) : List (Str × V) → List (Str × V)
  | [] => [(f, v)]
  | (g, x) :: r => if g = f then (g, v) :: r else (g, x) :: putF f v r
theorem lookup_putF (f g : Str) (v : V) : ∀ fs : List (Str × V), (putF f v fs).lookup g = if g = f then some v else fs.lookup g
  | [] => by
    show List.lookup g [(f, v)] = _
    by_cases h : g = f
    · have hb : (g == f) = true := beq_iff_eq.mpr h
      simp only [List.lookup, hb, if_pos h]
    · have hb : (g == f) = false := beq_eq_false_iff_ne.mpr h
      simp only [List.lookup, hb, if_neg h]
  | (k, x) :: r => by
    have ih := lookup_putF f g v r
    rw [show putF f v ((k, x) :: r) = (if k = f then (k, v) :: r else (k, x) :: putF f v r) from rfl]
    by_cases hk : k = f
    · rw [if_pos hk]
      by_cases h : g = k
      · have hb : (g == k) = true := beq_iff_eq.mpr h
        simp only [List.lookup, hb, if_pos (h.trans hk)]
      · have hb : (g == k) = false := beq_eq_false_iff_ne.mpr h
        simp only [List.lookup, hb, if_neg (fun e : g = f => h (e.trans hk.symm))]
    · rw [if_neg hk]
      by_cases h : g = k
      · have hb : (g == k) = true := beq_iff_eq.mpr h
        simp only [List.lookup, hb, if_neg (fun e : g = f => hk (h.symm.trans e))]
      · have hb : (g == k) = false := beq_eq_false_iff_ne.mpr h
        simp only [List.lookup, hb]
        exact ih
theorem keys_putF (f : Str) (v : V) : ∀ fs : List (Str × V), f ∈ (putF f v fs).map (·.1) ∧ ∀ g, g ∈ fs.map (·.1) → g ∈ (putF f v fs).map (·.1)
  | [] => ⟨by simp [putF], fun g h => by simp at h⟩
  | (k, x) :: r => by
    obtain ⟨i1, i2⟩ := keys_putF f v r
    rw [show putF f v ((k, x) :: r) = (if k = f then (k, v) :: r else (k, x) :: putF f v r) from rfl]
    by_cases hk : k = f
    · rw [if_pos hk]
      subst hk
      exact ⟨by simp, fun g h => by simpa using h⟩
    · rw [if_neg hk]
      refine ⟨?_, fun g h => ?_⟩
      · rw [List.map_cons]
        exact List.mem_cons_of_mem _ i1
      · rw [List.map_cons] at h ⊢
        rcases List.mem_cons.mp h with e | e
        · exact List.mem_cons.mpr (.inl e)
        · exact List.mem_cons_of_mem _ (i2 g e)
theorem length_putF (f : Str) (v : V) : ∀ fs : List (Str × V), (putF f v fs).length ≤ fs.length + 1
  | [] => by simp [putF]
  | (k, x) :: r => by
    have ih := length_putF f v r
    rw [show putF f v ((k, x) :: r) = (if k = f then (k, v) :: r else (k, x) :: putF f v r) from rfl]
    by_cases hk : k = f
    · rw [if_pos hk, List.length_cons, List.length_cons]; omega
    · rw [if_neg hk, List.length_cons, List.length_cons]; omega
theorem RelO.some_of {v : V} {o : Option Value} (r : RelO (some v) o) : ∃ u, o = some u ∧ RelV v u := by
  cases o with
  | none => exact (show False from r).elim
  | some u => exact ⟨u, rfl, r⟩
theorem RelO.none_of {o : Option Value} (r : RelO none o) : o = none := by
  cases o with
  | none => rfl
  | some u => exact (show False from r).elim
theorem handed_of {v : V} {u : Value} (r : RelV v u) : PySem.W.handedIn u = true := by
  cases v with
  | non => cases (show u = Value.none from r); rfl
  | bl b => cases (show u = Value.bool b from r); rfl
  | int i => obtain ⟨t, e⟩ := (show ∃ t, u = Value.int i t from r); cases e; rfl
  | str x => obtain ⟨t, e⟩ := (show ∃ t, u = Value.str x t from r); cases e; rfl
  | byt b => obtain ⟨t, e⟩ := (show ∃ t, u = Value.bytes b t from r); cases e; rfl
  | flt b => obtain ⟨t, e⟩ := (show ∃ t, u = Value.float b t from r); cases e; rfl
  | ref a => cases (show u = Value.ref a from r); rfl
  | ty n => cases (show u = Value.type n from r); rfl
section
variable {P : Program} {w : World} {H H' : Hp} {h h' : Heap} {a C dx : Addr} {fs fs' : List (Str × V)}
theorem ins_get (hok : HOk P w H h) (e : H a = some (.ins C dx fs)) : ∃ mA, ObjM h a dx C mA ∧ (∀ f, RelO (fs.lookup f) (mA f)) ∧ PySem.Within mA (fs.map (·.1)) ∧ fs.length ≤ 1000 ∧ H dx = some (.own a) := by
  obtain ⟨d, z, ne, ob, mA, n, r, q⟩ := (show ObjOk P w H h a (.ins C dx fs) from hok a _ e)
  exact ⟨mA, ⟨ob, n, ne⟩, r, q, z, d⟩
end
structure Cls (K : Frag) (C : Addr) : Prop where
  pg : PySem.W.plainGet K C Str.empty = true
  hd : PySem.W.hasDictIn K C = true
  po : PySem.W.plainOver K C = true
  sa : PySem.W.findIn K (.ref C) "__setattr__" = some (some (.builtin "object.__setattr__"))
theorem Cls.get {K : Frag} {C : Addr} (c : Cls K C) (f : Str) : PySem.W.plainGet K C f = true := c.pg
def NoAttr (K : Frag) (C : Addr) (f : Str) : Prop := PySem.W.findIn K (.ref C) f = some none
theorem NoAttr.taker {K : Frag} {C : Addr} {f : Str} (n : NoAttr K C f) : PySem.W.takerIn K C f = some none := by
  unfold PySem.W.takerIn
  rw [show PySem.W.findIn K (.ref C) f = some none from n]
  rfl
structure Meth (K : Frag) (C : Addr) (m : Str) (f : Addr) : Prop where
  at_ : PySem.W.findIn K (.ref C) m = some (some (.ref f))
  fn : PySem.W.isFn K (.ref f) = true
  kp : PySem.W.keepIn K (.ref f) = true
section
variable {X : Cx} {pins : List (Addr × Obj)} {σ : St} {H : Hp} {s : Shared} {a C dx : Addr} {fs : List (Str × V)} {f : Str} {v : V} {A : Around} {E : Value → Shared → Prop}
theorem getattr_ok {b : Bool} {Q : Value → Shared → Prop} (I : Inv X pins σ H s) (e : H a = some (.ins C dx fs)) (c : Cls X.K C) (n : NoAttr X.K C f) (l : fs.lookup f = some v)
    (h : ∀ u s', Inv X pins σ H s' → RelV v u → Q u s') : wpAny (model X.prog X.w) A (getAttr (.ref a) f b) Q E s := by
  obtain ⟨mA, O, r, _, _, _⟩ := ins_get I.hok e
  obtain ⟨u, hu, ru⟩ := RelO.some_of (v := v) (o := mA f) (by rw [← l]; exact r f)
  exact get_map I.kIn O (c.get f) c.hd n hu (handed_of ru) (h u _ (I.tok _) ru)
theorem getmeth_ok {m : Str} {g : Addr} {pl : Sem Bool} {Q : Value × List Value → Shared → Prop} (I : Inv X pins σ H s) (e : H a = some (.ins C dx fs)) (c : Cls X.K C) (k : Meth X.K C m g) (l : fs.lookup m = none)
    (h : Q (.ref g, [.ref a]) s) : wpAny (model X.prog X.w) A (getMethod (.ref a) m pl) Q E s := by
  obtain ⟨mA, O, r, _, _, _⟩ := ins_get I.hok e
  have hn : mA m = none := RelO.none_of (by rw [← l]; exact r m)
  exact get_meth I.kIn O (c.get m) k.at_ k.fn hn h
theorem setattr_ok {y : V} {u : Value} {Q : Unit → Shared → Prop} (I : Inv X pins σ H s) (e : H a = some (.ins C dx fs)) (c : Cls X.K C) (n : NoAttr X.K C f) (hl : fs.length < 1000) (ry : RelV y u)
    (h : ∀ s', Inv X pins σ (upd H a (.ins C dx (putF f y fs))) s' → Q () s') : wpAny (model X.prog X.w) A (setAttr (.ref a) f u) Q E s := by
  obtain ⟨mA, O, r, wi, _, ho⟩ := ins_get I.hok e
  have hz : (fs.map (·.1)).length ≤ sizeLine := by rw [List.length_map, sizeLine_eq]; omega
  refine set_map I.kIn O c.sa c.po n.taker c.hd wi hz fun h' O' sb => h _ ?_
  have hd : ∃ o, h'.get? dx = some o := let ⟨o, _, _, e', _⟩ := O'.ns; ⟨o, e'⟩
  refine I.write (x := a) (e := dx) (by rw [e]; exact True.intro) (.inr ho) (fun b q hb z => (sb.2 b hb).trans z) hd ?_
  refine ⟨by rw [upd_ne O.ne]; exact ho, ?_, O.ne, O'.obj, _, O'.ns, fun g => ?_, fun g hg => ?_⟩
  · have := length_putF f y fs; omega
  · show RelO ((putF f y fs).lookup g) (if g = f then some u else mA g)
    rw [lookup_putF]
    by_cases q : g = f
    · rw [if_pos q, if_pos q]; exact ry
    · rw [if_neg q, if_neg q]; exact r g
  · by_cases q : g = f
    · rw [q]; exact (keys_putF f y fs).1
    · refine (keys_putF f y fs).2 g (wi g fun z => hg ?_)
      show (if g = f then some u else mA g) = none
      rw [if_neg q]; exact z
theorem Inv.made (I : Inv X pins σ H s) : Inv X pins σ (upd (upd H s.heap.objs.size (.own (s.heap.objs.size + 1))) (s.heap.objs.size + 1) (.ins C s.heap.objs.size []))
    { s with heap := (s.heap.push PySem.W.emptyDict).push (PySem.W.instObj C s.heap.objs.size) } := by
  have e1 : (s.heap.push PySem.W.emptyDict).get? s.heap.objs.size = some PySem.W.emptyDict := Heap.get?_push_size s.heap rfl
  have e2 : ((s.heap.push PySem.W.emptyDict).push (PySem.W.instObj C s.heap.objs.size)).get? (s.heap.objs.size + 1) = some (PySem.W.instObj C s.heap.objs.size) := by
    have := Heap.get?_push_size (s.heap.push PySem.W.emptyDict) (o := PySem.W.instObj C s.heap.objs.size) rfl
    rwa [Heap.size_push] at this
  have e3 : (s.heap.push PySem.W.emptyDict).Ns s.heap.objs.size (fun _ => none) := ⟨PySem.W.emptyDict, #[], _, e1, rfl, (fun e he => absurd he (by simp)), fun _ => rfl⟩
  have I1 := I.laid (a := s.heap.objs.size) (o := .own (s.heap.objs.size + 1)) (h' := s.heap.push PySem.W.emptyDict) (t' := s.toks) (fun b u q => Heap.get?_push_of_some _ q) (Nat.le_refl _) ⟨_, e1⟩
  refine I1.laid (a := s.heap.objs.size + 1) (o := .ins C s.heap.objs.size []) (t' := s.toks) (fun b u q => Heap.get?_push_of_some _ q) (Nat.le_of_eq (Heap.size_push _ _)) ?_
  have ne : s.heap.objs.size ≠ s.heap.objs.size + 1 := Nat.ne_of_lt (Nat.lt_succ_self _)
  refine ⟨by rw [upd_ne ne, upd_same], Nat.zero_le _, ne, e2, fun _ => none, (Heap.Ns1.of_empty e3).at fun o q => Heap.get?_push_of_some _ q, fun _ => True.intro, fun y hy => absurd rfl hy⟩
theorem attr_of {prog : Program} {w : World} {env : Env} {e : Expr} {f : Str} {pos : Pos} {s : Shared} {Q : Value → Shared → Prop} (hb : attributeBase e f env (eval e env) = eval e env)
    (h : wpAny (model prog w) A (eval e env) (fun o s₁ => wpAny (model prog w) A (getAttr o f true) Q E s₁) E s) : wpAny (model prog w) A (eval (.Attribute e f pos) env) Q E s :=
  Attribute_any_ h (by rw [arm_eval_Attribute, hb])
end
def tFld (K : Frag) (ta : TE) (f : Str) : TE := fun σ H Q => ta σ H fun x H1 => ∃ a C dx fs v, x = .ref a ∧ H1 a = some (.ins C dx fs) ∧ Cls K C ∧ NoAttr K C f ∧ fs.lookup f = some v ∧ Q v H1
def sFld (K : Frag) (ta tv : TE) (f : Str) : TS := fun D σ H => tv σ H fun y H1 => ta σ H1 fun x H2 => ∃ a C dx fs, x = .ref a ∧ H2 a = some (.ins C dx fs) ∧ Cls K C ∧ NoAttr K C f ∧ fs.length < 1000 ∧
  D.nx σ (upd H2 a (.ins C dx (putF f y fs)))
section
variable {X : Cx} {o e value : Expr} {f : Str} {pos pos' tpos : Pos} {ta tv : TE}
theorem pe_fld (he : PE X e ta) (hb : attributeBase e f X.env (eval e X.env) = eval e X.env) : PE X (.Attribute e f pos) (tFld X.K ta f) := by
  intro pins s σ H Q I h
  refine attr_of hb (thn (he pins s σ H _ I h) fun u s1 ⟨x, H1, I1, rx, a, C, dx, fs, v, ex, ea, c, n, l, q⟩ => ?_)
  subst ex
  obtain rfl : u = Value.ref a := rx
  exact getattr_ok I1 ea c n l fun u' s2 I2 ru => ⟨v, H1, I2, ru, q⟩
theorem ps_fld (ha : PE X o ta) (hv : PE X value tv) (hs : swapsWith value (some (.Attribute o f pos')) pos.line X.env = pure false) : PS X (.Assign [.Attribute o f pos'] value pos) (sFld X.K ta tv f) := by
  intro pins s σ H D I h
  refine plainObj_wpAny_Assign_Attribute (thn (hv pins s σ H _ I h) fun u s1 ⟨y, H1, I1, ry, q⟩ => thn (ha pins s1 σ H1 _ I1 q) fun ov s2 ⟨x, H2, I2, rx, a, C, dx, fs, ex, ea, c, n, l, q2⟩ => ?_) hs
  subst ex
  obtain rfl : ov = Value.ref a := rx
  exact setattr_ok I2 ea c n l ry fun s3 I3 => ⟨σ, _, I3, q2⟩
end
section
variable {X : Cx} {pins : List (Addr × Obj)} {σ : St} {H : Hp} {s : Shared} {A : Around} {E : Value → Shared → Prop} {Q : Value → Shared → Prop} {c : Value} {b : Bool}
end
end L2
namespace L2
open PySem PySem.Spec PyProof.Rows
structure Room (k : Nat) (A : Around) : Prop where
  hd : A.handled = none
  dp : A.depth + 3 * k + 5 < recursionLimit
  un : A.units + 16 * k + 200 < cLine
theorem Room.mono {j k : Nat} {A : Around} (r : Room k A) (h : j ≤ k) : Room j A := ⟨r.hd, by have := r.dp; omega, by have := r.un; omega⟩
theorem Room.deeper {k : Nat} {A : Around} (r : Room (k + 1) A) (env : Env) : Room k (A.deeper env) :=
  ⟨r.hd, by have := r.dp; show A.depth + 1 + 3 * k + 5 < _; omega, by have := r.un; show A.units + 3 + 16 * k + 200 < _; omega⟩
theorem make_depth {A : Around} {C : Addr} {us : List Value} {kw : List (Str × Value)} : (A.under (.builtin "type.__call__" ⟨.ref C :: us, kw⟩)).depth = A.depth + 1 := by
  first | rfl | simp [Around.under, Code.weight, Code.isCreation, Code.isGuard, Code.isCaller, Code.frames, Code.isFrame, guardIds]
theorem make_units {A : Around} {C : Addr} {us : List Value} {kw : List (Str × Value)} : (A.under (.builtin "type.__call__" ⟨.ref C :: us, kw⟩)).units = A.units + 1 := by
  first | rfl | simp [Around.under, Code.cUnits, Code.frames, Code.isFrame]
theorem Room.make {k : Nat} {A : Around} (r : Room (k + 1) A) (C : Addr) (us : List Value) (kw : List (Str × Value)) : Room k (A.under (.builtin "type.__call__" ⟨.ref C :: us, kw⟩)) :=
  ⟨r.hd, by have := r.dp; rw [make_depth]; omega, by have := r.un; rw [make_units]; omega⟩
theorem Room.depth {k : Nat} {A : Around} (r : Room k A) : A.depth < recursionLimit := by have := r.dp; omega
theorem Room.units {k : Nat} {A : Around} (r : Room k A) : A.units + 64 < cLine := by have := r.un; omega
def tNil : TA := fun _ H Q => Q [] H
def tCons (ta : TE) (tr : TA) : TA := fun σ H Q => ta σ H fun x H1 => tr σ H1 fun xs H2 => Q (x :: xs) H2
section
variable {X : Cx} {e : Expr} {es : List Expr} {te : TE} {t : TA} {pos : Pos}
theorem pa_nil : PA X [] tNil := fun _ _ _ _ H Q I h => Calls.spliced_nil ⟨[], H, I, .nil, h⟩
theorem pa_cons (ha : PE X e te) (hr : PA X es t) (hs : starEach (e :: es) X.env = (false, eval e X.env) :: starEach es X.env := by rfl) : PA X (e :: es) (tCons te t) := by
  intro pos pins s σ H Q I h
  rw [hs]
  show wpAny _ _ (spliced ((false, eval e X.env) :: backTo pos (starEach es X.env))) _ _ s
  refine Calls.spliced_cons (thn (ha pins s σ H _ I h) fun u s1 ⟨x, H1, I1, r1, q1⟩ => ?_)
  exact thn (hr pos pins s1 σ H1 _ I1 q1) fun us s2 ⟨xs, H2, I2, r2, q2⟩ => ⟨x :: xs, H2, I2, .cons r1 r2, q2⟩
def tTup (t : TA) : TE := fun σ H Q => t σ H fun xs H1 => xs.length ≤ sizeLine ∧ ∀ p, H1 p = none → Q (.ref p) (upd H1 p (.tup xs))
def tLst (t : TA) : TE := fun σ H Q => t σ H fun xs H1 => xs.length ≤ sizeLine ∧ ∀ p, H1 p = none → Q (.ref p) (upd H1 p (.lst xs))
theorem pe_tup {x1} (h : PA X es t) : PE X (.Tuple es x1 pos) (tTup t) := by
  intro pins s σ H Q I hq
  refine wpAny_Tuple_spliced (thn (h pos pins s σ H _ I hq) fun us s1 ⟨xs, H1, I1, r, z, q⟩ => ⟨by rw [← r.length]; exact z, ?_⟩)
  have hf : H1 s1.heap.objs.size = none := I1.hok.fresh (Nat.le_refl _)
  refine ⟨.ref s1.heap.objs.size, upd H1 s1.heap.objs.size (.tup xs), I1.laid (t' := s1.toks) (fun b u e => Heap.get?_push_of_some _ e) (Nat.le_refl _) ?_, rfl, q _ hf⟩
  exact ⟨z, us, r, ⟨_, Heap.get?_push_size _ rfl, rfl, _, rfl⟩⟩
theorem pe_lst (h : PA X es t) : PE X (.List es pos) (tLst t) := by
  intro pins s σ H Q I hq
  refine wpAny_List_spliced (thn (h pos pins s σ H _ I hq) fun us s1 ⟨xs, H1, I1, r, z, q⟩ => ⟨by rw [← r.length]; exact z, ?_⟩)
  have hf : H1 s1.heap.objs.size = none := I1.hok.fresh (Nat.le_refl _)
  refine ⟨.ref s1.heap.objs.size, upd H1 s1.heap.objs.size (.lst xs), I1.laid (t' := s1.toks) (fun b u e => Heap.get?_push_of_some _ e) (Nat.le_refl _) ?_, rfl, q _ hf⟩
  exact ⟨z, us, 0, r, Heap.get?_push_size _ rfl⟩
end
abbrev Sp := List V → Hp → VK → XK → Prop
abbrev CXT := List Env → Hp → Shared → XK → Value → Shared → Prop
structure Env0 (P : Program) (w : World) (K : Frag) (mg : Str → Option Value) (base : Heap) (A : Around) (outer : List Env) (s : Shared) (H : Hp) : Prop where
  frames : A.frames = some outer
  mod : Mod K mg base
  bs : ∀ b o, base.get? b = some o → s.heap.get? b = some o ∧ H b = none
  bsz : base.objs.size ≤ s.heap.objs.size
  funs : s.heap.FunFrames base outer
  frf : ∀ b ∈ frs outer, H b = none
  hok : HOk P w H s.heap
  bare : AllBare s.gens
def CE (outer : List Env) (P : Program) (w : World) (H : Hp) (s : Shared) (Q : VK) (u : Value) (s' : Shared) : Prop :=
  ∃ v H', s'.os = s.os ∧ AllBare s'.gens ∧ Un (frs outer) [] H H' s.heap s'.heap ∧ HOk P w H' s'.heap ∧ RelV v u ∧ Q v H'
def CR (CX : CXT) (outer : List Env) (P : Program) (w : World) (H : Hp) (s : Shared) (Q : VK) (E : XK) (r : Result) (s' : Shared) : Prop :=
  match r with
  | .ok (.ret u) => CE outer P w H s Q u s'
  | .ok _ => False
  | .error e => CX outer H s E e s'
structure FnOk (P : Program) (w : World) (K : Frag) (mg : Str → Option Value) (base : Heap) (CX : CXT) (k : Nat) (f : Addr) (fd : FuncData) (ps : List Str) (sp : Sp) : Prop where
  len : ∀ vs H Q E, sp vs H Q E → vs.length = ps.length
  run : ∀ (A : Around) (outer : List Env) (s : Shared) (H : Hp) (args : Args) (us : List Value) (vs : List V) (Q : VK) (E : XK), Room k A → Env0 P w K mg base A outer s H → BindsTo s fd args (ps.zip us) → Vals vs us → sp vs H Q E →
    codeAny (model P w) A (.call (.ref f) args) (CR CX outer P w H s Q E) s
theorem Env0.make {P : Program} {w : World} {K : Frag} {mg : Str → Option Value} {base : Heap} {A : Around} {outer : List Env} {s : Shared} {H : Hp} (e : Env0 P w K mg base A outer s H) (C : Addr) (us : List Value) (kw : List (Str × Value)) :
    Env0 P w K mg base (A.under (.builtin "type.__call__" ⟨.ref C :: us, kw⟩)) outer s H := ⟨by first | exact e.frames | (simpa [Around.under, Code.envs, Code.isFrame, pushEnvs] using e.frames), e.mod, e.bs, e.bsz, e.funs, e.frf, e.hok, e.bare⟩
section
variable {X : Cx} {pins : List (Addr × Obj)} {σ : St} {H : Hp} {s s' : Shared}
theorem Inv.env0 (I : Inv X pins σ H s) : Env0 X.prog X.w X.K X.mg X.base X.A X.stack s H :=
  ⟨I.ok.frames, I.ok.mod, I.bs, Nat.le_trans I.ok.bsz I.sz, I.stack, I.stkFree, I.hok, I.bare⟩
theorem Inv.after {Q : VK} {u : Value} (I : Inv X pins σ H s) (h : CE X.stack X.prog X.w H s Q u s') : EP X pins σ Q u s' := by
  obtain ⟨v, H', os, bare, un, hok, r, q⟩ := h
  obtain ⟨hh, g, d, t, os'⟩ := s'
  obtain rfl : os' = s.os := os
  exact ⟨v, H', I.call (h' := hh) (g' := g) (d' := d) (t' := t) (ch := []) un hok bare (fun b z => absurd z (by simp)), r, q⟩
end
def tCall (sp : Sp) (dvs : List V) (E : XK) (t : TA) : TE := fun σ H Q => t σ H fun vs H1 => sp (vs ++ dvs) H1 Q E
def tMeth (C : Addr) (m : Str) (sp : Sp) (dvs : List V) (E : XK) (ta : TE) (t : TA) : TE := fun σ H Q => ta σ H fun x H1 => ∃ a dx fs, x = .ref a ∧ H1 a = some (.ins C dx fs) ∧ fs.lookup m = none ∧
  t σ H1 fun vs H2 => sp (x :: (vs ++ dvs)) H2 Q E
def tMake (C : Addr) (sp : Sp) (dvs : List V) (E : XK) (t : TA) : TE := fun σ H Q => t σ H fun vs H1 => ∀ x dx, H1 x = none → H1 dx = none → dx ≠ x →
  sp (.ref x :: (vs ++ dvs)) (upd (upd H1 dx (.own x)) x (.ins C dx [])) (fun v H2 => v = .non ∧ Q (.ref x) H2) E
def Binds (K : Frag) (fd : FuncData) (ps : List Str) (ds : List Value) : Prop :=
  ∀ (s : Shared) (us : List Value), K.In s.heap → (us ++ ds).length = ps.length → BindsTo s fd ⟨us, []⟩ (ps.zip (us ++ ds))
theorem Binds.all {K : Frag} {fd : FuncData} {ps : List Str} (h : ∀ us : List Value, us.length = ps.length → bindArgs fd ⟨us, []⟩ = pure (ps.zip us)) : Binds K fd ps [] := fun s us _ hl => by
  rw [List.append_nil] at hl ⊢
  exact .of_eq (h us hl)
def Passes (CX : CXT) (X : Cx) (E : XK) : Prop := ∀ (pins : List (Addr × Obj)) (σ : St) (H : Hp) (s : Shared) (e : Value) (s' : Shared), Inv X pins σ H s → CX X.stack H s E e s' → X.xe e s'
section
variable {X : Cx} {CX : CXT} {k : Nat} {f C : Addr} {fd : FuncData} {ps : List Str} {sp : Sp} {dvs : List V} {ds : List Value} {E : XK} {x m : Str} {p pos apos : Pos} {e o : Expr} {es : List Expr} {ta : TE} {t : TA}
theorem run_fn {pins : List (Addr × Obj)} {σ : St} {H : Hp} {s : Shared} {Q : VK} {us : List Value} {vs : List V} (F : FnOk X.prog X.w X.K X.mg X.base CX k f fd ps sp) (hr : Room k X.A) (hb : Binds X.K fd ps ds) (hd : Vals dvs ds) (hx : Passes CX X E)
    (I : Inv X pins σ H s) (r : Vals vs us) (h : sp (vs ++ dvs) H Q E) : wpAny (model X.prog X.w) X.A (call (.ref f) us) (EP X pins σ Q) X.xe s := by
  have r2 : Vals (vs ++ dvs) (us ++ ds) := r.append hd
  have hl : (us ++ ds).length = ps.length := by rw [← r2.length]; exact F.len _ _ _ _ h
  refine wpAny_call (codeAny_mono (F.run X.A X.stack s H ⟨us, []⟩ (us ++ ds) (vs ++ dvs) Q E hr I.env0 (hb s us I.kIn hl) r2 h) fun r s' hq => ?_)
  cases r with
  | error e => exact hx pins σ H s e s' I hq
  | ok fl =>
    cases fl with
    | ret u => exact I.after hq
    | next => exact False.elim hq
    | brk => exact False.elim hq
    | cont => exact False.elim hq
theorem pe_call (F : FnOk X.prog X.w X.K X.mg X.base CX k f fd ps sp) (hr : Room k X.A) (hg : Gl X x) (hm : X.mg x = some (.ref f)) (hk : PySem.W.keepIn X.K (.ref f) = true) (hb : Binds X.K fd ps ds) (hd : Vals dvs ds) (hx : Passes CX X E)
    (ha : PA X (e :: es) t) (hdb : (x == ("__debug__" : Str)) = false := by decide) (he : starEach (e :: es) X.env = (false, eval e X.env) :: starEach es X.env := by rfl) (hpl : (backTo pos (starEach es X.env)).any (·.1) = false := by rfl) :
    PE X (.Call (.Name x p) (e :: es) [] pos) (tCall sp dvs E t) := by
  intro pins s σ H Q I h
  refine wpAny_Call_Name_kw (ld_glob I hg hm ?_ hdb)
  refine PySem.W.callWith_K (h₀ := X.base) I.ok.mod.kin hk (thn (ha pos pins s σ H _ I h) fun us s1 ⟨vs, H1, I1, r, q⟩ => ⟨I1.kIn, ?_⟩) he hpl
  exact run_fn F hr hb hd hx I1 r q
theorem pe_meth {pl : Sem Bool} (he : PE X o ta) (c : Cls X.K C) (hm : Meth X.K C m f) (F : FnOk X.prog X.w X.K X.mg X.base CX k f fd ps sp) (hr : Room k X.A) (hb : Binds X.K fd ps ds) (hd : Vals dvs ds) (hx : Passes CX X E) (ha : PA X (e :: es) t)
    (hst : starEach (e :: es) X.env = (false, eval e X.env) :: starEach es X.env := by rfl) (hpl : (backTo pos (starEach es X.env)).any (·.1) = false := by rfl)
    (ht : eval (.Call (.Attribute o m apos) (e :: es) [] pos) X.env = (do
      let ov ← eval o X.env
      standAt apos.atName
      let (f, first) ← holding [ov] (getMethod ov m pl)
      callWith pos f first (backTo pos (starEach (e :: es) X.env)) (backToKw pos (keywordEach [] X.env))) := by rfl) :
    PE X (.Call (.Attribute o m apos) (e :: es) [] pos) (tMeth C m sp dvs E ta t) := by
  intro pins s σ H Q I h
  refine PySem.W.methodCall_KW (pl := pl) (thn (he pins s σ H _ I h) fun u s1 ⟨x, H1, I1, rx, a, dx, fs, ex, ea, l, q⟩ => ?_) ht
  subst ex
  obtain rfl : u = Value.ref a := rx
  refine getmeth_ok I1 ea c hm l ?_
  refine PySem.W.callWith_K (first := [.ref a]) (h₀ := X.base) I.ok.mod.kin hm.kp (thn (ha pos pins s1 σ H1 _ I1 q) fun us s2 ⟨vs, H2, I2, r, q2⟩ => ⟨I2.kIn, ?_⟩) hst hpl
  exact run_fn (us := .ref a :: us) (vs := .ref a :: vs) F hr hb hd hx I2 (.cons rfl r) q2
theorem pe_meth0 {pl : Sem Bool} (he : PE X o ta) (c : Cls X.K C) (hm : Meth X.K C m f) (F : FnOk X.prog X.w X.K X.mg X.base CX k f fd ps sp) (hr : Room k X.A) (hb : Binds X.K fd ps ds) (hd : Vals dvs ds) (hx : Passes CX X E)
    (ht : eval (.Call (.Attribute o m apos) [] [] pos) X.env = (do
      let ov ← eval o X.env
      standAt apos.atName
      let (f, first) ← holding [ov] (getMethod ov m pl)
      callWith pos f first (backTo pos (starEach [] X.env)) (backToKw pos (keywordEach [] X.env))) := by rfl) :
    PE X (.Call (.Attribute o m apos) [] [] pos) (tMeth C m sp dvs E ta tNil) := by
  intro pins s σ H Q I h
  refine PySem.W.methodCall_KW (pl := pl) (thn (he pins s σ H _ I h) fun u s1 ⟨x, H1, I1, rx, a, dx, fs, ex, ea, l, q⟩ => ?_) ht
  subst ex
  obtain rfl : u = Value.ref a := rx
  refine getmeth_ok I1 ea c hm l ?_
  exact PySem.W.callWith_K0 (first := [.ref a]) I1.kIn hm.kp (run_fn (us := [.ref a]) (vs := [.ref a]) F hr hb hd hx I1 (.cons rfl .nil) q)
structure Mk (K : Frag) (C f : Addr) : Prop where
  makes : PySem.W.makesIn K C = true
  init : PySem.W.findIn K (.ref C) "__init__" = some (some (.ref f))
  fn : PySem.W.isFn K (.ref f) = true
  kp : PySem.W.keepIn K (.ref C) = true
theorem run_make {pins : List (Addr × Obj)} {σ : St} {H : Hp} {s : Shared} {Q : VK} {us : List Value} {vs : List V} (M : Mk X.K C f) (F : FnOk X.prog X.w X.K X.mg X.base CX k f fd ps sp) (hr : Room (k + 1) X.A) (hb : Binds X.K fd ps ds) (hd : Vals dvs ds)
    (hx : Passes CX X E) (I : Inv X pins σ H s) (r : Vals vs us)
    (h : ∀ x dx, H x = none → H dx = none → dx ≠ x → sp (.ref x :: (vs ++ dvs)) (upd (upd H dx (.own x)) x (.ins C dx [])) (fun v H2 => v = .non ∧ Q (.ref x) H2) E) :
    wpAny (model X.prog X.w) X.A (call (.ref C) us) (EP X pins σ Q) X.xe s := by
  have hq := h (s.heap.objs.size + 1) s.heap.objs.size (I.hok.fresh (Nat.le_succ _)) (I.hok.fresh (Nat.le_refl _)) (Nat.ne_of_lt (Nat.lt_succ_self _))
  have I2 := Inv.made (C := C) I
  have r2 : Vals (V.ref (s.heap.objs.size + 1) :: (vs ++ dvs)) (Value.ref (s.heap.objs.size + 1) :: (us ++ ds)) := .cons rfl (r.append hd)
  have hl : (Value.ref (s.heap.objs.size + 1) :: us ++ ds).length = ps.length := by
    have e := r2.length
    rw [F.len _ _ _ _ hq] at e
    exact e.symm
  refine wpAny_call (make_map (f := f) I.kIn M.makes M.init (beq_iff_eq.mp M.fn) (codeAny_mono (F.run _ X.stack _ _ ⟨Value.ref (s.heap.objs.size + 1) :: us, []⟩ (Value.ref (s.heap.objs.size + 1) :: (us ++ ds)) _ _ E (hr.make C us [])
    (I2.env0.make C us []) (hb _ (Value.ref (s.heap.objs.size + 1) :: us) I2.kIn hl) r2 hq) fun r s' hq' => ?_))
  cases r with
  | error e => exact hx pins σ _ _ e s' I2 hq'
  | ok fl =>
    cases fl with
    | ret u =>
      obtain ⟨v, H', I3, rv, ev, q3⟩ := I2.after hq'
      subst ev
      exact ⟨rv, ⟨V.ref (s.heap.objs.size + 1), H', I3, rfl, q3⟩⟩
    | next => exact False.elim hq'
    | brk => exact False.elim hq'
    | cont => exact False.elim hq'
theorem pe_make (M : Mk X.K C f) (F : FnOk X.prog X.w X.K X.mg X.base CX k f fd ps sp) (hr : Room (k + 1) X.A) (hg : Gl X x) (hm : X.mg x = some (.ref C)) (hb : Binds X.K fd ps ds) (hd : Vals dvs ds) (hx : Passes CX X E)
    (ha : PA X (e :: es) t) (hdb : (x == ("__debug__" : Str)) = false := by decide) (he : starEach (e :: es) X.env = (false, eval e X.env) :: starEach es X.env := by rfl) (hpl : (backTo pos (starEach es X.env)).any (·.1) = false := by rfl) :
    PE X (.Call (.Name x p) (e :: es) [] pos) (tMake C sp dvs E t) := by
  intro pins s σ H Q I h
  refine wpAny_Call_Name_kw (ld_glob I hg hm ?_ hdb)
  refine PySem.W.callWith_K (h₀ := X.base) I.ok.mod.kin M.kp (thn (ha pos pins s σ H _ I h) fun us s1 ⟨vs, H1, I1, r, q⟩ => ⟨I1.kIn, ?_⟩) he hpl
  exact run_make M F hr hb hd hx I1 r q
theorem pe_make0 (M : Mk X.K C f) (F : FnOk X.prog X.w X.K X.mg X.base CX k f fd ps sp) (hr : Room (k + 1) X.A) (hg : Gl X x) (hm : X.mg x = some (.ref C)) (hb : Binds X.K fd ps ds) (hd : Vals dvs ds) (hx : Passes CX X E)
    (hdb : (x == ("__debug__" : Str)) = false := by decide) : PE X (.Call (.Name x p) [] [] pos) (tMake C sp dvs E tNil) := by
  intro pins s σ H Q I h
  refine wpAny_Call_Name_kw (ld_glob I hg hm ?_ hdb)
  exact PySem.W.callWith_K0 I.kIn M.kp (run_make (us := []) M F hr hb hd hx I .nil h)
end
section
variable {X : Cx} {CX : CXT} {k : Nat} {f C : Addr} {fd : FuncData} {ps ks : List Str} {sp : Sp} {E : XK} {x m : Str} {p pos apos kpos : Pos} {e o : Expr} {es : List Expr} {kws : List Keyword} {te ta : TE} {t tk : TA} {nm : Option Str}
variable {g : List Value → List Value → List Value} {gV : List V → List V → List V}
end
structure FnScope (N P : List Str) (sc : Scope) : Prop where
  kind : sc.kind = .function
  co : sc.isCoroutine = false
  gen : sc.isGenerator = false
  nd : N.Nodup
  pre : N.take P.length = P
  par : ∀ x ∈ P, sc.names.lookup x = some .local ∨ sc.names.lookup x = some .cell
  nofree : ∀ y ∈ sc.names, y.2 ≠ .free
theorem bindL_out {kindOf : Str → Option NameKind} {x : Str} : ∀ {binds : List (Str × Value)} {m : Str → Option Value}, (∀ v, (x, v) ∉ binds) → bindL kindOf binds m x = m x
  | [], _, _ => rfl
  | (n, v) :: r, m, h => by
    unfold bindL
    rw [bindL_out fun w hw => h w (List.mem_cons_of_mem _ hw)]
    split
    · have : x ≠ n := by rintro rfl; exact h v List.mem_cons_self
      simp [this]
    · rfl
theorem bindC_out {kindOf : Str → Option NameKind} {x : Str} : ∀ {binds : List (Str × Value)} {m : Str → Option Value}, (∀ v, (x, v) ∉ binds) → bindC kindOf binds m x = m x
  | [], _, _ => rfl
  | (n, v) :: r, m, h => by
    unfold bindC
    rw [bindC_out fun w hw => h w (List.mem_cons_of_mem _ hw)]
    split
    · rfl
    · have : x ≠ n := by rintro rfl; exact h v List.mem_cons_self
      simp [this]
theorem bindL_get {kindOf : Str → Option NameKind} {x : Str} {v : Value} : ∀ {P : List Str} {vs : List Value} {i : Nat} {m : Str → Option Value}, P.Nodup → P[i]? = some x → vs[i]? = some v → kindOf x = some .local →
    bindL kindOf (P.zip vs) m x = some v
  | [], _, _, _, _, h, _, _ => by simp at h
  | _ :: _, [], _, _, _, _, h, _ => by simp at h
  | p :: P, w :: vs, 0, m, nd, h1, h2, hk => by
    simp at h1 h2; subst h1; subst h2
    show bindL kindOf ((p, w) :: P.zip vs) m p = _
    unfold bindL
    rw [bindL_out fun v hv => (List.nodup_cons.mp nd).1 (List.of_mem_zip hv).1, if_pos hk]
    simp
  | p :: P, w :: vs, i + 1, m, nd, h1, h2, hk => by
    show bindL kindOf ((p, w) :: P.zip vs) m x = _
    unfold bindL
    exact bindL_get (i := i) (List.nodup_cons.mp nd).2 (by simpa using h1) (by simpa using h2) hk
theorem bindC_get {kindOf : Str → Option NameKind} {x : Str} {v : Value} : ∀ {P : List Str} {vs : List Value} {i : Nat} {m : Str → Option Value}, P.Nodup → P[i]? = some x → vs[i]? = some v → kindOf x ≠ some .local →
    bindC kindOf (P.zip vs) m x = some v
  | [], _, _, _, _, h, _, _ => by simp at h
  | _ :: _, [], _, _, _, _, h, _ => by simp at h
  | p :: P, w :: vs, 0, m, nd, h1, h2, hk => by
    simp at h1 h2; subst h1; subst h2
    show bindC kindOf ((p, w) :: P.zip vs) m p = _
    unfold bindC
    rw [bindC_out fun v hv => (List.nodup_cons.mp nd).1 (List.of_mem_zip hv).1, if_neg hk]
    simp
  | p :: P, w :: vs, i + 1, m, nd, h1, h2, hk => by
    show bindC kindOf ((p, w) :: P.zip vs) m x = _
    unfold bindC
    exact bindC_get (i := i) (List.nodup_cons.mp nd).2 (by simpa using h1) (by simpa using h2) hk
def start (N : List Str) (vs : List V) : St := vs.map some ++ List.replicate (N.length - vs.length) none
def cxOf (CX : CXT) (P : Program) (w : World) (K : Frag) (mg : Str → Option Value) (base : Heap) (N : List Str) (qual : Str) (scope : Scope) (f : Addr) (cd : Value) (A : Around) (outer : List Env) (s : Shared) (H : Hp) (E : XK) : Cx where
  prog := P
  w := w
  K := K
  mg := mg
  base := base
  A := A.deeper (envOfC qual scope s.heap.objs.size f cd)
  N := N
  s_0 := s
  H_0 := H
  env := envOfC qual scope s.heap.objs.size f cd
  outer := outer
  stack := envOfC qual scope s.heap.objs.size f cd :: outer
  ex := []
  calm := true
  fn := fun _ => true
  pn := []
  xe := fun e s' => wpAny (model P w) (A.deeper (envOfC qual scope s.heap.objs.size f cd)) (leaving (envOfC qual scope s.heap.objs.size f cd) e) (fun _ s'' => CX outer H s E e s'') (fun e' s'' => CX outer H s E e' s'') s'
theorem cell_has {sc : Scope} {n : Nat} {x : Str} (h : sc.names.lookup x = some .cell) : ∃ c, (cellsFrom n sc.names []).lookup x = some c := by
  have q := PySem.W.cellsFrom_some sc.names n [] (.inl h)
  exact Option.isSome_iff_exists.mp q
theorem inv_start {CX : CXT} {P : Program} {w : World} {K : Frag} {mg : Str → Option Value} {base : Heap} {N ps : List Str} {qual : Str} {scope : Scope} {f : Addr} {cd : Value} {A : Around} {outer : List Env} {s s1 : Shared} {H : Hp} {E : XK} {us : List Value} {vs : List V}
    (S : FnScope N ps scope) (hd : A.handled = none) (e0 : Env0 P w K mg base A outer s H) (hl : vs.length = ps.length) (r : Vals vs us)
    (x : InCallC s s.heap.objs.size (bindL (envOfC qual scope s.heap.objs.size f cd).kindOf (ps.zip us) fun _ => none) (cellsFrom (s.heap.objs.size + 1) scope.names []) (bindC (envOfC qual scope s.heap.objs.size f cd).kindOf (ps.zip us) fun _ => none) s1) :
    Inv (cxOf CX P w K mg base N qual scope f cd A outer s H E) [] (start N vs) H s1 := by
  have hpl : ps.length ≤ N.length := by have := congrArg List.length S.pre; rw [List.length_take] at this; omega
  obtain ⟨h1, tk, rfl, hk⟩ := x.done
  have noA : ∀ b : Addr, b ∉ (cxOf CX P w K mg base N qual scope f cd A outer s H E).ex := fun b z => absurd (show b ∈ ([] : List Addr) from z) (by simp)
  refine ⟨⟨e0.mod, S.kind, rfl, rfl, Nat.le_refl _, fun y z c h1 h2 => ?_, fun y hy => ?_, fun y c _ h => ?_, fun _ => hd, Around.frames_deeper e0.frames, .inr ⟨rfl, rfl⟩, fun b z => absurd z (noA b), e0.bs, e0.bsz, fun b _ _ => noA b, fun b z => absurd z (noA b), e0.funs, e0.frf⟩,
    rfl, e0.bare, Un.kept hk, ⟨_, x.toInCall.ns, fun i y v h1 h2 h3 => ?_⟩, fun y c h => ⟨_, x.cell y c h⟩, e0.hok.fresh (Nat.le_refl _), fun y c h => ?_, fun p hp => absurd (show p ∈ ([] : List (Addr × Obj)) from hp) (by simp), e0.hok.kept hk, ?_⟩
  · exact name_of_addr x.apart (PySem.mem_of_lookup h1) (PySem.mem_of_lookup h2)
  · have hy : scope.names.lookup y = some .cell ∨ scope.names.lookup y = some .free := hy
    rcases hy with hy | hy
    · exact cell_has hy
    · exact absurd rfl (S.nofree _ (PySem.mem_of_lookup hy))
  · exact Nat.le_of_lt (x.above y c (PySem.mem_of_lookup h))
  · have hi : i < vs.length := by
      unfold start at h2
      by_cases hi : i < vs.length
      · exact hi
      · rw [List.getElem?_append_right (by simpa using hi)] at h2
        rw [List.getElem?_replicate] at h2
        split at h2 <;> cases h2
    have ha : vs[i]? = some v := by
      unfold start at h2
      rw [List.getElem?_append_left (by simpa using hi), List.getElem?_map] at h2
      cases e : vs[i]? with
      | none => rw [e] at h2; cases h2
      | some a => rw [e] at h2; cases h2; rfl
    obtain ⟨u, hu, rv⟩ := r.get ha
    have hp : ps[i]? = some y := by
      rw [← S.pre, List.getElem?_take_of_lt (by omega)]; exact h1
    have ndP : ps.Nodup := by rw [← S.pre]; exact S.nd.sublist (List.take_sublist _ _)
    refine ⟨u, rv, ?_⟩
    rcases S.par y (List.mem_of_getElem? hp) with k | k
    · exact .inl ⟨k, bindL_get ndP hp hu k⟩
    · obtain ⟨c, e⟩ := cell_has (n := s.heap.objs.size + 1) k
      refine .inr ⟨.inl k, c, e, ?_⟩
      have q := x.cell y c e
      rw [bindC_get ndP hp hu (by show scope.names.lookup y ≠ _; rw [k]; decide)] at q
      exact q
  · exact e0.hok.fresh (Nat.le_of_lt (x.above y c (PySem.mem_of_lookup h)))
  · unfold start
    show _ = N.length
    rw [List.length_append, List.length_map, List.length_replicate]
    omega
theorem fn_of {CX : CXT} {P : Program} {w : World} {K : Frag} {mg : Str → Option Value} {base : Heap} {k : Nat} {f : Addr} {name qual : Str} {params : Arguments} {body : List Stmt} {scope : Scope} {dV kV doc pm cdv ct oc : Value} {an od : Option Addr}
    {osl : Array (Option Value)} {N ps : List Str} {sp : Sp} (lk : K.lookup f = some ⟨oc, od, .func (PySem.W.fnOf name qual params body scope dV kV doc pm an cdv ct), osl⟩) (hcd : PySem.W.codeIn K cdv qual = true) (S : FnScope N ps scope)
    (len : ∀ vs H Q E, sp vs H Q E → vs.length = ps.length)
    (hbody : ∀ (A : Around) (outer : List Env) (s : Shared) (H : Hp) (vs : List V) (Q : VK) (E : XK), Room k (A.deeper (envOfC qual scope s.heap.objs.size f cdv)) → sp vs H Q E →
      ∃ t, PSs (cxOf CX P w K mg base N qual scope f cdv A outer s H E) body t ∧ t { nx := fun _ H' => Q .non H', rt := Q } (start N vs) H) :
    FnOk P w K mg base CX (k + 1) f (PySem.W.fnOf name qual params body scope dV kV doc pm an cdv ct) ps sp := by
  refine ⟨len, fun A outer s H args us vs Q E hr e0 hb r hsp => ?_⟩
  have hl := len _ _ _ _ hsp
  have KX : K.In s.heap := e0.mod.kin.keeps fun b o e => (e0.bs b o e).1
  have lim : s.heap.NoLimit := e0.mod.nolimit.keeps fun b o e => (e0.bs b o e).1
  have hkind : ∀ y ∈ ps.zip us, scope.names.lookup y.1 = some .local ∨ (scope.names.lookup y.1 = some .cell ∧ ((cellsFrom (s.heap.objs.size + 1) scope.names []).lookup y.1).isSome = true) := fun ⟨n, v⟩ hy => by
    rcases S.par n (List.of_mem_zip hy).1 with q | q
    · exact .inl q
    · exact .inr ⟨q, PySem.W.cellsFrom_some _ _ _ (.inl q)⟩
  refine codeAny_call_function hr.depth (KX _ _ lk) rfl S.co S.gen rfl (PySem.W.codeRec_of KX hcd) (hb _ _ _ _ ?_)
  refine wpAny_newFunctionEnv_cells S.kind hkind fun env he s1 x => ?_
  subst he
  refine ⟨lim.keeps x.toInCall.keep, codeAny_func ?_⟩
  obtain ⟨t, ht, hq⟩ := hbody A outer s H vs Q E (hr.deeper _) hsp
  have I : Inv (cxOf CX P w K mg base N qual scope f cdv A outer s H E) [] (start N vs) H s1 := inv_start S hr.hd e0 hl r x
  refine wpAny_mono (ht [] s1 (start N vs) H _ I hq) (fun fl s' hs => ?_) fun e s' hs => hs
  have fin : ∀ {σ' : St} {H' : Hp} {v : V} {u : Value}, Inv (cxOf CX P w K mg base N qual scope f cdv A outer s H E) [] σ' H' s' → RelV v u → Q v H' → CE outer P w H s Q u s' :=
    fun {σ' H' v u} J rv q => ⟨v, H', J.os, J.bare, J.base, J.hok, rv, q⟩
  cases fl with
  | ret u =>
    obtain ⟨v, σ', H', J, rv, q⟩ := hs
    exact fin J rv q
  | next =>
    obtain ⟨σ', H', J, q⟩ := hs
    exact fin (v := V.non) (u := Value.none) J rfl q
  | brk =>
    obtain ⟨_, _, _, q⟩ := hs
    exact False.elim q
  | cont =>
    obtain ⟨_, _, _, q⟩ := hs
    exact False.elim q
end L2
namespace L2
open PySem PySem.Spec PyProof.Rows
section
variable {X : Cx} {x : Str} {p pos : Pos} {e : Expr} {es : List Expr} {t : TA} {id T : String} {r : List V → Hp → VK → Prop}
def tCB (r : List V → Hp → VK → Prop) (t : TA) : TE := fun σ H Q => t σ H fun vs H1 => r vs H1 Q
theorem pe_callB (hc : CallR X (.builtin id) r) (hg : Gl X x) (hm : X.mg x = none) (hv : bootBuiltins x = some (.builtin id)) (ha : PA X (e :: es) t) (hn : x ≠ "__name__" := by decide) (hdb : (x == ("__debug__" : Str)) = false := by decide)
    (he : starEach (e :: es) X.env = (false, eval e X.env) :: starEach es X.env := by rfl) (hpl : (backTo pos (starEach es X.env)).any (·.1) = false := by rfl) : PE X (.Call (.Name x p) (e :: es) [] pos) (tCB r t) := by
  intro pins s σ H Q I h
  refine wpAny_Call_Name_kw (ld_blt I hg hm hv ?_ hn hdb)
  exact PyProof.Rows.callWith_builtin1 (thn (ha pos pins s σ H _ I h) fun us s1 ⟨vs, H1, I1, r1, q1⟩ => hc pins s1 σ H1 vs us Q I1 r1 q1) he hpl
theorem pe_callTy (hc : CallR X (.type T) r) (hg : Gl X x) (hm : X.mg x = none) (hv : bootBuiltins x = some (.type T)) (ha : PA X (e :: es) t) (hn : x ≠ "__name__" := by decide) (hdb : (x == ("__debug__" : Str)) = false := by decide)
    (he : starEach (e :: es) X.env = (false, eval e X.env) :: starEach es X.env := by rfl) (hpl : (backTo pos (starEach es X.env)).any (·.1) = false := by rfl) : PE X (.Call (.Name x p) (e :: es) [] pos) (tCB r t) := by
  intro pins s σ H Q I h
  refine wpAny_Call_Name_kw (ld_blt I hg hm hv ?_ hn hdb)
  exact PyProof.Rows.callWith_type1 (thn (ha pos pins s σ H _ I h) fun us s1 ⟨vs, H1, I1, r1, q1⟩ => hc pins s1 σ H1 vs us Q I1 r1 q1) he hpl
end
end L2
namespace HT
open PySem PyProof.Rows
section
open PySem.SeqAt
open PySem.AutoSeq1 (wpAny_loadPart')
open PySem.MeetsSeq PySem.MeetsSeq2 PySem.MeetsSeq3
end
section
variable {prog : Program} {w : World} {A : Around} {E : Value → Shared → Prop} {s : Shared}
def sIx (n d : Nat) : Option Int → Nat
  | none => d
  | some v => if v < 0 then (v + (n : Int)).toNat else min v.toNat n
theorem sIx_none (n d : Nat) : sIx n d none = d := rfl
theorem sIx_nat (n d k : Nat) : sIx n d (some (k : Int)) = min k n := by
  show (if (k : Int) < 0 then ((k : Int) + (n : Int)).toNat else min (k : Int).toNat n) = min k n
  rw [if_neg (by omega), Int.toNat_natCast]
end
end HT
namespace L2
open PySem PySem.Spec PyProof.Rows
abbrev TO := St → Hp → (Option Int → Hp → Prop) → Prop
def PO (X : Cx) (e : Option Expr) (t : TO) : Prop :=
  ∀ (pins : List (Addr × Obj)) (s : Shared) (σ : St) (H : Hp) (Q : Option Int → Hp → Prop), Inv X pins σ H s → t σ H Q →
    wpAny (model X.prog X.w) X.A (evalPart e X.env) (fun u s' => ∃ o H', Inv X pins σ H' s' ∧ IsPart u o ∧ Q o H') X.xe s
def tNoPart : TO := fun _ H Q => Q none H
def tPart (t : TE) : TO := fun σ H Q => t σ H fun x H1 => ∃ i, x = .int i ∧ Q (some i) H1
section
variable {X : Cx} {e : Expr} {te : TE} {lo hi : Option Expr} {tl th : TO} {pos p2 : Pos}
theorem po_none : PO X none tNoPart := by
  intro pins s σ H Q I h
  rw [evalPart_none]
  exact wpAny_pure ⟨none, H, I, .none, h⟩
theorem po_some (h : PE X e te) : PO X (some e) (tPart te) := by
  intro pins s σ H Q I hw
  rw [evalPart_some]
  refine thn (h pins s σ H _ I hw) fun u s1 ⟨x, H1, I1, r1, q1⟩ => ?_
  obtain ⟨i, rfl, q⟩ := q1
  obtain ⟨t, rfl⟩ := r1
  exact ⟨some i, H1, I1, .int i t, q⟩
def SlR (X : Cx) (r : V → Option Int → Option Int → Hp → VK → Prop) : Prop :=
  ∀ (pins : List (Addr × Obj)) (s : Shared) (σ : St) (H : Hp) (x : V) (v vl vu : Value) (lo hi : Option Int) (sl : Addr) (Q : VK), Inv X pins σ H s → RelV x v → s.heap.IsSliceOf sl vl vu .none → IsPart vl lo → IsPart vu hi → r x lo hi H Q →
    ∃ T id, typeLookup (.type T) "__getitem__" = pure (some (.builtin id)) ∧ s.TypeIs v T ∧ wpAny (model X.prog X.w) X.A (getItem v (.ref sl)) (EP X pins σ Q) X.xe s
def tSl (r : V → Option Int → Option Int → Hp → VK → Prop) (te : TE) (tl th : TO) : TE := fun σ H Q => te σ H fun x H1 => tl σ H1 fun l H2 => th σ H2 fun u H3 => r x l u H3 Q
theorem pe_slice {r : V → Option Int → Option Int → Hp → VK → Prop} (hr : SlR X r) (he : PE X e te) (hl : PO X lo tl) (hu : PO X hi th) : PE X (.Subscript e (.Slice lo hi none p2) pos) (tSl r te tl th) := by
  intro pins s σ H Q I h
  refine Subscript_ (thn (he pins s σ H _ I h) fun v s1 ⟨x, H1, I1, r1, q1⟩ => ?_)
  refine wpAny_Slice (thn (hl pins s1 σ H1 _ I1 q1) fun vl s2 ⟨l, H2, I2, pl, q2⟩ => thn (hu pins s2 σ H2 _ I2 q2) fun vu s3 ⟨u, H3, I3, pu, q3⟩ => ?_)
  rw [evalPart_none]
  refine wpAny_pure ?_
  have I4 : Inv X pins σ H3 { s3 with heap := s3.heap.push { cls := .type "slice", data := .fields #[vl, vu, .none] } } := I3.kept (t' := s3.toks) fun b ob q => Heap.get?_push_of_some _ q
  obtain ⟨T, id, hT, ht, hg⟩ := hr pins { s3 with heap := s3.heap.push { cls := .type "slice", data := .fields #[vl, vu, .none] } } σ H3 x v vl vu l u s3.heap.objs.size Q I4 r1 (Heap.IsSliceOf.new ..) pl pu q3
  show wpAny (model X.prog X.w) X.A (subscriptTail e (.Slice lo hi none p2) v (.ref s3.heap.objs.size)) (EP X pins σ Q) X.xe { s3 with heap := s3.heap.push { cls := .type "slice", data := .fields #[vl, vu, .none] } }
  exact tail_any (ops := [.ref s3.heap.objs.size, v]) ht hT hg (by with_unfolding_all rfl)
def cutV (xs : List V) (lo hi : Option Int) : List V := (xs.drop (HT.sIx xs.length 0 lo)).take (HT.sIx xs.length xs.length hi - HT.sIx xs.length 0 lo)
theorem cutV_length (xs : List V) (lo hi : Option Int) : (cutV xs lo hi).length ≤ xs.length := by
  unfold cutV
  rw [List.length_take, List.length_drop]
  omega
end
end L2
namespace L2
open PySem PySem.Spec PyProof.Rows
def ixN (n : Nat) (i : Int) : Option Nat := if 0 ≤ i then (if i < n then some i.toNat else none) else if -(n : Int) ≤ i then some (i + n).toNat else none
def atI {α : Type} (xs : List α) (i : Int) : Option α := (ixN xs.length i).bind fun j => xs[j]?
theorem ixN_seq {n : Nat} {i : Int} {j : Nat} (h : ixN n i = some j) : seqIndex? i n = some j ∧ j < n ∧ -(n : Int) ≤ i ∧ i < n := by
  unfold ixN at h
  by_cases h0 : 0 ≤ i
  · rw [if_pos h0] at h
    by_cases h1 : i < n
    · rw [if_pos h1] at h
      have e : i.toNat = j := Option.some.inj h
      exact ⟨by rw [seqIndex_of h0 h1, e], by omega, by omega, h1⟩
    · rw [if_neg h1] at h; cases h
  · rw [if_neg h0] at h
    by_cases h1 : -(n : Int) ≤ i
    · rw [if_pos h1] at h
      have e : (i + n).toNat = j := Option.some.inj h
      exact ⟨by rw [seqIndex_neg (by omega) h1, e], by omega, h1, by omega⟩
    · rw [if_neg h1] at h; cases h
theorem atI_get {α : Type} {xs : List α} {i : Int} {v : α} (h : atI xs i = some v) : ∃ j, seqIndex? i xs.length = some j ∧ xs[j]? = some v ∧ j < xs.length ∧ -(xs.length : Int) ≤ i ∧ i < xs.length := by
  unfold atI at h
  cases e : ixN xs.length i with
  | none => rw [e] at h; cases h
  | some j =>
    rw [e] at h
    obtain ⟨h1, h2, h3, h4⟩ := ixN_seq e
    exact ⟨j, h1, h, h2, h3, h4⟩
theorem atI_nat {α : Type} {xs : List α} {j : Nat} {v : α} (h : xs[j]? = some v) : atI xs (j : Int) = some v := by
  have hj : j < xs.length := (List.getElem?_eq_some_iff.mp h).1
  have e : ixN xs.length (j : Int) = some j := by
    unfold ixN
    rw [if_pos (by omega), if_pos (by omega)]; simp
  unfold atI; rw [e]; exact h
def PlainIx (b : Expr) : Prop := ∀ o i, subscripted b false o i = operate [o, i] (getItem o i)
def IxR (X : Cx) (r : R2) : Prop :=
  ∀ (value slice : Expr) (pins : List (Addr × Obj)) (s : Shared) (σ : St) (H : Hp) (x y : V) (v u : Value) (Q : VK), Inv X pins σ H s → RelV x v → RelV y u → r x y H Q →
    subscripted slice false v u = operate [v, u] (getItem v u) → wpAny (model X.prog X.w) X.A (subscriptTail value slice v u) (EP X pins σ Q) X.xe s
def MtR (X : Cx) (id : String) (r : V → List V → Hp → VK → Prop) : Prop :=
  ∀ (pins : List (Addr × Obj)) (s : Shared) (σ : St) (H : Hp) (x : V) (xs : List V) (v : Value) (us : List Value) (Q : VK), Inv X pins σ H s → RelV x v → Vals xs us → r x xs H Q →
    wpAny (model X.prog X.w) X.A (call (.builtin id) (v :: us)) (EP X pins σ Q) X.xe s
section
variable {X : Cx} {a b : Expr} {ta tb : TE} {pos : Pos}
theorem pe_ix {r : R2} (hr : IxR X r) (ha : PE X a ta) (hb : PE X b tb) (hs : PlainIx b) : PE X (.Subscript a b pos) (tOp r ta tb) := by
  intro pins s σ H Q I h
  exact Subscript_ (binT ha hb I h fun v u s2 x y H2 I2 rx ry q => hr a b pins s2 σ H2 x y v u Q I2 rx ry q (hs _ _))
def rIxL (K : Frag) : R2 := fun x y H Q => ∃ p xs i v, x = .ref p ∧ y = .int i ∧ SqL K H p xs ∧ atI xs i = some v ∧ Q v H
def rIxT (K : Frag) : R2 := fun x y H Q => ∃ p xs i v, x = .ref p ∧ y = .int i ∧ SqT K H p xs ∧ atI xs i = some v ∧ Q v H
theorem ix_list : IxR X (rIxL X.K) := by
  intro value slice pins s σ H x y v u Q I rx ry h hs
  obtain ⟨p, xs, i, z, rfl, rfl, hq, he, q⟩ := h
  cases rx
  obtain ⟨t, rfl⟩ := ry
  obtain ⟨its, r, pl, hz⟩ := I.list hq
  obtain ⟨j, h1, h2, h3, h4, h5⟩ := atI_get he
  obtain ⟨w, ew, rw'⟩ := r.get h2
  have hl := r.length
  have hn := line63
  have fin : EP X pins σ Q w s := ⟨z, H, I, rw', q⟩
  by_cases h0 : 0 ≤ i
  · have hj : i.toNat = j := by
      rw [seqIndex_of h0 h5] at h1
      exact Option.some.inj h1
    exact item_listR pl.isList h0 (by omega) (by rw [hj]; simpa using ew) fin hs
  · have hj : (i + (its.toArray.size : Int)).toNat = j := by
      rw [seqIndex_neg (by omega) h4] at h1
      rw [List.size_toArray, ← hl]
      exact Option.some.inj h1
    exact subscriptTail_builtinR (x := w) pl.isList.typeIs slot_list_getitem.lookup
      (wpAny_getItem_list_neg (Q := fun r s' => r = w ∧ EP X pins σ Q r s') pl.isList (by omega) (by rw [List.size_toArray] <;> omega) (by omega) (by rw [hj]; simpa using ew) ⟨rfl, fin⟩) hs
theorem ix_tup : IxR X (rIxT X.K) := by
  intro value slice pins s σ H x y v u Q I rx ry h hs
  obtain ⟨p, xs, i, z, rfl, rfl, hq, he, q⟩ := h
  cases rx
  obtain ⟨t, rfl⟩ := ry
  obtain ⟨its, r, pl, hz⟩ := I.tuple hq
  obtain ⟨j, h1, h2, h3, h4, h5⟩ := atI_get he
  obtain ⟨w, ew, rw'⟩ := r.get h2
  have hl := r.length
  have hn := line63
  have fin : EP X pins σ Q w s := ⟨z, H, I, rw', q⟩
  exact subscriptTail_builtinR (x := w) pl.typeIs slot_tuple_getitem.lookup
    (getItem_tuple (j := j) (Q := fun r s' => r = w ∧ EP X pins σ Q r s') pl (by omega) (by omega) (by rw [List.size_toArray, ← hl]; exact h1) (by simpa using ew) ⟨rfl, fin⟩) hs
theorem mapSeq_set (its : List Value) (n j : Nat) (u : Value) : Obj.mapSeq (·.setIfInBounds j u) { cls := .type "list", data := .seq its.toArray n } = { cls := .type "list", data := .seq (its.set j u).toArray n } := by
  simp [Obj.mapSeq]
theorem Inv.lst {pins : List (Addr × Obj)} {σ : St} {H : Hp} {s : Shared} {p : Addr} {xs : List V} (I : Inv X pins σ H s) (h : H p = some (.lst xs)) :
    ∃ (its : List Value) (n : Nat), Vals xs its ∧ s.heap.get? p = some { cls := .type "list", data := .seq its.toArray n } ∧ xs.length ≤ sizeLine := by
  obtain ⟨z, its, n, r, e⟩ := I.hok p _ h
  exact ⟨its, n, r, e, z⟩
theorem Inv.lstUpd {pins : List (Addr × Obj)} {σ : St} {H : Hp} {s : Shared} {p : Addr} {xs ys : List V} {its its' : List Value} {n n' : Nat} {f : Obj → Obj} (I : Inv X pins σ H s) (h : H p = some (.lst xs))
    (ho : s.heap.get? p = some { cls := .type "list", data := .seq its.toArray n }) (hf : f { cls := .type "list", data := .seq its.toArray n } = { cls := .type "list", data := .seq its'.toArray n' }) (r : Vals ys its') (hz : ys.length ≤ sizeLine) (t : Nat) :
    Inv X pins σ (upd H p (.lst ys)) { s with heap := s.heap.update p f, toks := t } := by
  have e : (s.heap.update p f).get? p = some { cls := .type "list", data := .seq its'.toArray n' } := by
    rw [Heap.get?_update_self f ho (by rw [hf] <;> rfl), hf]
  refine I.write (x := p) (e := p) (by rw [h]; trivial) (.inl rfl) (fun b u hb q => (Heap.get?_update_other _ _ (Ne.symm hb)).trans q) ⟨_, e⟩ ?_
  exact ⟨hz, its', n', r, e⟩
def rSetL : V → V → V → Hp → (Hp → Prop) → Prop := fun o i v H Q => ∃ p xs k j, o = .ref p ∧ i = .int k ∧ H p = some (.lst xs) ∧ ixN xs.length k = some j ∧ Q (upd H p (.lst (xs.set j v)))
theorem set_list : PSet X rSetL := by
  intro pins s σ H o i v ov iv u Q I ro ri rv h
  obtain ⟨p, xs, k, j, rfl, rfl, hp, hj, q⟩ := h
  cases ro
  obtain ⟨t, rfl⟩ := ri
  obtain ⟨its, n, r, ho, hz⟩ := I.lst hp
  obtain ⟨h1, h2, h3, h4⟩ := ixN_seq hj
  have hl := r.length
  have hn := line63
  have I' : Inv X pins σ (upd H p (.lst (xs.set j v))) { s with heap := s.heap.update p (Obj.mapSeq (·.setIfInBounds j u)) } :=
    I.lstUpd hp ho (mapSeq_set its n j u) (r.set rv j) (by rw [List.length_set]; exact hz) s.toks
  by_cases h0 : 0 ≤ k
  · have hk : k.toNat = j := by
      rw [seqIndex_of h0 h4] at h1
      exact Option.some.inj h1
    exact PySem.W.ki_setAt ho h0 (by omega) (by rw [List.size_toArray, ← hl]; exact h4) (by rw [hk]; exact ⟨_, I', q⟩)
  · have hk : (k + (its.toArray.size : Int)).toNat = j := by
      rw [seqIndex_neg (by omega) h3] at h1
      rw [List.size_toArray, ← hl]
      exact Option.some.inj h1
    exact PySem.W.ki_setBack ho (by omega) (by rw [List.size_toArray, ← hl]; exact h3) (by omega) (by rw [hk]; exact ⟨_, I', q⟩)
theorem slice_bounds (lo hi : Option Int) (n : Nat) : (sliceBounds lo hi none n).1 = ((HT.sIx n 0 lo : Nat) : Int) ∧ (sliceBounds lo hi none n).2.1 = ((HT.sIx n n hi : Nat) : Int) ∧ (sliceBounds lo hi none n).2.2 = 1 := by
  refine ⟨?_, ?_, rfl⟩
  · cases lo with
    | none => simp [sliceBounds, HT.sIx]
    | some i =>
      simp only [sliceBounds, HT.sIx, Option.getD_none, show (1 : Int) > 0 by decide, if_true]
      by_cases h : i < 0
      · simp only [h, if_true] <;> omega
      · simp only [h, if_false] <;> omega
  · cases hi with
    | none => simp [sliceBounds, HT.sIx]
    | some i =>
      simp only [sliceBounds, HT.sIx, Option.getD_none, show (1 : Int) > 0 by decide, if_true]
      by_cases h : i < 0
      · simp only [h, if_true] <;> omega
      · simp only [h, if_false] <;> omega
theorem slicePick_cut (its : List Value) (lo hi : Option Int) : slicePick its.toArray lo hi none = ((its.drop (HT.sIx its.length 0 lo)).take (HT.sIx its.length its.length hi - HT.sIx its.length 0 lo)).toArray := by
  obtain ⟨h1, h2, h3⟩ := slice_bounds lo hi its.toArray.size
  unfold slicePick
  rw [h1, h2, h3]
  simp only [sliceRange_one, pick_run, List.size_toArray] <;> rfl
def rSlL (K : Frag) : V → Option Int → Option Int → Hp → VK → Prop := fun x lo hi H Q => ∃ a xs, x = .ref a ∧ SqL K H a xs ∧ ∀ p, H p = none → Q (.ref p) (upd H p (.lst (cutV xs lo hi)))
theorem sl_list : SlR X (rSlL X.K) := by
  intro pins s σ H x v vl vu lo hi sl Q I rx hs pl pu h
  obtain ⟨a, xs, rfl, hx, q⟩ := h
  cases rx
  obtain ⟨its, r, ht, hz⟩ := I.list hx
  have hlen := r.length
  refine ⟨"list", _, slot_list_getitem.lookup, ht.isList.typeIs, ?_⟩
  refine wpAny_getItem_list_slice ht.isList hs pl pu .none (by simp) ?_ (by rw [List.size_toArray] <;> omega)
  rw [slicePick_cut, ← hlen]
  refine ⟨.ref s.heap.objs.size, _, I.laid (t' := s.toks) (o := .lst (cutV xs lo hi)) (fun b ob q => Heap.get?_push_of_some _ q) (Nat.le_refl _) ?_, rfl, q _ (I.hok.fresh (Nat.le_refl _))⟩
  exact ⟨Nat.le_trans (cutV_length xs lo hi) hz, _, 0, (r.drop (HT.sIx xs.length 0 lo)).take (HT.sIx xs.length xs.length hi - HT.sIx xs.length 0 lo), Heap.get?_push_size _ rfl⟩
def flatV : V → Bool
  | .non => true
  | .bl _ => true
  | .int _ => true
  | .str _ => true
  | _ => false
def eqV : V → V → Bool
  | .non, .non => true
  | .bl a, .bl b => a == b
  | .bl a, .int b => (if a then 1 else 0) == b
  | .int a, .bl b => a == (if b then 1 else 0)
  | .int a, .int b => a == b
  | .str a, .str b => a == b
  | _, _ => false
theorem eqAt_V {A : Around} {s : Shared} {y x : V} {u v : Value} (ry : RelV y u) (rx : RelV x v) (fy : flatV y = true) (fx : flatV x = true) : SeqAt.EqAt A s u v (eqV y x) := by
  cases y with
  | non =>
    cases ry
    cases x with
    | non => cases rx; exact SeqAt.EqAt.same _
    | bl b => cases rx; exact SeqAt.EqAt.none_bool b
    | int b => obtain ⟨t, rfl⟩ := rx; exact SeqAt.EqAt.none_int b t
    | str b => obtain ⟨t, rfl⟩ := rx; exact SeqAt.EqAt.none_str b t
    | _ => exact absurd (show false = true from fx) Bool.false_ne_true
  | bl a =>
    cases ry
    cases x with
    | non => cases rx; exact SeqAt.EqAt.bool_none a
    | bl b => cases rx; exact SeqAt.EqAt.bool_bool a b
    | int b => obtain ⟨t, rfl⟩ := rx; exact SeqAt.EqAt.bool_int a b t
    | str b => obtain ⟨t, rfl⟩ := rx; exact SeqAt.EqAt.bool_str a b t
    | _ => exact absurd (show false = true from fx) Bool.false_ne_true
  | int a =>
    obtain ⟨t', rfl⟩ := ry
    cases x with
    | non => cases rx; exact SeqAt.EqAt.int_none a t'
    | bl b => cases rx; exact SeqAt.EqAt.int_bool a t' b
    | int b => obtain ⟨t, rfl⟩ := rx; exact SeqAt.EqAt.int_int a t' b t
    | str b => obtain ⟨t, rfl⟩ := rx; exact SeqAt.EqAt.int_str a t' b t
    | _ => exact absurd (show false = true from fx) Bool.false_ne_true
  | str a =>
    obtain ⟨t', rfl⟩ := ry
    cases x with
    | non => cases rx; exact SeqAt.EqAt.str_none a t'
    | bl b => cases rx; exact SeqAt.EqAt.str_bool a t' b
    | int b => obtain ⟨t, rfl⟩ := rx; exact SeqAt.EqAt.str_int a t' b t
    | str b => obtain ⟨t, rfl⟩ := rx; exact SeqAt.EqAt.str_str a t' b t
    | _ => exact absurd (show false = true from fx) Bool.false_ne_true
  | _ => exact absurd (show false = true from fy) Bool.false_ne_true
def eqU (x : V) (u : Value) : Bool := match u with
  | .none => eqV .non x
  | .bool b => eqV (.bl b) x
  | .int i _ => eqV (.int i) x
  | .str z _ => eqV (.str z) x
  | _ => false
theorem eqU_of {x y : V} {u : Value} (r : RelV y u) (f : flatV y = true) : eqU x u = eqV y x := by
  cases y with
  | non => cases r; rfl
  | bl b => cases r; rfl
  | int i => obtain ⟨t, rfl⟩ := r; rfl
  | str z => obtain ⟨t, rfl⟩ := r; rfl
  | _ => exact absurd (show false = true from f) Bool.false_ne_true
theorem any_eqU {x : V} : ∀ {xs : List V} {us : List Value}, Vals xs us → xs.all flatV = true → us.any (eqU x) = xs.any fun y => eqV y x
  | _, _, .nil, _ => rfl
  | y :: xs, u :: us, .cons r t, f => by
    rw [List.all_cons, Bool.and_eq_true] at f
    rw [List.any_cons, List.any_cons, eqU_of r f.1, any_eqU t f.2]
theorem mem_eqAt {A : Around} {s : Shared} {x : V} {v : Value} (rx : RelV x v) (fx : flatV x = true) : ∀ {xs : List V} {us : List Value}, Vals xs us → xs.all flatV = true → ∀ u ∈ us, SeqAt.EqAt A s u v (eqU x u)
  | _, _, .nil, _ => fun u hu => by cases hu
  | y :: xs, u :: us, .cons r t, f => fun u' hu => by
    rw [List.all_cons, Bool.and_eq_true] at f
    rcases List.mem_cons.mp hu with rfl | hu
    · rw [eqU_of r f.1]; exact eqAt_V r rx f.1 fx
    · exact mem_eqAt rx fx t f.2 u' hu
def inV (x : V) (xs : List V) : Bool := xs.any fun y => eqV y x
def rIn (K : Frag) (neg : Bool) : R2 := fun x y H Q => ∃ p xs, y = .ref p ∧ (SqL K H p xs ∨ SqT K H p xs) ∧ flatV x = true ∧ xs.all flatV = true ∧ Q (.bl (if neg then !inV x xs else inV x xs)) H
theorem op_in_seq : OpR X (compareOp .In) (rIn X.K false) := by
  intro pins s σ H x y v u Q I rx ry h
  obtain ⟨p, xs, rfl, hq, fx, fs, q⟩ := h
  cases ry
  rcases hq with hq | hq
  · obtain ⟨its, r, pl, hz⟩ := I.list hq
    refine SeqAt.in_listAt (eqU x) pl.isList (fun w hw => mem_eqAt rx fx r fs w (by simpa using hw)) ⟨.bl _, H, I, rfl, ?_⟩
    rw [show its.toArray.any (eqU x) = its.any (eqU x) by simp, any_eqU r fs]
    exact q
  · obtain ⟨its, r, pl, hz⟩ := I.tuple hq
    refine SeqAt.in_tupleAt (eqU x) pl (fun w hw => mem_eqAt rx fx r fs w (by simpa using hw)) ⟨.bl _, H, I, rfl, ?_⟩
    rw [show its.toArray.any (eqU x) = its.any (eqU x) by simp, any_eqU r fs]
    exact q
theorem call_len_seq : CallR X (.builtin "len") (fun xs H Q => ∃ p ys, xs = [.ref p] ∧ (SqL X.K H p ys ∨ SqT X.K H p ys) ∧ Q (.int ys.length) H) := by
  intro pins s σ H xs us Q I r h
  obtain ⟨p, ys, rfl, hq, q⟩ := h
  obtain ⟨u, rfl, rx⟩ := vals1 r
  cases rx
  have hn := line63
  rcases hq with hq | hq
  · obtain ⟨its, r', pl, hz⟩ := I.list hq
    have hlen := r'.length
    exact Calls.call_len_list pl.isList (by simp only [List.size_toArray] <;> omega) ⟨.int ys.length, H, I.tok _, ⟨s.toks + 1, by rw [List.size_toArray, hlen]⟩, q⟩
  · obtain ⟨its, r', pl, hz⟩ := I.tuple hq
    have hlen := r'.length
    exact len_tuple pl (by simp only [List.size_toArray] <;> omega) ⟨.int ys.length, H, I.tok _, ⟨s.toks + 1, by rw [List.size_toArray, hlen]⟩, q⟩
theorem call_tuple_of : CallR X (.type "tuple") (fun xs H Q => ∃ p ys, xs = [.ref p] ∧ ((SqL X.K H p ys ∧ ∀ l, H l = none → Q (.ref l) (upd H l (.tup ys))) ∨ (SqT X.K H p ys ∧ Q (.ref p) H))) := by
  intro pins s σ H xs us Q I r h
  obtain ⟨p, ys, rfl, h⟩ := h
  obtain ⟨u, rfl, rx⟩ := vals1 r
  cases rx
  rcases h with ⟨hq, q⟩ | ⟨hq, q⟩
  · obtain ⟨its, r', pl, hz⟩ := I.list hq
    have hlen := r'.length
    refine call_tuple_list pl.isList (fun h' kp => ?_) (by simp only [List.size_toArray] <;> omega)
    have I1 : Inv X pins σ H { s with heap := h' } := I.kept (t' := s.toks) kp
    have I2 : Inv X pins σ (upd H h'.objs.size (.tup ys)) { s with heap := h'.push { cls := .type "tuple", data := .seq its.toArray } } :=
      I1.laid (t' := s.toks) (fun b o e => Heap.get?_push_of_some _ e) (Nat.le_refl _) (show ObjOk X.prog X.w _ _ _ (.tup ys) from ⟨hz, its, r', IsTup.new _ _⟩)
    exact ⟨.ref h'.objs.size, _, I2, rfl, q _ (I1.hok.fresh (Nat.le_refl _))⟩
  · obtain ⟨its, r', pl, hz⟩ := I.tuple hq
    exact call_tuple_same pl ⟨.ref p, H, I, rfl, q⟩
def tyV (K : Frag) (T : String) (x : V) (H : Hp) : Prop := match x with
  | .str _ => T = "str"
  | .int _ => T = "int"
  | .ref p => (T = "list" ∧ ∃ xs, SqL K H p xs) ∨ (T = "tuple" ∧ ∃ o, K.lookup p = some o ∧ o.cls = .type "tuple" ∧ o.dict = none) ∨
      (T = "dict" ∧ ((∃ kvs, H p = some (.dK kvs)) ∨ ∃ kvs, H p = some (.dT kvs))) ∨ (T = "set" ∧ ∃ S n, H p = some (.set S n))
  | _ => False
theorem tyV_is {pins : List (Addr × Obj)} {σ : St} {H : Hp} {s : Shared} {T : String} {x : V} {v : Value} (I : Inv X pins σ H s) (r : RelV x v) (ty : tyV X.K T x H) :
    s.TypeIs v T ∧ ∀ a, v = .ref a → ∃ ob, s.heap.get? a = some ob ∧ ob.dict = none := by
  cases x with
  | str z =>
    obtain ⟨t, rfl⟩ := r
    cases (show T = "str" from ty)
    exact ⟨typeIs_str s z t, fun _ e => nomatch e⟩
  | int i =>
    obtain ⟨t, rfl⟩ := r
    cases (show T = "int" from ty)
    exact ⟨typeIs_int s i t, fun _ e => nomatch e⟩
  | ref p =>
    cases r
    rcases ty with ⟨rfl, xs, hq⟩ | ⟨rfl, o, hk, hc, hd⟩ | ⟨rfl, hk⟩ | ⟨rfl, S, n, hk⟩
    · obtain ⟨its, _, pl, _⟩ := I.list hq
      refine ⟨pl.isList.typeIs, fun a e => ?_⟩
      cases e
      obtain ⟨o, n, e, c, hd, _⟩ := pl
      exact ⟨o, e, hd⟩
    · refine ⟨⟨o, I.kIn p o hk, hc⟩, fun a e => ?_⟩
      cases e
      exact ⟨o, I.kIn _ o hk, hd⟩
    · have z : ∃ o, s.heap.get? p = some o ∧ o.ExactDict := by
        rcases hk with ⟨kvs, hk⟩ | ⟨kvs, hk⟩
        · obtain ⟨_, _, _, _, o, _, _, e, ex, _⟩ := I.hok p _ hk
          exact ⟨o, e, ex⟩
        · obtain ⟨_, _, _, _, o, _, _, e, ex, _⟩ := I.hok p _ hk
          exact ⟨o, e, ex⟩
      obtain ⟨o, e, ex⟩ := z
      refine ⟨⟨o, e, ex.1⟩, fun a e2 => ?_⟩
      cases e2
      exact ⟨o, e, ex.2.1⟩
    · obtain ⟨o, _, _, _, e, ex, _⟩ := I.hok p _ hk
      refine ⟨⟨o, e, ex.1⟩, fun a e2 => ?_⟩
      cases e2
      exact ⟨o, e, ex.2.1⟩
  | _ => exact False.elim ty
def tBM0 (K : Frag) (T : String) (r : V → List V → Hp → VK → Prop) (to : TE) : TE := fun σ H Q => to σ H fun x H1 => tyV K T x H1 ∧ r x [] H1 Q
def tBM (K : Frag) (T : String) (r : V → List V → Hp → VK → Prop) (to : TE) (t : TA) : TE := fun σ H Q => to σ H fun x H1 => tyV K T x H1 ∧ t σ H1 fun xs H2 => r x xs H2 Q
variable {o e : Expr} {es : List Expr} {to : TE} {t : TA} {name : Str} {apos cpos : Pos} {T id : String} {r : V → List V → Hp → VK → Prop}
theorem pe_bm0 (pa : PlainAttrs T) (slot : Slot T name id) (hty : typeOf (.builtin id) = pure (.type "method_descriptor")) (hm : MtR X id r) (ho : PE X o to)
    (hbase : attributeBase o name X.env (eval o X.env) = eval o X.env := by rfl) (hline : (apos.endLine == cpos.line) = true := by rfl) : PE X (.Call (.Attribute o name apos) [] [] cpos) (tBM0 X.K T r to) := by
  intro pins s σ H Q I h
  refine wpAny_Call_method0_late hbase hline (thn (ho pins s σ H _ I h) fun v s1 ⟨x, H1, I1, r1, ty, q1⟩ => ?_)
  obtain ⟨h1, h2⟩ := tyV_is I1 r1 ty
  exact ⟨T, id, pa, slot, hty, h1, h2, Calls.callWith_builtin rfl (PySem.evalArgs_none (hm pins s1 σ H1 x [] v [] Q I1 r1 .nil q1))⟩
theorem pe_bm (pa : PlainAttrs T) (slot : Slot T name id) (hty : typeOf (.builtin id) = pure (.type "method_descriptor")) (hm : MtR X id r) (ho : PE X o to) (ha : PA X (e :: es) t)
    (hbase : attributeBase o name X.env (eval o X.env) = eval o X.env := by rfl)
    (hfew : ((backTo cpos (starEach (e :: es) X.env)).all (fun x => !x.1) && (backToKw cpos (keywordEach [] X.env)).all (fun x => x.1.isSome)
      && decide ((e :: es).length + ([] : List Keyword).length + (if ([] : List Keyword).isEmpty then 0 else 1) < 30)) = true := by rfl)
    (hline : (apos.endLine == cpos.line) = true := by rfl) (hs : starEach (e :: es) X.env = (false, eval e X.env) :: starEach es X.env := by rfl) (hplain : (backTo cpos (starEach es X.env)).any (·.1) = false := by rfl) :
    PE X (.Call (.Attribute o name apos) (e :: es) [] cpos) (tBM X.K T r to t) := by
  intro pins s σ H Q I h
  refine wpAny_Call_method_late hbase hfew hline rfl (thn (ho pins s σ H _ I h) fun v s1 ⟨x, H1, I1, r1, ty, q1⟩ => ?_)
  obtain ⟨h1, h2⟩ := tyV_is I1 r1 ty
  refine ⟨T, id, pa, slot, hty, h1, h2, ?_⟩
  have hA := ha cpos pins s1 σ H1 _ I1 q1
  rw [hs] at hA ⊢
  refine Calls.callWith_builtin (by show (false || (backTo cpos (starEach es X.env)).any (·.1)) = false; rw [hplain] <;> rfl) (Calls.evalArgs_plain ?_)
  exact thn hA fun us s2 ⟨vs, H2, I2, r2, q2⟩ => hm pins s2 σ H2 x vs v us Q I2 r1 r2 q2
end
end L2
namespace L2
open PySem PySem.Spec PyProof.Rows
def MtM (X : Cx) (id : String) (r : V → List V → Hp → VK → Prop) : Prop :=
  ∀ (pins : List (Addr × Obj)) (s : Shared) (σ : St) (H : Hp) (x : V) (xs : List V) (v : Value) (us : List Value) (Q : VK), Inv X pins σ H s → RelV x v → Vals xs us → r x xs H Q →
    wpAny (model X.prog X.w) X.A (call (.builtin id) (v :: us)) (EP X pins σ Q) X.xe s
theorem Vals.one : ∀ {x : V} {us : List Value}, Vals [x] us → ∃ u, us = [u] ∧ RelV x u
  | _, _, .cons r .nil => ⟨_, rfl, r⟩
theorem Vals.zero : ∀ {us : List Value}, Vals [] us → us = []
  | _, .nil => rfl
theorem Vals.dropLast {xs : List V} {us : List Value} (h : Vals xs us) : Vals xs.dropLast us.dropLast := by
  induction h with
  | nil => exact .nil
  | cons r t ih =>
    cases t with
    | nil => exact .nil
    | cons q t' => exact .cons r ih
theorem erase_last {α : Type} (l : List α) : l.eraseIdx (l.length - 1) = l.dropLast := by
  induction l with
  | nil => rfl
  | cons a r ih =>
    cases r with
    | nil => rfl
    | cons b r =>
      have e : (a :: b :: r).length - 1 = ((b :: r).length - 1) + 1 := by
        have h1 : (a :: b :: r).length = r.length + 2 := rfl
        have h2 : (b :: r).length = r.length + 1 := rfl
        omega
      rw [e, List.eraseIdx_cons_succ, ih]
      all_goals rfl
section
variable {X : Cx} {pins : List (Addr × Obj)} {σ : St} {H : Hp} {s : Shared} {l b : Addr} {xs ys zs : List V}
theorem Inv.lset {its its' : List Value} {n : Nat} {f : Array Value → Array Value} {t' : Nat} (I : Inv X pins σ H s) (hH : H l = some (.lst xs))
    (e : s.heap.get? l = some { cls := .type "list", data := .seq its.toArray n }) (hf : f its.toArray = its'.toArray) (hv : Vals ys its') (hz : ys.length ≤ sizeLine) :
    Inv X pins σ (upd H l (.lst ys)) { s with heap := s.heap.update l (Obj.mapSeq f), toks := t' } := by
  have q := PySem.IsL.update e f
  rw [hf] at q
  refine I.write (x := l) (e := l) (by rw [hH]; exact trivial) (.inl rfl) (fun b' u hb hu => (Heap.get?_update_other s.heap (Obj.mapSeq f) (Ne.symm hb)).trans hu) ⟨_, q⟩ ?_
  exact ⟨hz, its', _, hv, q⟩
theorem Inv.lnew {its : List Value} {t' : Nat} (I : Inv X pins σ H s) (hv : Vals ys its) (hz : ys.length ≤ sizeLine) :
    Inv X pins σ (upd H s.heap.objs.size (.lst ys)) { s with heap := s.heap.push { cls := .type "list", data := .seq its.toArray }, toks := t' } :=
  I.laid (fun _ _ q => Heap.get?_push_of_some _ q) (Nat.le_refl _) ⟨hz, its, 0, hv, Heap.get?_push_size _ rfl⟩
theorem Inv.fresh (I : Inv X pins σ H s) : H s.heap.objs.size = none := I.hok.fresh (Nat.le_refl _)
theorem Inv.lstM (I : Inv X pins σ H s) (hH : H l = some (.lst xs)) : xs.length ≤ sizeLine ∧ ∃ (its : List Value) (n : Nat), Vals xs its ∧ xs.length = its.length ∧ s.heap.get? l = some { cls := .type "list", data := .seq its.toArray n } := by
  obtain ⟨z, its, n, r, e⟩ := I.hok l _ hH
  exact ⟨z, its, n, r, r.length, e⟩
theorem notLongL {n : Nat} (h : n ≤ sizeLine) : Builtin.List.listTooLong n = false := by
  unfold Builtin.List.listTooLong
  exact decide_eq_false (by omega)
end
section
variable {X : Cx}
def rAppend : V → List V → Hp → VK → Prop := fun x vs H Q => ∃ l xs y, x = .ref l ∧ vs = [y] ∧ H l = some (.lst xs) ∧ xs.length < sizeLine ∧ Q .non (upd H l (.lst (xs ++ [y])))
theorem mt_append : MtM X "list.append" rAppend := by
  intro pins s σ H x vs v us Q I rx rv h
  obtain ⟨l, xs, y, rfl, rfl, hH, hz, q⟩ := h
  cases rx
  obtain ⟨u, rfl, ru⟩ := rv.one
  obtain ⟨z, its, n, r, hl, e⟩ := I.lstM hH
  refine call_meets F.slot_list_append ⟨_, e, rfl⟩ F.entry_list_append (F.args_list_append_2 _ _) (PySem.list_append l its.toArray n u (by rw [List.size_toArray]; omega)) ⟨e, ?_⟩
  refine ⟨.non, _, I.lset (its' := its ++ [u]) hH e (by simp) (r.append (.cons ru .nil)) ?_, rfl, q⟩
  rw [List.length_append, List.length_singleton]
  omega
def rExtend : V → List V → Hp → VK → Prop := fun x vs H Q => ∃ l b xs zs, x = .ref l ∧ vs = [.ref b] ∧ H l = some (.lst xs) ∧ H b = some (.lst zs) ∧ xs.length + zs.length ≤ sizeLine ∧ Q .non (upd H l (.lst (xs ++ zs)))
theorem mt_extend : MtM X "list.extend" rExtend := by
  intro pins s σ H x vs v us Q I rx rv h
  obtain ⟨l, b, xs, zs, rfl, rfl, hH, hB, hz, q⟩ := h
  cases rx
  obtain ⟨u, rfl, ru⟩ := rv.one
  cases ru
  obtain ⟨z, its, n, r, hl, e⟩ := I.lstM hH
  obtain ⟨z2, its2, n2, r2, hl2, e2⟩ := I.lstM hB
  have hsz : its.toArray.size + its2.toArray.size ≤ sizeLine := by rw [List.size_toArray, List.size_toArray]; omega
  have hlong : ¬ (!its.toArray.isEmpty && Builtin.List.listTooLong (its.toArray.size + its2.toArray.size)) = true := by
    rw [notLongL hsz, Bool.and_false]
    exact Bool.false_ne_true
  refine call_meets F.slot_list_extend ⟨_, e, rfl⟩ F.entry_list_extend (F.args_list_extend_2 _ _)
    (AutoSeq1.list_extend_list_list_0 l its.toArray n b its2.toArray n2 hlong (by rw [List.size_toArray]; omega) (by omega)) ⟨e, e2, ?_⟩
  refine ⟨.non, _, I.lset (its' := its ++ its2) hH e (by simp) (r.append r2) ?_, rfl, q⟩
  rw [List.length_append]
  omega
def rPop : V → List V → Hp → VK → Prop := fun x vs H Q => ∃ l xs y, x = .ref l ∧ vs = [] ∧ H l = some (.lst xs) ∧ xs[xs.length - 1]? = some y ∧ Q y (upd H l (.lst xs.dropLast))
theorem mt_pop : MtM X "list.pop" rPop := by
  intro pins s σ H x vs v us Q I rx rv h
  obtain ⟨l, xs, y, rfl, rfl, hH, hy, q⟩ := h
  cases rx
  have hus := rv.zero
  subst hus
  obtain ⟨z, its, n, r, hl, e⟩ := I.lstM hH
  obtain ⟨u, hu, ru⟩ := r.get hy
  have hy' : its.toArray[its.toArray.size - 1]? = some u := by
    show its.toArray[its.length - 1]? = some u
    rw [← Array.getElem?_toList, ← hl]
    exact hu
  refine call_meets F.slot_list_pop ⟨_, e, rfl⟩ F.entry_list_pop (F.args_list_pop_1 _) (MeetsSeq.list_pop_last l its.toArray n u hy' (by rw [List.size_toArray]; omega)) ⟨e, ?_⟩
  refine ⟨y, _, I.lset (its' := its.dropLast) hH e ?_ r.dropLast ?_, ru, q⟩
  · show its.toArray.eraseIdxIfInBounds (its.toArray.size - 1) = its.dropLast.toArray
    rw [List.size_toArray, List.eraseIdxIfInBounds_toArray, erase_last]
  · rw [List.length_dropLast]
    omega
def rCat : R2 := fun x y H Q => ∃ l b xs zs, x = .ref l ∧ y = .ref b ∧ H l = some (.lst xs) ∧ H b = some (.lst zs) ∧ xs.length + zs.length ≤ sizeLine ∧ ∀ p, H p = none → Q (.ref p) (upd H p (.lst (xs ++ zs)))
theorem op_cat : OpR X (binaryOp .Add) rCat := by
  intro pins s σ H x y v u Q I rx ry h
  obtain ⟨l, b, xs, zs, rfl, rfl, hH, hB, hz, q⟩ := h
  cases rx
  cases ry
  obtain ⟨z, its, n, r, hl, e⟩ := I.lstM hH
  obtain ⟨z2, its2, n2, r2, hl2, e2⟩ := I.lstM hB
  refine PySem.P.add_list e e2 ?_ (by rw [List.size_toArray, List.size_toArray]; omega)
  have ea : its.toArray ++ its2.toArray = (its ++ its2).toArray := by simp
  rw [ea]
  exact ⟨.ref _, _, I.lnew (t' := s.toks) (r.append r2) (by rw [List.length_append]; omega), rfl, q _ I.fresh⟩
end
section
variable {prog : Program} {w : World} {A : Around} {E : Value → Shared → Prop} {s : Shared}
set_option maxRecDepth 100000 in
end
section
variable {X : Cx}
end
end L2
namespace L2
open PySem PySem.Spec PyProof.Rows
theorem Vals.ints : ∀ {ns : List Int} {us : List Value}, Vals (ns.map V.int) us → IntsAre us ns
  | [], us, h => by
    rw [List.map_nil] at h
    cases h
    exact IntsAre.nil
  | n :: ns, us, h => by
    rw [List.map_cons] at h
    cases h with
    | cons r t =>
      obtain ⟨k, rfl⟩ := r
      exact IntsAre.cons n k (Vals.ints t)
theorem Vals.bls : ∀ {bs : List Bool} {us : List Value}, Vals (bs.map V.bl) us → us = bs.map Value.bool
  | [], us, h => by
    rw [List.map_nil] at h
    cases h
    rfl
  | b :: bs, us, h => by
    rw [List.map_cons] at h
    cases h with
    | cons r t =>
      cases r
      rw [Vals.bls t, List.map_cons]
theorem Vals.ref1 {a : Addr} {us : List Value} (r : Vals [V.ref a] us) : us = [Value.ref a] := by
  cases r with
  | cons r t =>
    cases t
    cases r
    rfl
section
variable {prog : Program} {w : World} {A : Around} {E : Value → Shared → Prop} {s : Shared} {l : Addr} {its : List Value} {ns : List Int} {Q : Value → Shared → Prop}
theorem sum_raw (hh : A.handled = none) (hl : s.heap.IsList l its.toArray) (hi : IntsAre its ns)
    (h : ∀ h' tk t', (∀ b o, s.heap.get? b = some o → h'.get? b = some o) → Q (.int ns.sum t') { s with heap := h', toks := tk }) : wpAny (model prog w) A (call (.builtin "sum") [.ref l]) Q E s := by
  obtain ⟨xs, e⟩ := hi.allInts.items
  have hn : numsOf (intItems xs).toList = ns := by rw [← e]; exact hi.numsOf
  rw [nums_intItems] at hn
  rw [e] at hl
  refine PySem.sum_intListG hh hl fun h' tk t' hk => ?_
  have := h h' tk t' hk
  rw [preSum_eq, List.take_of_length_le (by simp), hn]; exact this
theorem max_raw (hh : A.handled = none) (hl : s.heap.IsList l its.toArray) (hi : IntsAre its ns) (hne : 0 < ns.length)
    (h : ∀ h' tk M t', (∀ b o, s.heap.get? b = some o → h'.get? b = some o) → M ∈ ns → (∀ a, a ∈ ns → a ≤ M) → Q (.int M t') { s with heap := h', toks := tk }) : wpAny (model prog w) A (call (.builtin "max") [.ref l]) Q E s := by
  obtain ⟨xs, e⟩ := hi.allInts.items
  have hn : numsOf (intItems xs).toList = ns := by rw [← e]; exact hi.numsOf
  rw [nums_intItems] at hn
  subst hn
  rw [e] at hl
  have hsz : 0 < xs.size := by simpa using hne
  refine PySem.max_intList hh hl hsz fun v h' tk hv hk => ?_
  obtain ⟨t, rfl⟩ := intItems_at hv
  obtain ⟨h1, h2⟩ := argBest_gt (numAt xs) (xs.size - 1)
  refine h h' tk _ t hk ?_ fun a ha => ?_
  · rw [numAt_eq]; exact PySem.getD_mem (by rw [List.length_map, Array.length_toList]; omega)
  · obtain ⟨j, hj, rfl⟩ := mem_getD ha
    rw [List.length_map, Array.length_toList] at hj
    rw [← numAt_eq]; exact h2 j (by omega)
theorem min_raw (hh : A.handled = none) (hl : s.heap.IsList l its.toArray) (hi : IntsAre its ns) (hne : 0 < ns.length)
    (h : ∀ h' tk M t', (∀ b o, s.heap.get? b = some o → h'.get? b = some o) → M ∈ ns → (∀ a, a ∈ ns → M ≤ a) → Q (.int M t') { s with heap := h', toks := tk }) : wpAny (model prog w) A (call (.builtin "min") [.ref l]) Q E s := by
  obtain ⟨xs, e⟩ := hi.allInts.items
  have hn : numsOf (intItems xs).toList = ns := by rw [← e]; exact hi.numsOf
  rw [nums_intItems] at hn
  subst hn
  rw [e] at hl
  have hsz : 0 < xs.size := by simpa using hne
  refine PySem.min_intList hh hl hsz fun v h' tk hv hk => ?_
  obtain ⟨t, rfl⟩ := intItems_at hv
  obtain ⟨h1, h2⟩ := argBest_lt (numAt xs) (xs.size - 1)
  refine h h' tk _ t hk ?_ fun a ha => ?_
  · rw [numAt_eq]; exact PySem.getD_mem (by rw [List.length_map, Array.length_toList]; omega)
  · obtain ⟨j, hj, rfl⟩ := mem_getD ha
    rw [List.length_map, Array.length_toList] at hj
    rw [← numAt_eq]; exact h2 j (by omega)
end
section
variable {X : Cx}
def rSum (K : Frag) : List V → Hp → VK → Prop := fun vs H Q => ∃ (a : Addr) (ns : List Int), vs = [V.ref a] ∧ SqL K H a (ns.map V.int) ∧ Q (.int ns.sum) H
def rMax (K : Frag) : List V → Hp → VK → Prop := fun vs H Q => ∃ (a : Addr) (ns : List Int), vs = [V.ref a] ∧ SqL K H a (ns.map V.int) ∧ 0 < ns.length ∧ ∀ m, m ∈ ns → (∀ y, y ∈ ns → y ≤ m) → Q (.int m) H
def rMin (K : Frag) : List V → Hp → VK → Prop := fun vs H Q => ∃ (a : Addr) (ns : List Int), vs = [V.ref a] ∧ SqL K H a (ns.map V.int) ∧ 0 < ns.length ∧ ∀ m, m ∈ ns → (∀ y, y ∈ ns → m ≤ y) → Q (.int m) H
theorem cr_sum (hc : X.calm = true) : CallR X (.builtin "sum") (rSum X.K) := by
  intro pins s σ H vs us Q I r h
  obtain ⟨a, ns, rfl, hs, q⟩ := h
  obtain ⟨its, rv, hl, _⟩ := I.list hs
  rw [Vals.ref1 r]
  exact sum_raw (I.ok.hd hc) hl.isList rv.ints fun h' tk t' hk => ⟨.int _, H, I.kept hk, ⟨_, rfl⟩, q⟩
theorem cr_max (hc : X.calm = true) : CallR X (.builtin "max") (rMax X.K) := by
  intro pins s σ H vs us Q I r h
  obtain ⟨a, ns, rfl, hs, hne, q⟩ := h
  obtain ⟨its, rv, hl, _⟩ := I.list hs
  rw [Vals.ref1 r]
  exact max_raw (I.ok.hd hc) hl.isList rv.ints hne fun h' tk m t' hk h1 h2 => ⟨.int _, H, I.kept hk, ⟨_, rfl⟩, q m h1 h2⟩
theorem cr_min (hc : X.calm = true) : CallR X (.builtin "min") (rMin X.K) := by
  intro pins s σ H vs us Q I r h
  obtain ⟨a, ns, rfl, hs, hne, q⟩ := h
  obtain ⟨its, rv, hl, _⟩ := I.list hs
  rw [Vals.ref1 r]
  exact min_raw (I.ok.hd hc) hl.isList rv.ints hne fun h' tk m t' hk h1 h2 => ⟨.int _, H, I.kept hk, ⟨_, rfl⟩, q m h1 h2⟩
end
section
variable {X : Cx}
def rIndex (K : Frag) : V → List V → Hp → VK → Prop := fun x xs H Q => ∃ (a : Addr) (ys : List V) (y : V) (j : Nat) (z : V), x = V.ref a ∧ xs = [y] ∧ SqL K H a ys ∧ flatV y = true ∧ ys.all flatV = true ∧ ys[j]? = some z ∧ eqV z y = true ∧
  (∀ (m : Nat) (z' : V), m < j → ys[m]? = some z' → eqV z' y = false) ∧ Q (.int (j : Nat)) H
theorem flat_at {ys : List V} (f : ys.all flatV = true) {j : Nat} {z : V} (h : ys[j]? = some z) : flatV z = true := List.all_eq_true.mp f z (List.mem_of_getElem? h)
theorem mt_index : MtR X "list.index" (rIndex X.K) := by
  intro pins s σ H x xs v us Q I rx rxs h
  obtain ⟨a, ys, y, j, z, rfl, rfl, hs, fy, fys, hz, hzj, hno, q⟩ := h
  cases rx
  cases rxs with
  | cons ry rt =>
    rename_i uy ut
    cases rt
    obtain ⟨its, rv, ⟨⟨cls, dd, data, sl⟩, n, ho, hc, hdn, hd⟩, hlen⟩ := I.list hs
    simp only at hc hd
    subst hc hd
    obtain ⟨u, hu, ru⟩ := rv.get hz
    obtain ⟨hjl, hje⟩ := List.getElem?_eq_some_iff.mp hu
    have hvl := rv.length
    have hj : j < its.toArray.size := by simpa using hjl
    have hsl := sizeLine_eq
    refine call_meets PySem.F.slot_list_index ⟨_, ho, rfl⟩ PySem.F.entry_list_index (PySem.F.args_list_index_2 _ _)
      (SeqAt.list_indexAt a its.toArray n dd sl uy (eqU y) j hj (by omega) ?_ ?_) ⟨ho, fun u' hu' => mem_eqAt ry fy rv fys u' (by simpa using hu'), ?_⟩
    · have e1 : its.toArray[j] = u := by simpa using hje
      rw [e1, eqU_of ru (flat_at fys hz)]
      exact hzj
    · intro m hm hmj
      have hml : m < its.length := by simpa using hm
      have hmy : m < ys.length := by omega
      have hy' : ys[m]? = some ys[m] := List.getElem?_eq_getElem hmy
      obtain ⟨u2, hu2, ru2⟩ := rv.get hy'
      obtain ⟨_, hme⟩ := List.getElem?_eq_some_iff.mp hu2
      have e1 : its.toArray[m] = u2 := by simpa using hme
      rw [e1, eqU_of ru2 (flat_at fys hy')]
      exact hno m _ hmj hy'
    · exact ⟨.int (j : Nat), H, I.tok _, ⟨_, rfl⟩, q⟩
end
section
variable {X : Cx}
end
theorem iter_any {prog : Program} {w : World} {A : Around} {E : Value → Shared → Prop} {s : Shared} {l : Addr} {items : Array Value} {Q : Value → Shared → Prop} (hl : s.heap.IsList l items)
    (h : ∀ s₂ : Shared, s₂ = { s with heap := s.heap.push { cls := .type "list_iterator", data := .fields #[.ref l, .int 0 0] } } →
      (s₂.heap.IsListIter s.heap.objs.size l 0 ∧ s₂.heap.IsList l items) → l ≠ s.heap.objs.size → Q (.ref s.heap.objs.size) s₂) : wpAny (model prog w) A (pyIter (.ref l)) Q E s := by
  have hlt : l < s.heap.objs.size := by obtain ⟨_, e, _⟩ := hl; exact Heap.lt_size e
  exact wpAny_pyIter_list hl (h _ rfl ⟨⟨_, Heap.get?_push_size _ rfl, rfl, rfl⟩, hl.push _⟩ (Nat.ne_of_lt hlt))
theorem truth_bools {prog : Program} {w : World} {A : Around} {bs : List Bool} {its : List Value} (e : its = bs.map Value.bool) :
    TruthOf prog w A (fun i v => its.toArray[i]? = some v) (fun i => bs.getD i false) := fun i v s Q E hv hq => by
  have hv' : its[i]? = some v := by simpa using hv
  rw [e, List.getElem?_map] at hv'
  obtain ⟨b, hb, rfl⟩ := Option.map_eq_some_iff.mp hv'
  have hg : bs.getD i false = b := by rw [List.getD_eq_getElem?_getD, hb] <;> rfl
  have hq' : Q (bs.getD i false) s := hq
  rw [hg] at hq'
  exact wpAny_truthy_bool hq'
theorem any_range : ∀ bs : List Bool, (List.range bs.length).any (fun i => bs.getD i false) = bs.any id
  | [] => rfl
  | b :: bs => by
    rw [List.length_cons, List.range_succ_eq_map, List.any_cons, List.any_map, List.any_cons, ← any_range bs]
    all_goals rfl
theorem all_range : ∀ bs : List Bool, (List.range bs.length).all (fun i => bs.getD i false) = bs.all id
  | [] => rfl
  | b :: bs => by
    rw [List.length_cons, List.range_succ_eq_map, List.all_cons, List.all_map, List.all_cons, ← all_range bs]
    all_goals rfl
section
variable {X : Cx}
def rAny (K : Frag) : List V → Hp → VK → Prop := fun vs H Q => ∃ (a : Addr) (bs : List Bool), vs = [V.ref a] ∧ SqL K H a (bs.map V.bl) ∧ Q (.bl (bs.any id)) H
def rAll (K : Frag) : List V → Hp → VK → Prop := fun vs H Q => ∃ (a : Addr) (bs : List Bool), vs = [V.ref a] ∧ SqL K H a (bs.map V.bl) ∧ Q (.bl (bs.all id)) H
theorem cr_any (hc : X.calm = true) : CallR X (.builtin "any") (rAny X.K) := by
  intro pins s σ H vs us Q I r h
  obtain ⟨a, bs, rfl, hs, q⟩ := h
  obtain ⟨its, rv, hl, _⟩ := I.list hs
  rw [Vals.ref1 r]
  have hb := rv.bls
  refine call_any_walk (iter_any hl.isList fun s₂ e2 st hne => ?_)
  subst e2
  refine ⟨_, _, _, _, _, _, _, rfl, Walks.list (A := X.A.in1) (I.ok.hd hc) _ a hne its.toArray, st, truth_bools hb, fun h' tk hk => ?_⟩
  refine ⟨.bl _, H, I.kept fun b o eo => hk b o (fun hmem => ?_) (Heap.get?_push_of_some _ eo), ?_, q⟩
  · rcases List.mem_cons.mp hmem with e1 | hmem
    · exact absurd (e1 ▸ Heap.lt_size eo) (Nat.lt_irrefl _)
    · cases hmem
  · show Value.bool _ = Value.bool _
    rw [← any_range, hb, List.size_toArray, List.length_map]
theorem cr_all (hc : X.calm = true) : CallR X (.builtin "all") (rAll X.K) := by
  intro pins s σ H vs us Q I r h
  obtain ⟨a, bs, rfl, hs, q⟩ := h
  obtain ⟨its, rv, hl, _⟩ := I.list hs
  rw [Vals.ref1 r]
  have hb := rv.bls
  refine call_all_walk (iter_any hl.isList fun s₂ e2 st hne => ?_)
  subst e2
  refine ⟨_, _, _, _, _, _, _, rfl, Walks.list (A := X.A.in1) (I.ok.hd hc) _ a hne its.toArray, st, truth_bools hb, fun h' tk hk => ?_⟩
  refine ⟨.bl _, H, I.kept fun b o eo => hk b o (fun hmem => ?_) (Heap.get?_push_of_some _ eo), ?_, q⟩
  · rcases List.mem_cons.mp hmem with e1 | hmem
    · exact absurd (e1 ▸ Heap.lt_size eo) (Nat.lt_irrefl _)
    · cases hmem
  · show Value.bool _ = Value.bool _
    rw [← all_range, hb, List.size_toArray, List.length_map]
end
mutual
inductive Dp (K : Frag) (H : Hp) : V → PyData → Prop
  | non : Dp K H .non .none
  | bl (b : Bool) : Dp K H (.bl b) (.bool b)
  | int (i : Int) : Dp K H (.int i) (.int i)
  | str (x : Str) : Dp K H (.str x) (.str x)
  | lst {a : Addr} {xs : List V} {ds : List PyData} : SqL K H a xs → DpAll K H xs ds → Dp K H (.ref a) (.list ds)
  | tup {a : Addr} {xs : List V} {ds : List PyData} : SqT K H a xs → DpAll K H xs ds → Dp K H (.ref a) (.tuple ds)
inductive DpAll (K : Frag) (H : Hp) : List V → List PyData → Prop
  | nil : DpAll K H [] []
  | cons {v : V} {vs : List V} {d : PyData} {ds : List PyData} : Dp K H v d → DpAll K H vs ds → DpAll K H (v :: vs) (d :: ds)
end
section
variable {X : Cx} {pins : List (Addr × Obj)} {σ : St} {H : Hp} {s : Shared}
mutual
theorem Dp.reads (I : Inv X pins σ H s) : ∀ (d : PyData) (v : V) (u : Value), Dp X.K H v d → RelV v u → ∃ as, Reads s.heap u d as
  | .none, _, _, h, r => by
    cases h
    cases r
    exact ⟨_, Reads.none⟩
  | .bool b, _, _, h, r => by
    cases h
    cases r
    exact ⟨_, Reads.bool b⟩
  | .int i, _, _, h, r => by
    cases h
    obtain ⟨t, rfl⟩ := r
    exact ⟨_, Reads.int i t⟩
  | .str x, _, _, h, r => by
    cases h
    obtain ⟨t, rfl⟩ := r
    exact ⟨_, Reads.str x t⟩
  | .list ds, _, _, h, r => by
    cases h with
    | lst hs ha =>
      cases r
      obtain ⟨its, rv, ⟨o, n, ho, hc, _, hd⟩, _⟩ := I.list hs
      obtain ⟨as, hr⟩ := Dp.readsAll I ds _ its ha rv
      exact ⟨_, Reads.list ho hc hd hr⟩
  | .tuple ds, _, _, h, r => by
    cases h with
    | tup hs ha =>
      cases r
      obtain ⟨its, rv, ⟨o, ho, hc, n, hd⟩, _⟩ := I.tuple hs
      obtain ⟨as, hr⟩ := Dp.readsAll I ds _ its ha rv
      exact ⟨_, Reads.tuple ho hc hd hr⟩
  | .dict _, _, _, h, _ => by cases h
theorem Dp.readsAll (I : Inv X pins σ H s) : ∀ (ds : List PyData) (vs : List V) (us : List Value), DpAll X.K H vs ds → Vals vs us → ∃ as, ReadsAll s.heap us ds as
  | [], _, _, h, r => by
    cases h
    cases r
    exact ⟨_, ReadsAll.nil⟩
  | d :: ds, _, _, h, r => by
    cases h with
    | cons h1 h2 =>
      cases r with
      | cons r1 r2 =>
        obtain ⟨as, q1⟩ := Dp.reads I d _ _ h1 r1
        obtain ⟨bs, q2⟩ := Dp.readsAll I ds _ _ h2 r2
        exact ⟨_, ReadsAll.cons q1 q2⟩
end
end
section
variable {X : Cx}
def rNeD (K : Frag) : R2 := fun x y H Q => ∃ d e, Dp K H x d ∧ Dp K H y e ∧ SeqAt.shaped d = true ∧ SeqAt.shaped e = true ∧ Q (.bl (!PyData.eqv d e)) H
theorem op_neD (hu : X.A.units + 64 < cLine) : OpR X (compareOp .NotEq) (rNeD X.K) := by
  intro pins s σ H x y v u Q I rx ry h
  obtain ⟨d, e, hd, he, sd, se, q⟩ := h
  obtain ⟨as, r1⟩ := Dp.reads I d x v hd rx
  obtain ⟨bs, r2⟩ := Dp.reads I e y u he ry
  exact SeqAt.compareNe_shaped r1 r2 sd se hu ⟨.bl _, H, I, rfl, q⟩
end
end L2
namespace L2
open PySem PySem.Spec PyProof.Rows
abbrev CellAt (h : Heap) (c : Addr) (v : Option Value) : Prop := h.IsCell c v
def relS (scope sc : Scope) : Scope :=
  { scope with names := scope.names.map fun (n, k) => if (k == .free && sc.kind == .function && sc.names.lookup n == some .cell) then (n, .cell) else (n, k) }
def cloFrom (cells : List (Str × Addr)) : List (Str × NameKind) → List (Str × Addr) → List (Str × Addr)
  | [], acc => acc
  | (n, k) :: r, acc => if k == .free then cloFrom cells r ((n, (cells.lookup n).getD 0) :: acc) else cloFrom cells r acc
theorem closure_loop (env : Env) (f : Str × NameKind → List (Str × Addr) → Sem (ForInStep (List (Str × Addr))))
    (hf : ∀ n k c, f (n, k) c = if k == .free then (do let a ← cellOf env n; pure (.yield ((n, a) :: c))) else pure (.yield c)) :
    ∀ (names : List (Str × NameKind)) (acc : List (Str × Addr)), (∀ y ∈ names, y.2 = .free → ∃ c, env.cells.lookup y.1 = some c) → forIn names acc f = pure (cloFrom env.cells names acc)
  | [], acc, _ => by rw [List.forIn_nil]; rfl
  | (n, k) :: r, acc, h => by
    rw [List.forIn_cons, hf]
    have ih := fun acc => closure_loop env f hf r acc fun y hy => h y (List.mem_cons_of_mem _ hy)
    unfold cloFrom
    by_cases hk : (k == NameKind.free) = true
    · rw [if_pos hk, if_pos hk]
      obtain ⟨c, hc⟩ := h (n, k) List.mem_cons_self (by simpa using hk)
      have e : cellOf env n = pure c := by unfold cellOf; rw [hc]
      rw [e]
      have e2 : (env.cells.lookup n).getD 0 = c := by rw [hc]; rfl
      rw [e2]
      exact ih _
    · rw [if_neg hk, if_neg hk]
      exact ih _
theorem closure_ok {scope : Scope} {env : Env} (h : ∀ y ∈ scope.names, y.2 = .free → ∃ c, env.cells.lookup y.1 = some c) : closureFor scope env = pure (cloFrom env.cells scope.names []) := by
  simp only [closureFor]
  rw [closure_loop env _ (fun n k c => rfl) scope.names [] h]
  rfl
theorem mem_lookup {α : Type} : ∀ {l : List (Str × α)} {n : Str} {c : α}, (n, c) ∈ l → ∃ c', l.lookup n = some c'
  | (k, v) :: r, n, c, h => by
    rw [List.lookup_cons]
    cases hb : n == k with
    | true => exact ⟨_, rfl⟩
    | false =>
      rcases List.mem_cons.mp h with e | h
      · cases e; simp at hb
      · exact mem_lookup h
theorem cloFrom_mem {cells : List (Str × Addr)} : ∀ {names : List (Str × NameKind)} {acc : List (Str × Addr)} {n : Str} {c : Addr}, (n, c) ∈ cloFrom cells names acc → (n, c) ∈ acc ∨ ((n, .free) ∈ names ∧ c = (cells.lookup n).getD 0)
  | [], _, _, _, h => .inl h
  | (m, k) :: r, acc, n, c, h => by
    unfold cloFrom at h
    split at h
    · rename_i hk
      have hk : k = .free := by simpa using hk
      rcases cloFrom_mem h with h | ⟨h1, h2⟩
      · rcases List.mem_cons.mp h with e | h
        · cases e; exact .inr ⟨hk ▸ List.mem_cons_self, rfl⟩
        · exact .inl h
      · exact .inr ⟨List.mem_cons_of_mem _ h1, h2⟩
    · rcases cloFrom_mem h with h | ⟨h1, h2⟩
      · exact .inl h
      · exact .inr ⟨List.mem_cons_of_mem _ h1, h2⟩
theorem cloFrom_acc {cells : List (Str × Addr)} : ∀ {names : List (Str × NameKind)} {acc : List (Str × Addr)} {p : Str × Addr}, p ∈ acc → p ∈ cloFrom cells names acc
  | [], _, _, h => h
  | (m, k) :: r, acc, p, h => by
    unfold cloFrom
    split
    · exact cloFrom_acc (List.mem_cons_of_mem _ h)
    · exact cloFrom_acc h
theorem cloFrom_has {cells : List (Str × Addr)} : ∀ {names : List (Str × NameKind)} {acc : List (Str × Addr)} {n : Str}, (n, .free) ∈ names → (n, (cells.lookup n).getD 0) ∈ cloFrom cells names acc
  | (m, k) :: r, acc, n, h => by
    unfold cloFrom
    rcases List.mem_cons.mp h with e | h
    · cases e
      exact cloFrom_acc List.mem_cons_self
    · split
      · exact cloFrom_has h
      · exact cloFrom_has h
theorem cells_mem : ∀ {names : List (Str × NameKind)} {h : Heap} {acc : List (Str × Addr)} {x : Str} {c : Addr}, (x, c) ∈ cellsFrom h.objs.size names acc →
    (x, c) ∈ acc ∨ ((x, .cell) ∈ names ∧ h.objs.size ≤ c ∧ CellAt (pushCells h names) c none)
  | [], _, _, _, _, h => .inl h
  | (n, k) :: r, h, acc, x, c, hm => by
    unfold cellsFrom at hm
    unfold pushCells
    split at hm
    · rename_i hk
      rw [if_pos hk]
      have hk : k = .cell := by simpa using hk
      rw [← Heap.size_push h { cls := .type "cell", data := .cell none }] at hm
      rcases cells_mem hm with hm | ⟨h1, h2, h3⟩
      · rcases List.mem_cons.mp hm with e | hm
        · cases e
          exact .inr ⟨hk ▸ List.mem_cons_self, Nat.le_refl _, _, pushCells_keeps r _ _ _ (Heap.get?_push_size _ rfl), rfl⟩
        · exact .inl hm
      · rw [Heap.size_push] at h2
        exact .inr ⟨List.mem_cons_of_mem _ h1, Nat.le_of_succ_le h2, h3⟩
    · rename_i hk
      rw [if_neg hk]
      rcases cells_mem hm with hm | ⟨h1, h2, h3⟩
      · exact .inl hm
      · exact .inr ⟨List.mem_cons_of_mem _ h1, h2, h3⟩
theorem cells_acc : ∀ {names : List (Str × NameKind)} {n : Nat} {acc : List (Str × Addr)} {p : Str × Addr}, p ∈ acc → p ∈ cellsFrom n names acc
  | [], _, _, _, h => h
  | (m, k) :: r, n, acc, p, h => by
    unfold cellsFrom
    split
    · exact cells_acc (List.mem_cons_of_mem _ h)
    · exact cells_acc h
theorem cells_has : ∀ {names : List (Str × NameKind)} {n : Nat} {acc : List (Str × Addr)} {x : Str}, (x, .cell) ∈ names → ∃ c, (x, c) ∈ cellsFrom n names acc
  | (m, k) :: r, n, acc, x, h => by
    unfold cellsFrom
    rcases List.mem_cons.mp h with e | h
    · cases e
      exact ⟨n, cells_acc List.mem_cons_self⟩
    · split
      · exact cells_has h
      · exact cells_has h
theorem cells_inj : ∀ {names : List (Str × NameKind)} {h : Heap} {acc : List (Str × Addr)} {x y : Str} {c : Addr}, (∀ p ∈ acc, p.2 < h.objs.size) → (∀ x y c, (x, c) ∈ acc → (y, c) ∈ acc → x = y) →
    (x, c) ∈ cellsFrom h.objs.size names acc → (y, c) ∈ cellsFrom h.objs.size names acc → x = y
  | [], _, _, _, _, _, _, hi, h1, h2 => hi _ _ _ h1 h2
  | (n, k) :: r, h, acc, x, y, c, hl, hi, h1, h2 => by
    unfold cellsFrom at h1 h2
    split at h1
    · rename_i hk
      rw [if_pos hk] at h2
      rw [← Heap.size_push h { cls := .type "cell", data := .cell none }] at h1 h2
      refine cells_inj (h := h.push _) (fun p hp => ?_) (fun x y c a b => ?_) h1 h2
      · rw [Heap.size_push]
        rcases List.mem_cons.mp hp with rfl | hp
        · exact Nat.lt_succ_self _
        · exact Nat.lt_succ_of_lt (hl p hp)
      · rcases List.mem_cons.mp a with e | a <;> rcases List.mem_cons.mp b with e' | b
        · cases e; cases e'; rfl
        · cases e; exact absurd (hl _ b) (Nat.lt_irrefl _)
        · cases e'; exact absurd (hl _ a) (Nat.lt_irrefl _)
        · exact hi _ _ _ a b
    · rename_i hk
      rw [if_neg hk] at h2
      exact cells_inj hl hi h1 h2
theorem newEnv_comp {M : Model} {A : Around} {E : Value → Shared → Prop} {s : Shared} {scope : Scope} {globals : Addr} {closure : List (Str × Addr)} {qual : Str} {func : Option Addr} {code : Value} {around : Env} {builtins : Addr} {Q : Env → Shared → Prop}
    (h : Q (newEnv scope s.heap.objs.size globals (cellsFrom (s.heap.objs.size + 1) scope.names closure) qual func code (some around) builtins)
      { s with heap := pushCells (s.heap.push { cls := .type "dict", data := .dict #[] }) scope.names }) :
    wpAny M A (newFunctionEnv scope globals closure [] qual func code (some around) builtins) Q E s := by
  simp only [newFunctionEnv, Option.isSome_some, if_true]
  refine wpAny_bind (wpAny_alloc ?_)
  refine wpAny_bind (wpAny_layCells _ (fun n k c => rfl) scope.names closure _ _ ?_)
  rw [show ({ s with heap := s.heap.push { cls := .type "dict", data := .dict #[] } } : Shared).heap.objs.size = s.heap.objs.size + 1 from Heap.size_push ..]
  rw [List.forIn_nil]
  exact wpAny_bind (wpAny_pure (wpAny_pure h))
theorem lookup_relS {sc : Scope} : ∀ {names : List (Str × NameKind)} {x : Str} {k : NameKind},
    (names.map fun (n, k) => if (k == NameKind.free && sc.kind == .function && sc.names.lookup n == some .cell) then (n, NameKind.cell) else (n, k)).lookup x = some k →
    ∃ k', names.lookup x = some k' ∧ (k = k' ∨ (k' = .free ∧ k = .cell))
  | [], _, _, h => by simp at h
  | (n, k₀) :: r, x, k, h => by
    have ih := @lookup_relS sc r x k
    have h' : List.lookup x ((if (k₀ == NameKind.free && sc.kind == .function && sc.names.lookup n == some .cell) = true then (n, NameKind.cell) else (n, k₀)) :: (r.map _)) = some k := h
    cases hx : x == n with
    | true =>
      simp only [List.lookup_cons, hx]
      by_cases hc : (k₀ == NameKind.free && sc.kind == .function && sc.names.lookup n == some .cell) = true
      · rw [if_pos hc] at h'
        simp only [List.lookup_cons, hx] at h'
        cases h'
        simp only [Bool.and_eq_true, beq_iff_eq] at hc
        exact ⟨k₀, rfl, .inr ⟨hc.1.1, rfl⟩⟩
      · rw [if_neg hc] at h'
        simp only [List.lookup_cons, hx] at h'
        cases h'
        exact ⟨_, rfl, .inl rfl⟩
    | false =>
      simp only [List.lookup_cons, hx]
      by_cases hc : (k₀ == NameKind.free && sc.kind == .function && sc.names.lookup n == some .cell) = true
      · rw [if_pos hc] at h'
        simp only [List.lookup_cons, hx] at h'
        exact ih h'
      · rw [if_neg hc] at h'
        simp only [List.lookup_cons, hx] at h'
        exact ih h'
structure BlkOk (N : List Str) (sc scope : Scope) (own : List (Str × Nat)) : Prop where
  kind : scope.kind = .function
  uniq : ∀ y ∈ scope.names, scope.names.lookup y.1 = some y.2
  ix : ∀ p ∈ own, N[p.2]? = some p.1
  free : ∀ y ∈ scope.names, y.2 = .free → sc.names.lookup y.1 = some .cell ∨ sc.names.lookup y.1 = some .free
  own : ∀ y ∈ scope.names, y.2 = .local ∨ y.2 = .cell → y.1 ∈ own.map (·.1) ∨ y.1 ∉ N
def wipe (σ : St) : List Nat → St
  | [] => σ
  | v :: vs => (wipe σ vs).set v none
theorem wipe_length (σ : St) : ∀ vs : List Nat, (wipe σ vs).length = σ.length
  | [] => rfl
  | v :: vs => by unfold wipe; rw [List.length_set, wipe_length σ vs]
theorem wipe_some {σ : St} {i : Nat} {x : V} : ∀ {vs : List Nat}, (wipe σ vs)[i]? = some (some x) → σ[i]? = some (some x) ∧ i ∉ vs
  | [], h => ⟨h, by simp⟩
  | v :: vs, h => by
    unfold wipe at h
    by_cases hi : v = i
    · subst hi
      by_cases hv : v < (wipe σ vs).length
      · rw [List.getElem?_set_self hv] at h; cases h
      · rw [List.getElem?_eq_none (by simpa using hv)] at h; cases h
    · rw [List.getElem?_set_ne hi] at h
      obtain ⟨h1, h2⟩ := wipe_some h
      exact ⟨h1, by simp only [List.mem_cons, not_or]; exact ⟨fun e => hi e.symm, h2⟩⟩
abbrev Cx.blk (X : Cx) (s : Shared) (H : Hp) (scope : Scope) (cenv : Env) (fp : List Addr) : Cx := { X with s_0 := s, H_0 := H, env := cenv, outer := X.stack, ex := fp, fn := fun x => scope.names.lookup x == some .cell, pn := [], xe := fun _ _ => False }
section
variable {X : Cx} {pins : List (Addr × Obj)} {σ : St} {H : Hp} {s : Shared}
theorem block_start {scope : Scope} {own : List (Str × Nat)} {fp : List Addr} (I : Inv X pins σ H s) (ok : BlkOk X.N X.env.scope scope own) (hN : X.N.Nodup) (hfp : ∀ b ∈ fp, FpOk X pins H b ∧ b < s.heap.objs.size) :
    Inv (X.blk s H scope (compEnvC scope (cellsFrom (s.heap.objs.size + 1) scope.names (cloFrom X.env.cells scope.names [])) s.heap.objs.size X.env) fp) [] (wipe σ (own.map (·.2))) H { s with heap := pushCells (s.heap.push { cls := .type "dict", data := .dict #[] }) scope.names } := by
  have hfree : ∀ y ∈ scope.names, y.2 = .free → ∃ c, X.env.cells.lookup y.1 = some c := fun y hy e => by
    rcases ok.free y hy e with k | k
    · exact I.ok.has _ (.inl k)
    · exact I.ok.has _ (.inr k)
  generalize hcenv : compEnvC scope (cellsFrom (s.heap.objs.size + 1) scope.names (cloFrom X.env.cells scope.names [])) s.heap.objs.size X.env = cenv
  have kp : ∀ b o, s.heap.get? b = some o → (pushCells (s.heap.push { cls := .type "dict", data := .dict #[] }) scope.names).get? b = some o := fun b o e => pushCells_keeps _ _ _ _ (Heap.get?_push_of_some _ e)
  have hL : cenv.locals = s.heap.objs.size := by rw [← hcenv]; rfl
  have hcl : cenv.cells = cellsFrom (s.heap.objs.size + 1) scope.names (cloFrom X.env.cells scope.names []) := by rw [← hcenv]; rfl
  have hsc : cenv.scope = relS scope X.env.scope := by rw [← hcenv]; rfl
  rw [← Heap.size_push s.heap { cls := .type "dict", data := .dict #[] }] at hcl
  have cm : ∀ {y c}, (y, c) ∈ cloFrom X.env.cells scope.names [] → X.env.cells.lookup y = some c ∧ c < s.heap.objs.size := fun {y c} hm => by
    rcases cloFrom_mem hm with hm | ⟨h1, rfl⟩
    · cases hm
    · obtain ⟨c, hc⟩ := hfree _ h1 rfl
      rw [hc]
      obtain ⟨w, z⟩ := I.cell _ _ hc
      exact ⟨rfl, z.lt⟩
  have mem : ∀ {y c}, cenv.cells.lookup y = some c → (X.env.cells.lookup y = some c ∧ c < s.heap.objs.size) ∨ (s.heap.objs.size + 1 ≤ c ∧ CellAt (pushCells (s.heap.push { cls := .type "dict", data := .dict #[] }) scope.names) c none) := fun {y c} e => by
    rw [hcl] at e
    rcases cells_mem (PySem.mem_of_lookup e) with hm | ⟨_, h2, h3⟩
    · exact .inl (cm hm)
    · rw [Heap.size_push] at h2; exact .inr ⟨h2, h3⟩
  have look : ∀ {y}, scope.names.lookup y = some .free → ∃ c, cenv.cells.lookup y = some c ∧ X.env.cells.lookup y = some c := fun {y} hl => by
    have hy : (y, NameKind.free) ∈ scope.names := PySem.mem_of_lookup hl
    obtain ⟨c', e'⟩ := mem_lookup (cells_acc (names := scope.names) (n := (s.heap.push { cls := .type "dict", data := .dict #[] }).objs.size) (cloFrom_has (cells := X.env.cells) (acc := []) hy))
    rw [← hcl] at e'
    refine ⟨c', e', ?_⟩
    rw [hcl] at e'
    rcases cells_mem (PySem.mem_of_lookup e') with hm | ⟨h1, _, _⟩
    · exact (cm hm).1
    · have := ok.uniq _ h1
      rw [hl] at this; cases this
  have okB : (X.blk s H scope cenv fp).Ok := by
    refine ⟨I.ok.mod, by show cenv.scope.kind = _; rw [hsc]; exact ok.kind, by show cenv.globals = _; rw [← hcenv]; exact I.ok.glob, by show cenv.builtins = _; rw [← hcenv]; exact I.ok.blt, by show s.heap.objs.size ≤ cenv.locals; rw [hL]; exact Nat.le_refl _,
      fun y z c e1 e2 => ?_, fun y hy => ?_, fun y c z e => ?_, I.ok.hd, I.ok.frames, .inl rfl, fun b hb => ⟨?_, fun y c e z => ?_⟩, I.bs, Nat.le_trans I.ok.bsz I.sz, fun b o e hb => ?_, fun b hb z => ?_, I.stack, I.stkFree⟩
    · have e1 : cenv.cells.lookup y = some c := e1
      have e2 : cenv.cells.lookup z = some c := e2
      rw [hcl] at e1 e2
      refine cells_inj (fun p hp => ?_) (fun y z c a b => I.ok.inj y z c (cm a).1 (cm b).1) (PySem.mem_of_lookup e1) (PySem.mem_of_lookup e2)
      rw [Heap.size_push]
      exact Nat.lt_succ_of_lt (cm (y := p.1) (c := p.2) hp).2
    · show ∃ c, cenv.cells.lookup y = some c
      have key : ∀ k, cenv.kindOf y = some k → (k = .cell ∨ k = .free) → ∃ c, cenv.cells.lookup y = some c := fun k hk hk' => by
        unfold Env.kindOf at hk
        rw [hsc] at hk
        obtain ⟨k', e, r⟩ := lookup_relS hk
        have : k' = .cell ∨ k' = .free := by
          rcases r with rfl | ⟨rfl, _⟩
          · exact hk'
          · exact .inr rfl
        rcases this with rfl | rfl
        · obtain ⟨c, hm⟩ := cells_has (n := (s.heap.push { cls := .type "dict", data := .dict #[] }).objs.size) (acc := cloFrom X.env.cells scope.names []) (PySem.mem_of_lookup e)
          obtain ⟨c', e'⟩ := mem_lookup hm
          exact ⟨c', by rw [hcl]; exact e'⟩
        · obtain ⟨c, h1, _⟩ := look e
          exact ⟨c, h1⟩
      rcases hy with hy | hy
      · exact key _ hy (.inl rfl)
      · exact key _ hy (.inr rfl)
    · have z : (scope.names.lookup y == some NameKind.cell) = true := z
      have z : scope.names.lookup y = some .cell := by simpa using z
      have e : cenv.cells.lookup y = some c := e
      rw [hcl] at e
      rcases cells_mem (PySem.mem_of_lookup e) with hm | ⟨_, h2, _⟩
      · rcases cloFrom_mem hm with hm | ⟨h1, _⟩
        · cases hm
        · have q := ok.uniq _ h1
          rw [z] at q; cases q
      · rw [Heap.size_push] at h2
        exact Nat.le_of_succ_le h2
    · show b ≠ cenv.locals
      rw [hL]; exact Nat.ne_of_lt (hfp b hb).2
    · have e : cenv.cells.lookup y = some c := e
      rcases mem e with ⟨h1, _⟩ | ⟨h1, _⟩
      · exact (hfp b hb).1.2.2.2.2.1 y c h1 z
      · have h2 : s.heap.objs.size + 1 ≤ b := by rw [← z]; exact h1
        exact absurd (Nat.lt_of_lt_of_le (hfp b hb).2 (Nat.le_of_succ_le h2)) (Nat.lt_irrefl _)
    · rcases (hfp b hb).1.2.2.2.1 with z | z
      · exact I.ok.noex b o e z
      · exact absurd (Nat.lt_of_lt_of_le (Heap.lt_size e) (Nat.le_trans I.ok.bsz z)) (Nat.lt_irrefl _)
    · rcases List.mem_cons.mp (I.stkSub b z) with z | z
      · exact (hfp b hb).1.2.1 z
      · exact (hfp b hb).1.2.2.1 z
  refine ⟨okB, rfl, I.bare, Un.kept kp, ⟨fun _ => none, ?_, fun i y av e1 e2 e3 => ?_⟩, fun y c e => ?_, ?_, fun y c e => ?_, fun p hp => ?_, I.hok.kept kp, by rw [wipe_length]; exact I.len⟩
  · show Heap.Ns _ cenv.locals _
    rw [hL]
    exact Heap.Ns.keeps (Heap.Ns.new ..) fun b o e => pushCells_keeps _ _ _ _ e
  · obtain ⟨e2, hne⟩ := wipe_some e2
    have hfr : scope.names.lookup y = some .free ∧ (cenv.kindOf y = some .cell ∨ cenv.kindOf y = some .free) := by
      have key : ∀ k, cenv.scope.names.lookup y = some k → k = .local ∨ k = .cell ∨ k = .free → scope.names.lookup y = some .free ∧ (cenv.kindOf y = some .cell ∨ cenv.kindOf y = some .free) := fun k hk hk' => by
        have hk0 := hk
        rw [hsc] at hk
        obtain ⟨k', e, r⟩ := lookup_relS hk
        have no : ¬ (k' = .local ∨ k' = .cell) := fun hh => by
          rcases ok.own _ (PySem.mem_of_lookup e) hh with e' | e'
          · obtain ⟨p, hp, hpy⟩ := List.mem_map.mp e'
            have e3 := ok.ix p hp
            have : p.1 = y := hpy
            rw [this] at e3
            exact hne (List.mem_map.mpr ⟨p, hp, nodup_ix hN e3 e1⟩)
          · exact e' (List.mem_of_getElem? e1)
        rcases r with rfl | ⟨rfl, rfl⟩
        · rcases hk' with rfl | rfl | rfl
          · exact absurd (.inl rfl) no
          · exact absurd (.inr rfl) no
          · exact ⟨e, .inr hk0⟩
        · exact ⟨e, .inl hk0⟩
      have e3 : Vis cenv.scope y := e3
      rcases e3 with e3 | e3 | e3
      · exact key _ e3 (.inl rfl)
      · exact key _ e3 (.inr (.inl rfl))
      · exact key _ e3 (.inr (.inr rfl))
    obtain ⟨m, hn, hl⟩ := I.loc
    have hvis : Vis X.env.scope y := (ok.free _ (PySem.mem_of_lookup hfr.1) rfl).elim (fun k => .inr (.inl k)) (fun k => .inr (.inr k))
    obtain ⟨w, r, q⟩ := hl i y av e1 e2 hvis
    refine ⟨w, r, .inr ⟨hfr.2, ?_⟩⟩
    obtain ⟨c, h1, h2⟩ := look hfr.1
    rcases q with ⟨k, _⟩ | ⟨_, c', e', z⟩
    · have k : X.env.scope.names.lookup y = some .local := k
      rcases ok.free _ (PySem.mem_of_lookup hfr.1) rfl with k' | k' <;> rw [show X.env.scope.names.lookup y = _ from k'] at k <;> cases k
    · rw [h2] at e'; cases e'
      exact ⟨c, h1, z.keeps kp⟩
  · have e : cenv.cells.lookup y = some c := e
    rcases mem e with ⟨h1, _⟩ | ⟨_, z⟩
    · obtain ⟨w, z⟩ := I.cell y c h1
      exact ⟨w, z.keeps kp⟩
    · exact ⟨_, z⟩
  · show H cenv.locals = none
    rw [hL]; exact I.hok.fresh (Nat.le_refl _)
  · have e : cenv.cells.lookup y = some c := e
    rcases mem e with ⟨h1, _⟩ | ⟨h1, _⟩
    · exact I.freeC y c h1
    · exact I.hok.fresh (Nat.le_of_succ_le h1)
  · exact absurd (show p ∈ ([] : List (Addr × Obj)) ++ [] from hp) (by simp)
theorem app_ok {E : Value → Shared → Prop} {D : Addr} {xs : List V} {y : V} {v : Value} {Q : Value → Shared → Prop} (I : Inv X pins σ H s) (hD : H D = some (.lst xs)) (hz : xs.length < sizeLine) (r : RelV y v)
    (h : ∀ s', Inv X pins σ (upd H D (.lst (xs ++ [y]))) s' → Q .none s') : wpAny (model X.prog X.w) X.A (call (.builtin "list.append") [.ref D, v]) Q E s := by
  obtain ⟨hz', its, n, ri, e⟩ := I.hok D _ hD
  have hl := ri.length
  refine append_at (hsz := by rw [List.size_toArray]; omega) e fun h' sb ho' => ?_
  refine h { s with heap := h' } (I.write (t' := s.toks) (by rw [hD]; trivial) (.inl rfl) (fun b u hb q => (sb.2 b hb).trans q) ⟨_, ho'⟩ ⟨by rw [List.length_append]; exact hz, its ++ [v], n + 1, ri.append (.cons r .nil), ?_⟩)
  rw [ho']
  simp
def PTs (X : Cx) (ifs : List Expr) (t : TT) : Prop :=
  ∀ (pins : List (Addr × Obj)) (s : Shared) (σ : St) (H : Hp) (Q : Bool → Hp → Prop), Inv X pins σ H s → t σ H Q →
    wpAny (model X.prog X.w) X.A (forIn ifs true fun c r => if r = true then do let ok ← isTrue c X.env (eval c X.env); pure (ForInStep.yield ok) else pure (ForInStep.yield r)) (TP X pins σ Q) X.xe s
def tYes : TT := fun _ H Q => Q true H
theorem pts_nil : PTs X [] tYes := fun _ _ _ H _ I h => wpAny_tests_nil ⟨H, I, h⟩
theorem pts_one {c : Expr} {t : TT} (h : PT X c t) : PTs X [c] t := fun pins s σ H Q I hw => wpAny_tests_one (h pins s σ H Q I hw)
end
theorem thnF {α : Type} {t : Sem α} {Q Q' : α → Shared → Prop} {M : Model} {A : Around} {E : Value → Shared → Prop} {s : Shared} (h : wpAny M A t Q (fun _ _ => False) s) (hQ : ∀ a s, Q a s → Q' a s) : wpAny M A t Q' E s := wpAny_mono h hQ fun _ _ z => False.elim z
theorem compLoop_any {prog : Program} {w : World} {A : Around} {R : Result → Shared → Prop} {s : Shared} {elt target iter : Expr} {ifs : List Expr} {scope : Scope} {pos : Pos} {it acc : Value} {env : Env} (I : Nat → Shared → Prop)
    (turn : ∀ n s, I n s → wpAny (model prog w) A (pyNext it) (fun r s₁ => match r with
      | none => R (.ok .next) s₁
      | some v => wpAny (model prog w) A (letOwnedTupleGo target it v) (fun _ s₁' => wpAny (model prog w) A (assign target env v) (fun _ s₂ =>
          wpAny (model prog w) A (forIn ifs true fun c r => if r = true then do let ok ← isTrue c env (eval c env); pure (ForInStep.yield ok) else pure (ForInStep.yield r)) (fun ok s₃ =>
            if ok = true then wpAny (model prog w) A (eval elt env) (fun x s₄ =>
              wpAny (model prog w) A (call (.builtin "list.append") [acc, x]) (fun _ s₅ => ∃ m, m < n ∧ I m s₅) (notedBy (model prog w) A env fun e s' => R (.error e) s') s₄) (notedBy (model prog w) A env fun e s' => R (.error e) s') s₃
            else ∃ m, m < n ∧ I m s₃) (notedBy (model prog w) A env fun e s' => R (.error e) s') s₂) (notedBy (model prog w) A env fun e s' => R (.error e) s') s₁') (notedBy (model prog w) A env fun e s' => R (.error e) s') s₁) (notedBy (model prog w) A env fun e s' => R (.error e) s') s)
    (n : Nat) (h : I n s) :
    codeAny (model prog w) A (.compLoop (.ListComp elt [⟨target, iter, ifs, 0⟩] scope pos) 0 it acc env) R s := by
  refine codeAny_loop rfl I (fun n s hI => ?_) n h
  show wpAny _ A ((compTurn (.ListComp elt [⟨target, iter, ifs, 0⟩] scope pos) 0 it acc env).onRaise (fun x => do noteFrame x env; theTreesLotGoes x)) _ _ s
  refine wpAny_noted ?_
  rw [compTurn_list]
  refine wpAny_bind (wpAny_standAt (wpAny_bind (wpAny_mono (turn n s hI) (fun r s₁ h₁ => ?_) fun _ _ h' => h')))
  cases r with
  | none => exact wpAny_pure h₁
  | some v =>
    refine wpAny_bind (wpAny_mono h₁ (fun _ s₁' h₁' => ?_) fun _ _ h' => h')
    refine wpAny_bind (wpAny_mono h₁' (fun _ s₂ h₂ => wpAny_bind (wpAny_mono h₂ (fun ok s₃ h₃ => ?_) fun _ _ h' => h')) fun _ _ h' => h')
    cases ok with
    | false => exact wpAny_pure ⟨rfl, h₃⟩
    | true =>
      exact wpAny_bind (wpAny_bind (wpAny_mono h₃ (fun x s₄ h₄ => wpAny_bind (wpAny_mono h₄ (fun _ s₅ h₅ => wpAny_pure (wpAny_pure ⟨rfl, h₅⟩)) fun _ _ h' => h')) fun _ _ h' => h'))
section
variable {X : Cx}
def tLc (wi : TI) (g : TG) (tt : TT) (te : TE) (vs : List Nat) : TE := fun σ H Q => wi σ H fun J H1 => ∀ D, H1 D = none → ∃ W : Nat → Nat → Hp → Prop, (∃ m, W 0 m (upd H1 D (.lst []))) ∧ ∀ i m H, W i m H →
  (J.stop i H ∧ Q (.ref D) H) ∨ (J.go i H ∧ ∃ Nx : Hp → Prop, (∀ H', Nx H' → ∃ m', m' < m ∧ W (i + 1) m' H') ∧ ∀ x H', J.yld i H x H' → g x (wipe σ vs) H' fun σ2 H2 => wipe σ2 vs = wipe σ vs ∧ tt σ2 H2 fun b H3 =>
    if b = true then te σ2 H3 fun y H4 => ∃ acc, H4 D = some (.lst acc) ∧ acc.length < sizeLine ∧ Nx (upd H4 D (.lst (acc ++ [y]))) else Nx H3)
theorem lc_core {pins : List (Addr × Obj)} {s : Shared} {σ : St} {H : Hp} {Q : VK} {elt tg iter : Expr} {ifs : List Expr} {scope : Scope} {own : List (Str × Nat)} {pos pos' : Pos} {wi : TI} {g : TG} {tt : TT} {te : TE} {use : Option (Value → Sem Unit)} {Qf : Value → Shared → Prop}
    (hc : X.calm = true) (hN : X.N.Nodup) (I : Inv X pins σ H s) (hi : PI X tg iter wi) (ok : BlkOk X.N X.env.scope scope own)
    (hg : ∀ (s : Shared) (H : Hp) (C : Addr) (cl : List (Str × Addr)) (fp : List Addr), PG (X.blk s H scope (compEnvC scope cl C X.env) fp) tg g) (ht : ∀ (s : Shared) (H : Hp) (C : Addr) (cl : List (Str × Addr)) (fp : List Addr), PTs (X.blk s H scope (compEnvC scope cl C X.env) fp) ifs tt)
    (he : ∀ (s : Shared) (H : Hp) (C : Addr) (cl : List (Str × Addr)) (fp : List Addr), PE (X.blk s H scope (compEnvC scope cl C X.env) fp) elt te) (hs : ∀ x, foldedSetIterable iter X.env x = pure x)
    (h : tLc wi g tt te (own.map (·.2)) σ H Q)
    (hRR : ∀ D C s' m H', Inv X pins σ H' s' → Q (.ref D) H' → s'.heap.Ns C m → FpOk X pins H' C → compPost (model X.prog X.w) X.A X.xe use Qf (.ref D) C (.ok .next) s') :
    wpAny (model X.prog X.w) X.A (comprehension (.ListComp elt [⟨tg, iter, ifs, 0⟩] scope pos) scope X.env pos' (newList []) false (eval iter X.env) use) Qf X.xe s := by
  have hfree : ∀ y ∈ scope.names, y.2 = .free → ∃ c, X.env.cells.lookup y.1 = some c := fun y hy e => by
    rcases ok.free y hy e with k | k
    · exact I.ok.has _ (.inl k)
    · exact I.ok.has _ (.inr k)
  refine wpAny_comprehension_free (use := use) rfl hs (closure_ok hfree) ok.kind (fun y hy e => by rw [ok.uniq y hy, e])
    (thn (hi pins s σ H _ I h) fun xv s1 hx => thn hx fun itv s2 h2 => ?_)
  obtain ⟨it, fp, tn, J, H2, e, I2, T, st2, f2, q⟩ := h2
  subst e
  refine wpAny_newObj_type (newEnv_comp ?_) (by show 0 ≤ sizeLine; decide)
  generalize hD : s2.heap.objs.size = D
  have hDn : H2 D = none := I2.hok.fresh (Nat.le_of_eq hD)
  obtain ⟨W, ⟨m0, w0⟩, turn⟩ := q D hDn
  generalize hs3 : ({ s2 with heap := s2.heap.push { cls := .type "list", data := .seq ([] : List Value).toArray } } : Shared) = s3
  have I3 : Inv X pins σ (upd H2 D (.lst [])) s3 := by
    rw [← hs3]
    refine I2.laid (t' := s2.toks) (fun b o e => Heap.get?_push_of_some _ e) (Nat.le_of_eq hD) ⟨Nat.zero_le _, [], 0, .nil, ?_⟩
    rw [← hD]
    exact Heap.get?_push_size _ rfl
  have h3 : s3.heap = s2.heap.push { cls := .type "list", data := .seq ([] : List Value).toArray } := by rw [← hs3]
  have sz : ∀ b ∈ fp, b < s2.heap.objs.size := fun b hb => by
    obtain ⟨o, e, _⟩ := T.obj _ _ st2 b hb
    exact Heap.lt_size e
  have f3 : ∀ b ∈ fp, FpOk X pins (upd H2 D (.lst [])) b ∧ b < s3.heap.objs.size := fun b hb => by
    have hlt := sz b hb
    refine ⟨⟨?_, (f2 b hb).2⟩, by rw [h3, Heap.size_push]; exact Nat.lt_succ_of_lt hlt⟩
    rw [upd_ne (by rw [← hD]; exact Nat.ne_of_lt hlt)]
    exact (f2 b hb).1
  have st3 : tn 0 s3.heap := T.keep _ _ _ st2 fun b _ o e => by rw [h3]; exact Heap.get?_push_of_some _ e
  have I4 := block_start I3 ok hN f3
  have pg := hg s3 (upd H2 D (.lst [])) s3.heap.objs.size (cellsFrom (s3.heap.objs.size + 1) scope.names (cloFrom X.env.cells scope.names [])) fp
  have pt := ht s3 (upd H2 D (.lst [])) s3.heap.objs.size (cellsFrom (s3.heap.objs.size + 1) scope.names (cloFrom X.env.cells scope.names [])) fp
  have pe := he s3 (upd H2 D (.lst [])) s3.heap.objs.size (cellsFrom (s3.heap.objs.size + 1) scope.names (cloFrom X.env.cells scope.names [])) fp
  show codeAny _ _ (.compStart (.ListComp elt [⟨tg, iter, ifs, 0⟩] scope pos) 0 (.ref it) (.ref D) (compEnvC scope (cellsFrom (s3.heap.objs.size + 1) scope.names (cloFrom X.env.cells scope.names [])) s3.heap.objs.size X.env)) (compPost (model X.prog X.w) X.A X.xe use Qf (.ref D) s3.heap.objs.size) { s3 with heap := pushCells (s3.heap.push { cls := .type "dict", data := .dict #[] }) scope.names }
  have nfp : ∀ b ∈ fp, (upd H2 D (.lst [])) b = none := fun b hb => (f3 b hb).1.1
  generalize hce : compEnvC scope (cellsFrom (s3.heap.objs.size + 1) scope.names (cloFrom X.env.cells scope.names [])) s3.heap.objs.size X.env = ce at I4 pg pt pe ⊢
  have cL : ce.locals = s3.heap.objs.size := by subst hce; rfl
  generalize hH3 : upd H2 D (.lst []) = H3 at I3 I4 pg pt pe w0 nfp f3
  generalize hs4 : ({ s3 with heap := pushCells (s3.heap.push { cls := .type "dict", data := .dict #[] }) scope.names } : Shared) = s4 at I4 ⊢
  have st4 : tn 0 s4.heap := T.keep _ _ _ st3 fun b _ o e => by rw [← hs4]; exact pushCells_keeps _ _ _ _ (Heap.get?_push_of_some _ e)
  have stat : ∀ {σ' : St} {H' : Hp} {s' : Shared}, Inv (X.blk s3 H3 scope ce fp) [] σ' H' s' → (∀ b ∈ fp, H' b = none) → ∀ b ∈ fp, FpOk (X.blk s3 H3 scope ce fp) [] H' b := fun {σ' H' s'} I' hn b hb =>
    ⟨hn b hb, (I'.ok.exf b hb).1, I'.ok.exfs b hb, .inl hb, fun x c e => (I'.ok.exf b hb).2 x c e, fun p hp => absurd (show p ∈ ([] : List (Addr × Obj)) ++ [] from hp) (by simp)⟩
  have loop : codeAny (model X.prog X.w) X.A (.compLoop (.ListComp elt [⟨tg, iter, ifs, 0⟩] scope pos) 0 (.ref it) (.ref D) ce) (compPost (model X.prog X.w) X.A X.xe use Qf (.ref D) s3.heap.objs.size) s4 := by
    refine compLoop_any (fun n s' => ∃ i H', Inv (X.blk s3 H3 scope ce fp) [] (wipe σ (own.map (·.2))) H' s' ∧ tn i s'.heap ∧ (∀ b ∈ fp, H' b = none) ∧ W i n H') ?_ m0 ⟨0, H3, I4, st4, nfp, w0⟩
    rintro n s5 ⟨i, H5, I5, st5, n5, w5⟩
    rcases turn i n H5 w5 with ⟨stop, qq⟩ | ⟨go, Nx, hNx, step⟩
    · have td := T.done (X.blk s3 H3 scope ce fp) rfl rfl rfl hc i [] s5 _ H5 (fun _ _ => False) I5 (stat I5 n5) st5 stop
      refine thnF td fun r s6 ⟨hr, I6⟩ => ?_
      subst hr
      have I7 : Inv X pins σ H5 s6 := I3.call' (ch := fp) I6.os I6.base I6.hok I6.bare fun b hb => ⟨(f3 b hb).1.2.2.2.1, (f3 b hb).1.2.1, (f3 b hb).1.2.2.2.2.1, (f3 b hb).1.2.2.2.2.2⟩
      have nC : H5 s3.heap.objs.size = none := by
        have z : H5 ce.locals = none := I6.free
        rw [cL] at z
        exact z
      obtain ⟨m, hn, _⟩ := I6.loc
      have hn : s6.heap.Ns ce.locals m := hn
      rw [cL] at hn
      exact hRR D s3.heap.objs.size s6 m H5 I7 qq hn (I3.fpOk (Nat.le_refl _) nC)
    · have ti := T.item (X.blk s3 H3 scope ce fp) rfl rfl rfl hc i [] s5 _ H5 (fun _ _ => False) I5 (stat I5 n5) st5 go
      refine thnF ti fun r s6 ⟨u, hr, h6⟩ => ?_
      subst hr
      refine thnF h6 fun _ s7 ⟨x, H7, I7, r7, y7, st7, n7⟩ => ?_
      have I7' := I7.pinned (stat I7 n7) (T.obj _ _ st7)
      refine thnF (pg _ s7 _ H7 x u _ I7' r7 (step x H7 y7)) fun _ s8 ⟨σ8, H8, I8, hw8, q8⟩ => ?_
      refine thnF (pt _ s8 σ8 H8 _ I8 q8) fun b s9 ⟨H9, I9, q9⟩ => ?_
      have fin : ∀ {s' : Shared} {H' : Hp}, Inv (X.blk s3 H3 scope ce fp) ([] ++ pinsAt fp s7.heap) σ8 H' s' → Nx H' → ∃ m, m < n ∧ ∃ i H', Inv (X.blk s3 H3 scope ce fp) [] (wipe σ (own.map (·.2))) H' s' ∧ tn i s'.heap ∧ (∀ b ∈ fp, H' b = none) ∧ W i m H' := fun {s' H'} I' nx => by
        obtain ⟨m', hm, w'⟩ := hNx H' nx
        have pin' : ∀ b ∈ fp, ∀ o, s7.heap.get? b = some o → s'.heap.get? b = some o ∧ H' b = none := fun b hb o e =>
          let z := I'.pin (b, o) (List.mem_append_right _ (List.mem_append_right _ (mem_pinsAt hb e)))
          ⟨z.1, z.2.1⟩
        have hl : (wipe σ (own.map (·.2))).length = σ8.length := by rw [← hw8, wipe_length]
        refine ⟨m', hm, i + 1, H', (I'.unpinned (pins := [])).weak hl (fun j v e => ?_), T.keep _ _ _ st7 fun b hb o e => (pin' b hb o e).1, fun b hb => ?_, w'⟩
        · rw [← hw8] at e
          exact (wipe_some e).1
        · obtain ⟨o, e, _⟩ := T.obj _ _ st7 b hb
          exact (pin' b hb o e).2
      cases b with
      | false =>
        simp only [Bool.false_eq_true, if_false] at q9 ⊢
        exact fin I9 q9
      | true =>
        simp only [if_true] at q9 ⊢
        refine thnF (pe _ s9 σ8 H9 _ I9 q9) fun z s10 ⟨yv, H10, I10, r10, acc, hD10, hz10, nx⟩ => ?_
        exact app_ok (X := X.blk s3 H3 scope ce fp) I10 hD10 hz10 r10 fun s11 I11 => fin I11 nx
  exact codeAny_compStart_list loop (T.self X.A 0 _ _ _ st4 loop)
theorem pe_lc {elt tg iter : Expr} {ifs : List Expr} {scope : Scope} {own : List (Str × Nat)} {pos : Pos} {wi : TI} {g : TG} {tt : TT} {te : TE} (hc : X.calm = true) (hN : X.N.Nodup) (hi : PI X tg iter wi) (ok : BlkOk X.N X.env.scope scope own)
    (hg : ∀ (s : Shared) (H : Hp) (C : Addr) (cl : List (Str × Addr)) (fp : List Addr), PG (X.blk s H scope (compEnvC scope cl C X.env) fp) tg g) (ht : ∀ (s : Shared) (H : Hp) (C : Addr) (cl : List (Str × Addr)) (fp : List Addr), PTs (X.blk s H scope (compEnvC scope cl C X.env) fp) ifs tt)
    (he : ∀ (s : Shared) (H : Hp) (C : Addr) (cl : List (Str × Addr)) (fp : List Addr), PE (X.blk s H scope (compEnvC scope cl C X.env) fp) elt te) (hs : ∀ x, foldedSetIterable iter X.env x = pure x := by intro _; rfl) :
    PE X (.ListComp elt [⟨tg, iter, ifs, 0⟩] scope pos) (tLc wi g tt te (own.map (·.2))) := by
  intro pins s σ H Q I h
  rw [eval_ListComp]
  refine lc_core hc hN I hi ok hg ht he hs h fun D C s' m H' I' q hn f => ⟨m, hn, fun h'' sb => ?_⟩
  obtain ⟨f0, f1, f2, f3, f4, f5⟩ := f
  exact ⟨.ref D, H', I'.turned (t' := s'.toks) (fun b o hb e => (sb.2 b hb).trans e) f0 f1 f3 f4 f5, rfl, q⟩
theorem ps_setLc {i : Nat} {y : Str} {py : Pos} {elt tg iter : Expr} {ifs : List Expr} {scope : Scope} {own : List (Str × Nat)} {pos spos : Pos} {wi : TI} {g : TG} {tt : TT} {te : TE} (hc : X.calm = true) (hN : X.N.Nodup) (hy : X.N[i]? = some y) (hyl : X.env.scope.names.lookup y = some .local)
    (hsw : swapsWith (.ListComp elt [⟨tg, iter, ifs, 0⟩] scope pos) (some (.Name y py)) spos.line X.env = pure true) (hi : PI X tg iter wi) (ok : BlkOk X.N X.env.scope scope own)
    (hg : ∀ (s : Shared) (H : Hp) (C : Addr) (cl : List (Str × Addr)) (fp : List Addr), PG (X.blk s H scope (compEnvC scope cl C X.env) fp) tg g) (ht : ∀ (s : Shared) (H : Hp) (C : Addr) (cl : List (Str × Addr)) (fp : List Addr), PTs (X.blk s H scope (compEnvC scope cl C X.env) fp) ifs tt)
    (he : ∀ (s : Shared) (H : Hp) (C : Addr) (cl : List (Str × Addr)) (fp : List Addr), PE (X.blk s H scope (compEnvC scope cl C X.env) fp) elt te) (hs : ∀ x, foldedSetIterable iter X.env x = pure x := by intro _; rfl) :
    PS X (.Assign [.Name y py] (.ListComp elt [⟨tg, iter, ifs, 0⟩] scope pos) spos) (tAsg (tLc wi g tt te (own.map (·.2))) (gName i)) := by
  intro pins s σ H D I h
  rw [exec_Assign_Name_used _ _ _ _ hsw]
  refine wpAny_bind (wpAny_standAt (wpAny_bind ?_))
  show wpAny _ X.A (do let _ ← comprehension (.ListComp elt [⟨tg, iter, ifs, 0⟩] scope pos) scope X.env (firstIterPos [⟨tg, iter, ifs, 0⟩] pos) (newList []) false (eval iter X.env) (some (assign (.Name y py) X.env))) _ _ s
  have h : tLc wi g tt te (own.map (·.2)) σ H (fun x H1 => gName i x σ H1 D.nx) := h
  refine wpAny_bind (thn (lc_core (Qf := fun _ s' => SP X pins D .next s') hc hN I hi ok hg ht he hs h fun L C s' m H' I' q hn f => ?_) fun _ s' hq => wpAny_pure (wpAny_pure hq))
  show wpAny _ _ (assign (.Name y py) X.env (.ref L)) _ _ _
  refine wpAny_assign_Name (store_ok2 (v := V.ref L) I' hN hy (.inl hyl) rfl (fun s2 I2 ⟨a, sb, ha⟩ => ?_) (.inr hyl))
  obtain ⟨f0, f1, f2, f3, f4, f5⟩ := f
  have haC : C ≠ a := by
    rcases ha with z | z
    · rw [z]; exact f1
    · exact fun e => f4 y a z e.symm
  refine ⟨m, hn.sameBut sb haC, fun h3 sb3 => ?_⟩
  exact ⟨_, H', I2.turned (t' := s2.toks) (fun b o hb e => (sb3.2 b hb).trans e) f0 f1 f3 f4 f5, q⟩
theorem sw_true {elt : Expr} {gs : List Comprehension} {scope : Scope} {pos py : Pos} {y : Str} {l : Nat} {env : Env} (hk : env.scope.kind = .function) (hy : env.scope.names.lookup y = some .local) (hl : (py.line == pos.line) = true)
    (ha : (scope.names.any fun (n, k) => n == y && (k == .local || k == .cell)) = false) : swapsWith (.ListComp elt gs scope pos) (some (.Name y py)) l env = pure true := by
  have ky : env.kindOf y = some .local := hy
  have hb : env.blockKind = .function := by unfold Env.blockKind; rw [hk]; rfl
  unfold swapsWith
  simp only [hb, ky, ha, Expr.pos, hl]
  rfl
end
theorem lc_range {lo : Int} {n : Nat} {g : TG} {tt : TT} {te : TE} {vs : List Nat} {σ : St} {H1 : Hp} {D : Addr} {Qd : Hp → Prop} (Pv : Nat → Hp → Prop) (h0 : Pv 0 (upd H1 D (.lst [])))
    (hs : ∀ i H, i < n → Pv i H → g (.int (lo + i)) (wipe σ vs) H fun σ2 H2 => wipe σ2 vs = wipe σ vs ∧ tt σ2 H2 fun b H3 =>
      if b = true then te σ2 H3 fun y H4 => ∃ acc, H4 D = some (.lst acc) ∧ acc.length < sizeLine ∧ Pv (i + 1) (upd H4 D (.lst (acc ++ [y]))) else Pv (i + 1) H3) (hd : ∀ H, Pv n H → Qd H) :
    ∃ W : Nat → Nat → Hp → Prop, (∃ m, W 0 m (upd H1 D (.lst []))) ∧ ∀ i m H, W i m H →
      ((Itr lo n).stop i H ∧ Qd H) ∨ ((Itr lo n).go i H ∧ ∃ Nx : Hp → Prop, (∀ H', Nx H' → ∃ m', m' < m ∧ W (i + 1) m' H') ∧ ∀ x H', (Itr lo n).yld i H x H' → g x (wipe σ vs) H' fun σ2 H2 => wipe σ2 vs = wipe σ vs ∧ tt σ2 H2 fun b H3 =>
        if b = true then te σ2 H3 fun y H4 => ∃ acc, H4 D = some (.lst acc) ∧ acc.length < sizeLine ∧ Nx (upd H4 D (.lst (acc ++ [y]))) else Nx H3) := by
  refine ⟨fun i m H => m = n - i ∧ i ≤ n ∧ Pv i H, ⟨n, by simp, Nat.zero_le _, h0⟩, ?_⟩
  rintro i m H ⟨rfl, hi, p⟩
  by_cases hlt : i < n
  · refine .inr ⟨hlt, Pv (i + 1), fun H' p' => ⟨n - (i + 1), by omega, rfl, hlt, p'⟩, fun x H' y => ?_⟩
    obtain ⟨e, y⟩ := y
    subst e y
    exact hs i _ hlt p
  · have e : i = n := by omega
    subst e
    exact .inl ⟨Nat.le_refl _, hd H p⟩
theorem lc_list {K : Frag} {a : Addr} {xs : List V} {g : TG} {tt : TT} {te : TE} {vs : List Nat} {σ : St} {H1 : Hp} {D : Addr} {Qd : Hp → Prop} (Pv : Nat → Hp → Prop) (h0 : Pv 0 (upd H1 D (.lst []))) (hl : ∀ i H, i ≤ xs.length → Pv i H → SqL K H a xs)
    (hs : ∀ i x H, xs[i]? = some x → Pv i H → g x (wipe σ vs) H fun σ2 H2 => wipe σ2 vs = wipe σ vs ∧ tt σ2 H2 fun b H3 =>
      if b = true then te σ2 H3 fun y H4 => ∃ acc, H4 D = some (.lst acc) ∧ acc.length < sizeLine ∧ Pv (i + 1) (upd H4 D (.lst (acc ++ [y]))) else Pv (i + 1) H3) (hd : ∀ H, Pv xs.length H → Qd H) :
    ∃ W : Nat → Nat → Hp → Prop, (∃ m, W 0 m (upd H1 D (.lst []))) ∧ ∀ i m H, W i m H →
      ((Itl K a).stop i H ∧ Qd H) ∨ ((Itl K a).go i H ∧ ∃ Nx : Hp → Prop, (∀ H', Nx H' → ∃ m', m' < m ∧ W (i + 1) m' H') ∧ ∀ x H', (Itl K a).yld i H x H' → g x (wipe σ vs) H' fun σ2 H2 => wipe σ2 vs = wipe σ vs ∧ tt σ2 H2 fun b H3 =>
        if b = true then te σ2 H3 fun y H4 => ∃ acc, H4 D = some (.lst acc) ∧ acc.length < sizeLine ∧ Nx (upd H4 D (.lst (acc ++ [y]))) else Nx H3) := by
  refine ⟨fun i m H => m = xs.length - i ∧ i ≤ xs.length ∧ Pv i H, ⟨xs.length, by simp, Nat.zero_le _, h0⟩, ?_⟩
  rintro i m H ⟨rfl, hi, p⟩
  have q := hl i H hi p
  by_cases hlt : i < xs.length
  · refine .inr ⟨⟨xs, xs[i], q, by simp [hlt]⟩, Pv (i + 1), fun H' p' => ⟨xs.length - (i + 1), by omega, rfl, hlt, p'⟩, fun x H' y => ?_⟩
    obtain ⟨e, y⟩ := y
    subst e
    exact hs i x _ (y xs q) p
  · have e : i = xs.length := by omega
    subst e
    exact .inl ⟨⟨xs, q, Nat.le_refl _⟩, hd H p⟩
def blkC (N : List Str) (sc scope : Scope) (own : List (Str × Nat)) : Bool :=
  (match scope.kind with | .function => true | _ => false) && (scope.names.all fun y => decide (scope.names.lookup y.1 = some y.2)) && (own.all fun p => decide (N[p.2]? = some p.1)) &&
    (scope.names.all fun y => match y.2 with
      | .free => (match sc.names.lookup y.1 with | some .cell => true | some .free => true | _ => false)
      | .local => decide (y.1 ∈ own.map (·.1)) || decide (y.1 ∉ N)
      | .cell => decide (y.1 ∈ own.map (·.1)) || decide (y.1 ∉ N)
      | _ => true)
theorem blkOk_by {N : List Str} {sc scope : Scope} {own : List (Str × Nat)} (h : blkC N sc scope own = true) : BlkOk N sc scope own := by
  unfold blkC at h
  simp only [Bool.and_eq_true, List.all_eq_true, decide_eq_true_eq] at h
  obtain ⟨⟨⟨h1, h2⟩, h3⟩, h4⟩ := h
  refine ⟨?_, h2, h3, fun y hy e => ?_, fun y hy e => ?_⟩
  · split at h1
    · assumption
    · cases h1
  · have q := h4 y hy
    simp only [e] at q
    split at q <;> first | exact .inl (by assumption) | exact .inr (by assumption) | cases q
  · have q := h4 y hy
    rcases e with e | e <;> (simp only [e, Bool.or_eq_true, decide_eq_true_eq] at q; exact q)
end L2
namespace L2
open PySem PySem.Spec PyProof.Rows
section
variable {prog : Program} {w : World} {A : Around} {R : Result → Shared → Prop} {s : Shared} {elt t0 i0 t1 i1 : Expr} {ifs0 ifs1 : List Expr} {scope : Scope} {pos : Pos} {it acc : Value} {env : Env}
end
section
variable {X : Cx}
end
end L2
namespace L2
open PySem PySem.Spec PyProof.Rows
section
variable {κ : Type} [DecidableEq κ]
end
theorem kV_is {P : Program} {w : World} {k : Key} {u : Value} (r : RelV (kV k) u) : (mixKind P w).is k u = true := by
  cases k with
  | inl i => obtain ⟨t, e⟩ := (show ∃ t, u = Value.int i t from r); subst e; exact mixKind_int P w i t
  | inr x => obtain ⟨t, e⟩ := (show ∃ t, u = Value.str x t from r); subst e; exact mixKind_str P w x t
theorem items_are {P : Program} {w : World} : ∀ {ks : List Key} {us : List Value}, Vals (ks.map kV) us → ItemsAre (mixKind P w) ks us
  | [], _, r => by rw [List.map_nil] at r; cases r; exact .nil
  | k :: ks, _, r => by
    rw [List.map_cons] at r
    cases r with
    | cons h t => exact .cons (kV_is h) (items_are t)
section
variable {P : Program} {w : World} {H : Hp} {h : Heap} {a : Addr}
theorem key_of {ks : List Key} (ok : HOk P w H h) (e : H a = some (.tup (ks.map kV))) : (tupleKind (mixKind P w)).is h ks a := by
  obtain ⟨_, its, r, o, h1, h2, n, h3⟩ := (show ObjOk P w H h a (.tup (ks.map kV)) from ok a _ e)
  exact ⟨o, its.toArray, n, h1, h2, h3, by simpa using items_are r⟩
end
section
variable {X : Cx} {pins : List (Addr × Obj)} {σ : St} {H : Hp} {s : Shared} {a : Addr} {y v : V} {u r : Value} {o : Option V} {A : Around} {E : Value → Shared → Prop}
theorem Inv.big (I : Inv X pins σ H s) : sysModules < s.heap.objs.size := by
  have h : mainGlobals < s.heap.objs.size := (I.mod.glob.keeps I.bk).lt
  exact Nat.lt_trans (by decide) h
theorem d_write {h' : Heap} {t' : Nat} {ob : HO} (I : Inv X pins σ H s) (mu : Mut (H a)) (hs : Heap.SameBut a s.heap h') (he : ∃ q, h'.get? a = some q) (new : ObjOk X.prog X.w (upd H a ob) h' a ob) :
    Inv X pins σ (upd H a ob) { s with heap := h', toks := t' } :=
  I.write (x := a) (e := a) mu (.inl rfl) (fun b q hb z => (hs.2 b hb).trans z) he new
end
section
variable {X : Cx} {pins : List (Addr × Obj)} {σ : St} {H : Hp} {s : Shared} {a : Addr} {kvs : List (Key × V)} {k : Key} {u : Value} {A : Around} {E : Value → Shared → Prop}
end
def NoSl (i : Expr) : Prop := ∀ ov iv, subscripted i false ov iv = operate [ov, iv] (getItem ov iv)
theorem subD_of {prog : Program} {w : World} {A : Around} {E : Value → Shared → Prop} {s : Shared} {env : Env} {value slice : Expr} {pos : Pos} {T id : String} {Q : Value → Shared → Prop}
    (hl : typeLookup (.type T) "__getitem__" = pure (some (.builtin id))) (hs : NoSl slice)
    (h : wpAny (model prog w) A (eval value env) (fun o s₁ => wpAny (model prog w) A (eval slice env) (fun i s₂ => s₂.TypeIs o T ∧ wpAny (model prog w) A (getItem o i) Q E s₂) E s₁) E s) :
    wpAny (model prog w) A (eval (.Subscript value slice pos) env) Q E s := by
  refine Subscript_ (wpAny_mono h (fun o s₁ h₁ => wpAny_mono h₁ (fun i s₂ h₂ => ?_) fun _ _ x => x) fun _ _ x => x)
  obtain ⟨hT, h₂⟩ := h₂
  unfold subscriptTail
  refine wpAny_bind ?_
  rw [getitemInPython_of_ne hT.not_modules]
  refine wpAny_bind (wpAny_specialOf hT hl ?_)
  have fin : wpAny (model prog w) A (subscripted slice false o i) (fun r s₃ => wpAny (model prog w) A (letTemporaryGo value o r >>= fun _ => pure r) Q E s₃) E s₂ := by
    rw [hs o i]
    exact wpAny_operating (wpAny_mono h₂ (fun r s₃ h₃ => wpAny_bind (wpAny_letTemporaryGo (wpAny_pure h₃))) fun _ _ x => x)
  first
    | exact wpAny_pure (wpAny_bind fin)
    | exact wpAny_bind (wpAny_pure (wpAny_bind fin))
    | exact wpAny_bind fin
section
variable {X : Cx} {o i e value : Expr} {pos pos' tpos : Pos} {td ty tv : TE}
end
section
variable {X : Cx} {pos : Pos}
end
section
variable {X : Cx} {pins : List (Addr × Obj)} {σ : St} {H : Hp} {s : Shared} {a : Addr} {y d : V} {u r : Value} {o : Option V} {A : Around} {E : Value → Shared → Prop}
end
section
variable {X : Cx} {o e f : Expr} {apos cpos : Pos} {td ty tx : TE}
end
section
variable {X : Cx} {pins : List (Addr × Obj)} {σ : St} {H : Hp} {s : Shared} {a : Addr} {kvs : List (Key × V)} {A : Around} {E : Value → Shared → Prop}
end
section
variable {X : Cx} {pins : List (Addr × Obj)} {σ : St} {H : Hp} {s : Shared} {a : Addr} {y : V} {u : Value} {A : Around} {E : Value → Shared → Prop}
end
end L2
namespace L2
open PySem PySem.Spec PyProof.Rows
section
variable {prog : Program} {w : World} {A : Around} {E : Value → Shared → Prop}
end
section
variable {X : Cx}
end
end L2
namespace L2
open PySem PySem.Spec PyProof.Rows
section
variable {X : Cx} {pins : List (Addr × Obj)} {σ : St} {H : Hp} {s : Shared} {h' : Heap}
theorem Inv.turnedL {t' : Nat} {ch : List Addr} (I : Inv X pins σ H s) (k : ∀ b o, b ∉ ch → s.heap.get? b = some o → h'.get? b = some o) (hf : ∀ b ∈ ch, FpOk X pins H b) : Inv X pins σ H { s with heap := h', toks := t' } := by
  have nit : ∀ b u, H b = some u → b ∉ ch := fun b u e z => by
    have q := (hf b z).1
    rw [q] at e; cases e
  refine I.step (g' := s.gens) (d' := s.drawn) (ch := ch) (fun b hb => ⟨(hf b hb).2.2.2.1, (hf b hb).2.1, (hf b hb).2.2.2.2.1, (hf b hb).2.2.2.2.2⟩) (fun b o _ _ hc e _ => k b o hc e) (fun b o _ _ hc e _ => ⟨o.slots, k b o hc e⟩)
    (fun _ _ _ _ n => n) (fun b o hc e => ⟨o, k b o hc e⟩) (fun _ _ e => e) (fun _ _ _ e => e) (fun b ps e => ⟨#[], by rw [e]; simp⟩) (fun m hm => ?_) (fun b u e => ?_) I.bare
  · obtain ⟨o, es, ep, ho, r⟩ := hm
    exact ⟨o, es, ep, k _ o (fun z => (hf _ z).2.1 rfl) ho, r⟩
  · refine (I.hok b u e).stay (fun c v hc q => k c v ?_ q) (fun _ q => q) fun _ _ q => q
    rcases hc with z | z
    · rw [z]; exact nit b u e
    · exact nit c _ z
theorem Inv.turnedNew {t' : Nat} {ch : List Addr} {T : Addr} {ob : HO} (I : Inv X pins σ H s) (k : ∀ b o, b ∉ ch → s.heap.get? b = some o → h'.get? b = some o) (hf : ∀ b ∈ ch, FpOk X pins H b) (hT : s.heap.objs.size ≤ T)
    (new : ObjOk X.prog X.w (upd H T ob) h' T ob) : Inv X pins σ (upd H T ob) { s with heap := h', toks := t' } := by
  have hn : H T = none := I.hok.fresh hT
  have nit : ∀ b u, H b = some u → b ∉ ch := fun b u e z => by
    have q := (hf b z).1
    rw [q] at e; cases e
  refine I.step (g' := s.gens) (d' := s.drawn) (ch := ch) (fun b hb => ⟨(hf b hb).2.2.2.1, (hf b hb).2.1, (hf b hb).2.2.2.2.1, (hf b hb).2.2.2.2.2⟩) (fun b o _ _ hc e _ => k b o hc e) (fun b o _ _ hc e _ => ⟨o.slots, k b o hc e⟩)
    (fun b o _ e n => ?_) (fun b o hc e => ⟨o, k b o hc e⟩) (fun b xs e => ?_) (fun b o u e => ?_) (fun b ps e => ⟨#[], ?_⟩) (fun m hm => ?_) (fun b u e => ?_) I.bare
  · rw [upd_ne (Nat.ne_of_lt (Nat.lt_of_lt_of_le (Heap.lt_size e) hT))]; exact n
  · rw [upd_ne (ne_of_none e hn)]; exact e
  · rw [upd_ne (ne_of_none e hn)]; exact e
  · rw [upd_ne (ne_of_none e hn), e]; simp
  · obtain ⟨o, es, ep, ho, r⟩ := hm
    exact ⟨o, es, ep, k _ o (fun z => (hf _ z).2.1 rfl) ho, r⟩
  · by_cases hb : b = T
    · subst hb
      rw [upd_same] at e
      cases e
      exact new
    · rw [upd_ne hb] at e
      refine (I.hok b u e).stay (fun c v hc q => k c v ?_ q) (fun c q => by rw [upd_ne (ne_of_none q hn)]; exact q) fun c xs q => by rw [upd_ne (ne_of_none q hn)]; exact q
      rcases hc with z | z
      · rw [z]; exact nit b u e
      · exact nit c _ z
end
section
variable {X : Cx}
theorem pi_one {tg : Expr} {pins : List (Addr × Obj)} {σ : St} {H : Hp} {s : Shared} {R : It → Hp → Prop} {J : It} {tn : Nat → Heap → Prop} {tk : Nat} (I : Inv X pins σ H s) (o : Obj)
    (T : Turn X.prog X.w X.K tg J [s.heap.objs.size] s.heap.objs.size tn) (st : tn 0 (s.heap.push o)) (q : R J H) : PIE X pins σ tg R (.ref s.heap.objs.size) { s with heap := s.heap.push o, toks := tk } := by
  refine ⟨s.heap.objs.size, [s.heap.objs.size], tn, J, H, rfl, I.kept fun b ob e => Heap.get?_push_of_some _ e, T, st, fun b hb => ?_, q⟩
  have e : b = s.heap.objs.size := by simpa using hb
  subst e
  exact I.fpOk (Nat.le_refl _) (I.hok.fresh (Nat.le_refl _))
end
def Itc (lo c : Int) (n : Nat) : It := ⟨fun i _ => i < n, fun i H x H' => H' = H ∧ x = .int (lo + (i : Nat) * c), fun i _ => n ≤ i⟩
theorem turn_rangeC {P : Program} {w : World} {K : Frag} {tg : Expr} (it : Addr) (lo c : Int) (n : Nat) : Turn P w K tg (Itc lo c n) [it] it (fun i h => IsRangeIter h it (lo + (i : Nat) * c) ((n : Int) - (i : Nat)) c) where
  mem := by simp
  obj := fun i h st b hb => by
    have e : b = it := by simpa using hb
    subst e
    exact ⟨_, st, fun v z => nomatch z⟩
  keep := fun i h h' st k => k it (by simp) _ st
  item := by
    intro X hP hw hK hc i pins s σ H E I hf st hg
    subst hP hw hK
    obtain ⟨f0, f1, f2, f3, f4, f5⟩ := hf it (by simp)
    have W := Walks.range (prog := X.prog) (w := X.w) (I.ok.hd hc) it lo c n
    refine W.item i s _ _ hg st fun v h' tk hv st' kk => ?_
    obtain ⟨t, rfl⟩ := hv
    have I1 : Inv X pins σ H { s with heap := h', toks := tk } := I.turned (fun b o hb e => kk b o (by simpa using hb) e) f0 f1 f3 f4 f5
    exact ⟨_, rfl, go_of (s := { s with heap := h', toks := tk }) (n := "range_iterator") st' rfl rfl (by decide) ⟨.int (lo + (i : Nat) * c), H, I1, ⟨t, rfl⟩, ⟨rfl, rfl⟩, st', fun b hb => (hf b hb).1⟩⟩
  done := by
    intro X hP hw hK hc i pins s σ H E I hf st hg
    subst hP hw hK
    obtain ⟨f0, f1, f2, f3, f4, f5⟩ := hf it (by simp)
    exact wpAny_pyNext_range_end (I.ok.hd hc) st (by have : n ≤ i := hg; omega) fun h' eb => ⟨rfl, I.turned (t' := s.toks) (fun b o hb e => eb b o hb e) f0 f1 f3 f4 f5⟩
  self := fun A i s Q E st h => wpAny_pyIter_rangeiter st h
def RgC (i j c : Int) (n : Nat) : Prop := c ≠ 0 ∧ c.natAbs < 1073741824 ∧ Builtin.Range.small i j c = true ∧ Builtin.Range.rangeSize i j c = n
def iRng3 (ta : TA) : TI := fun σ H R => ta σ H fun vs H1 => ∃ (i j c : Int) (n : Nat), vs = [.int i, .int j, .int c] ∧ RgC i j c n ∧ R (Itc i c n) H1
section
variable {X : Cx} {tg : Expr}
theorem pi_range3 {a b c : Expr} {ta : TA} {p pos : Pos} (hg : Gl X "range") (hm : X.mg "range" = none) (ha : PA X [a, b, c] ta)
    (hs : starEach [a, b, c] X.env = (false, eval a X.env) :: starEach [b, c] X.env := by rfl) (hpl : (backTo pos (starEach [b, c] X.env)).any (·.1) = false := by rfl) :
    PI X tg (.Call (.Name "range" p) [a, b, c] [] pos) (iRng3 ta) := by
  intro pins s σ H R I h
  refine Call_ (ld_blt I hg hm boot_range (PyProof.Rows.callWith_type1 (thn (ha pos pins s σ H _ I h) fun us s1 ⟨vs, H1, I1, r1, q1⟩ => ?_) hs hpl))
  obtain ⟨i, j, k, n, e, ⟨c0, c1, c2, c3⟩, q⟩ := q1
  subst e
  cases r1 with
  | cons r rr =>
    cases rr with
    | cons r' rr =>
      cases rr with
      | cons r'' rr =>
        cases rr
        obtain ⟨t, rfl⟩ := r
        obtain ⟨t', rfl⟩ := r'
        obtain ⟨t'', rfl⟩ := r''
        refine call_range_3 c0 ?_ (.inl (PyProof.noPylong_small c1))
        refine wpAny_pyIter_range (IsRange.new ..) c2 ?_
        have I2 : Inv X pins σ H1 { s1 with heap := s1.heap.push { cls := .type "range", data := .fields #[.int i t, .int j t', .int k t''] } } := I1.kept (t' := s1.toks) fun b o e => Heap.get?_push_of_some _ e
        refine pi_one (tk := s1.toks) I2 _ (turn_rangeC _ i k n) ?_ q
        have e1 : i + ((0 : Nat) : Int) * k = i := by simp
        have e2 : (n : Int) - ((0 : Nat) : Int) = Builtin.Range.rangeSize i j k := by rw [c3]; simp
        show IsRangeIter _ _ (i + ((0 : Nat) : Int) * k) ((n : Int) - ((0 : Nat) : Int)) k
        rw [e1, e2]
        exact Heap.get?_push_size _ rfl
end
section
variable {X : Cx} {tg : Expr}
end
section
variable {prog : Program} {w : World} {A : Around} {E : Value → Shared → Prop} {s : Shared}
end
section
variable {X : Cx} {pins : List (Addr × Obj)} {σ : St} {H : Hp} {s : Shared} {d : Addr} {o : Obj}
end
section
variable {P : Program} {w : World} {K : Frag} {tg : Expr} {d : Addr} {o : Obj} {es : Array DictEntry} {ep : Nat}
end
section
variable {X : Cx} {tg e : Expr} {td : TE} {apos cpos : Pos}
end
def Ite (K : Frag) (a : Addr) : It :=
  ⟨fun i H => ∃ (xs : List V) (x : V), SqL K H a xs ∧ xs[i]? = some x, fun i H v H' => ∃ T x, v = .ref T ∧ H T = none ∧ H' = upd H T (.tup [.int (i : Nat), x]) ∧ ∀ xs, SqL K H a xs → xs[i]? = some x, fun i H => ∃ xs : List V, SqL K H a xs ∧ xs.length ≤ i⟩
theorem turn_enum {P : Program} {w : World} {K : Frag} {elts : List Expr} {kk : Nat} {tpos : Pos} (a e it : Addr) :
    Turn P w K (.Tuple elts kk tpos) (Ite K a) [e, it] e (fun i h => (∃ old, IsEnum h e it ((i : Nat) : Int) old) ∧ h.IsListIter it a i ∧ e ≠ it) where
  mem := by simp
  obj := fun i h st b hb => by
    obtain ⟨⟨old, he⟩, ⟨o, ho, hc, hd⟩, _⟩ := st
    have e' : b = e ∨ b = it := by simpa using hb
    rcases e' with z | z
    · rw [z]; exact ⟨_, he, fun v q => nomatch q⟩
    · rw [z]; exact ⟨o, ho, fun v q => by rw [hd] at q; cases q⟩
  keep := fun i h h' st k => let ⟨⟨old, he⟩, hi, hne⟩ := st; ⟨⟨old, k e (by simp) _ he⟩, hi.at fun o q => k it (by simp) o q, hne⟩
  item := by
    intro X hP hw hK hc i pins s σ H E I hf st hg
    subst hP hw hK
    obtain ⟨⟨old, he⟩, hit, hne⟩ := st
    obtain ⟨xs, x, hq, hx⟩ := hg
    obtain ⟨its, rv, p, hz⟩ := I.list hq
    obtain ⟨u, hu, ru⟩ := rv.get hx
    have hel : e < s.heap.objs.size := Heap.lt_size he
    have hil : it < s.heap.objs.size := by obtain ⟨_, q, _⟩ := hit; exact Heap.lt_size q
    refine wpAny_pyNext_enum_item he hit p.isList (x := u) (by simpa using hu) hne fun h' ho hit' hT hsz hk => ?_
    refine ⟨_, rfl, wpAny_letOwnedTupleGo_enum (s := { s with heap := h', toks := s.toks + 1 }) ho fun h'' he' sb => ?_⟩
    have hT2 : h''.get? s.heap.objs.size = some { cls := .type "tuple", data := .seq #[.int i s.toks, u] } := (sb.2 _ (Nat.ne_of_gt hel)).trans hT
    have new : ObjOk X.prog X.w (upd H s.heap.objs.size (.tup [.int (i : Nat), x])) h'' s.heap.objs.size (.tup [.int (i : Nat), x]) :=
      ⟨by show 2 ≤ sizeLine; decide, [.int i s.toks, u], .cons ⟨_, rfl⟩ (.cons ru .nil), ⟨_, hT2, rfl, _, rfl⟩⟩
    have I1 : Inv X pins σ (upd H s.heap.objs.size (.tup [.int (i : Nat), x])) { s with heap := h'', toks := s.toks + 1 } :=
      I.turnedNew (ch := [e, it]) (fun b ob hb q => (sb.2 b (fun z => hb (by simp [z]))).trans (hk b ob (fun z => hb (by simp [z])) (fun z => hb (by simp [z])) q)) hf (Nat.le_refl _) new
    refine ⟨.ref s.heap.objs.size, _, I1, rfl, ⟨_, x, rfl, I.hok.fresh (Nat.le_refl _), rfl, fun ys hy => by rw [I.list_inj hy hq]; exact hx⟩, ⟨⟨u, ?_⟩, hit'.at fun o q => (sb.2 it (Ne.symm hne)).trans q, hne⟩, fun b hb => ?_⟩
    · have e1 : ((i + 1 : Nat) : Int) = (i : Int) + 1 := by omega
      rw [e1]; exact he'
    · have hb' : b < s.heap.objs.size := by
        have e' : b = e ∨ b = it := by simpa using hb
        rcases e' with z | z
        · rw [z]; exact hel
        · rw [z]; exact hil
      rw [upd_ne (Nat.ne_of_lt hb')]
      exact (hf b hb).1
  done := by
    intro X hP hw hK hc i pins s σ H E I hf st hg
    subst hP hw hK
    obtain ⟨⟨old, he⟩, hit, hne⟩ := st
    obtain ⟨xs, hq, hx⟩ := hg
    obtain ⟨its, rv, p, hz⟩ := I.list hq
    obtain ⟨f0, f1, f2, f3, f4, f5⟩ := hf it (by simp)
    have hl := rv.length
    exact wpAny_pyNext_enum_end (I.ok.hd hc) he hit p.isList (by simp; omega) fun h' eb => ⟨rfl, I.turned (t' := s.toks) (fun b o hb q => eb b o hb q) f0 f1 f3 f4 f5⟩
  self := fun A i s Q E st h => let ⟨⟨_, he⟩, _⟩ := st; wpAny_pyIter_enum he h
def iEnum (K : Frag) (ta : TA) : TI := fun σ H R => ta σ H fun vs H1 => ∃ a xs, vs = [.ref a] ∧ SqL K H1 a xs ∧ R (Ite K a) H1
theorem pi_enum {X : Cx} {e : Expr} {ta : TA} {p pos tpos : Pos} {elts : List Expr} {kk : Nat} (hg : Gl X "enumerate") (hm : X.mg "enumerate" = none) (ha : PA X [e] ta) (hs : starEach [e] X.env = [(false, eval e X.env)] := by rfl) :
    PI X (.Tuple elts kk tpos) (.Call (.Name "enumerate" p) [e] [] pos) (iEnum X.K ta) := by
  intro pins s σ H R I h
  refine Call_ (ld_blt I hg hm boot_enumerate (PyProof.Rows.callWith_type1 (thn (ha pos pins s σ H _ I h) fun us s1 ⟨vs, H1, I1, r1, q1⟩ => ?_) hs rfl))
  obtain ⟨a, xs, ex, hq, q⟩ := q1
  subst ex
  cases r1 with
  | cons r rr =>
    cases rr
    cases r
    obtain ⟨its, rv, p', hz⟩ := I1.list hq
    refine call_enumerate_list p'.isList fun h' he hit hsz hk => wpAny_pyIter_enum he ?_
    have I2 : Inv X pins σ H1 { s1 with heap := h' } := I1.kept (t' := s1.toks) hk
    refine ⟨s1.heap.objs.size + 1, [s1.heap.objs.size + 1, s1.heap.objs.size], _, _, H1, rfl, I2, turn_enum a (s1.heap.objs.size + 1) s1.heap.objs.size, ⟨⟨.none, he⟩, hit, Nat.succ_ne_self _⟩, fun b hb => ?_, q⟩
    have e' : b = s1.heap.objs.size + 1 ∨ b = s1.heap.objs.size := by simpa using hb
    have hle : s1.heap.objs.size ≤ b := by
      rcases e' with z | z
      · rw [z]; exact Nat.le_add_right _ _
      · rw [z]; exact Nat.le_refl _
    exact I1.fpOk hle (I1.hok.fresh hle)
theorem boot_zip5 : bootBuiltins "zip" = some (.type "zip") := by decide +kernel
def Itz (K : Frag) (a b : Addr) : It :=
  ⟨fun i H => ∃ (xs ys : List V) (x y : V), SqL K H a xs ∧ SqL K H b ys ∧ xs[i]? = some x ∧ ys[i]? = some y,
    fun i H v H' => ∃ T x y, v = .ref T ∧ H T = none ∧ H' = upd H T (.tup [x, y]) ∧ (∀ xs, SqL K H a xs → xs[i]? = some x) ∧ ∀ ys, SqL K H b ys → ys[i]? = some y,
    fun i H => ∃ xs ys : List V, SqL K H a xs ∧ SqL K H b ys ∧ (xs.length ≤ i ∨ ys.length ≤ i)⟩
theorem turn_zip {P : Program} {w : World} {K : Frag} {elts : List Expr} {kk : Nat} {tpos : Pos} {a b z TI TO i1 i2 : Addr} (D : ZipApart z TI TO i1 i2 a b) :
    Turn P w K (.Tuple elts kk tpos) (Itz K a b) [z, TI, TO, i1, i2] z (fun i h => IsZip h z TI TO .none ∧ IsPair h TI (.ref i1) (.ref i2) ∧ (∃ x y, IsPair h TO x y) ∧ h.IsListIter i1 a i ∧ h.IsListIter i2 b i) where
  mem := by simp
  obj := fun i h st c hc => by
    obtain ⟨hz, hTI, ⟨x, y, hTO⟩, ⟨o1, e1, _, d1⟩, ⟨o2, e2, _, d2⟩⟩ := st
    have e' : c = z ∨ c = TI ∨ c = TO ∨ c = i1 ∨ c = i2 := by simpa using hc
    rcases e' with q | q | q | q | q
    · rw [q]; exact ⟨_, hz, fun v q => nomatch q⟩
    · rw [q]; exact ⟨_, hTI, fun v q => nomatch q⟩
    · rw [q]; exact ⟨_, hTO, fun v q => nomatch q⟩
    · rw [q]; exact ⟨o1, e1, fun v q => by rw [d1] at q; cases q⟩
    · rw [q]; exact ⟨o2, e2, fun v q => by rw [d2] at q; cases q⟩
  keep := fun i h h' st k => by
    obtain ⟨hz, hTI, ⟨x, y, hTO⟩, h1, h2⟩ := st
    exact ⟨k z (by simp) _ hz, k TI (by simp) _ hTI, ⟨x, y, k TO (by simp) _ hTO⟩, h1.at fun o q => k i1 (by simp) o q, h2.at fun o q => k i2 (by simp) o q⟩
  item := by
    intro X hP hw hK hc i pins s σ H E I hf st hg
    subst hP hw hK
    obtain ⟨hz, hTI, ⟨x0, y0, hTO⟩, h1, h2⟩ := st
    obtain ⟨xs, ys, x, y, hqx, hqy, hx, hy⟩ := hg
    obtain ⟨its, rv, p, _⟩ := I.list hqx
    obtain ⟨its2, rv2, p2, _⟩ := I.list hqy
    obtain ⟨u, hu, ru⟩ := rv.get hx
    obtain ⟨u2, hu2, ru2⟩ := rv2.get hy
    have hzl : z < s.heap.objs.size := Heap.lt_size hz
    refine wpAny_pyNext_zip_item D hz hTI hTO h1 h2 p.isList p2.isList (x := u) (y := u2) (by simpa using hu) (by simpa using hu2) fun h' z' TO' h1' h2' hT hsz hk => ?_
    refine ⟨_, rfl, wpAny_letOwnedTupleGo_zip (s := { s with heap := h' }) z' fun h'' z'' sb => ?_⟩
    have hT2 : h''.get? s.heap.objs.size = some { cls := .type "tuple", data := .seq #[u, u2] } := (sb.2 _ (Nat.ne_of_gt hzl)).trans hT
    have new : ObjOk X.prog X.w (upd H s.heap.objs.size (.tup [x, y])) h'' s.heap.objs.size (.tup [x, y]) :=
      ⟨by show 2 ≤ sizeLine; decide, [u, u2], .cons ru (.cons ru2 .nil), ⟨_, hT2, rfl, _, rfl⟩⟩
    have I1 : Inv X pins σ (upd H s.heap.objs.size (.tup [x, y])) { s with heap := h'' } :=
      I.turnedNew (t' := s.toks) (ch := [z, TI, TO, i1, i2]) (fun c o hb q => (sb.2 c (fun q' => hb (by simp [q']))).trans (hk c o (fun q' => hb (by simp [q'])) (fun q' => hb (by simp [q'])) (fun q' => hb (by simp [q'])) (fun q' => hb (by simp [q'])) q)) hf (Nat.le_refl _) new
    refine ⟨.ref s.heap.objs.size, _, I1, rfl, ⟨_, x, y, rfl, I.hok.fresh (Nat.le_refl _), rfl, fun l hl => by rw [I.list_inj hl hqx]; exact hx, fun l hl => by rw [I.list_inj hl hqy]; exact hy⟩, ⟨z'', ?_, ⟨u, u2, ?_⟩, ?_, ?_⟩, fun c hcm => ?_⟩
    · exact (sb.2 _ D.TIz).trans (hk _ _ D.TIz D.TITO D.TIi1 D.TIi2 hTI)
    · exact (sb.2 _ D.TOz).trans TO'
    · exact h1'.at fun o q => (sb.2 _ D.i1z).trans q
    · exact h2'.at fun o q => (sb.2 _ D.i2z).trans q
    · have hlt : c < s.heap.objs.size := by
        have e' : c = z ∨ c = TI ∨ c = TO ∨ c = i1 ∨ c = i2 := by simpa using hcm
        rcases e' with q | q | q | q | q
        · rw [q]; exact hzl
        · rw [q]; exact Heap.lt_size hTI
        · rw [q]; exact Heap.lt_size hTO
        · rw [q]; obtain ⟨_, e1, _⟩ := h1; exact Heap.lt_size e1
        · rw [q]; obtain ⟨_, e2, _⟩ := h2; exact Heap.lt_size e2
      rw [upd_ne (Nat.ne_of_lt hlt)]
      exact (hf c hcm).1
  done := by
    intro X hP hw hK hc i pins s σ H E I hf st hg
    subst hP hw hK
    obtain ⟨hz, hTI, ⟨x0, y0, hTO⟩, h1, h2⟩ := st
    obtain ⟨xs, ys, hqx, hqy, hend⟩ := hg
    obtain ⟨its, rv, p, _⟩ := I.list hqx
    obtain ⟨its2, rv2, p2, _⟩ := I.list hqy
    have l1 := rv.length
    have l2 := rv2.length
    have he : its.toArray[i]? = none ∨ its2.toArray[i]? = none := by
      rcases hend with q | q
      · exact .inl (by simp; omega)
      · exact .inr (by simp; omega)
    exact wpAny_pyNext_zip_end (I.ok.hd hc) D hz hTI hTO h1 h2 p.isList p2.isList he fun h' hk => ⟨rfl, I.turnedL (t' := s.toks) (ch := [z, TI, TO, i1, i2]) (fun c o hb q =>
      hk c o (fun q' => hb (by simp [q'])) (fun q' => hb (by simp [q'])) (fun q' => hb (by simp [q'])) (fun q' => hb (by simp [q'])) q) hf⟩
  self := fun A i s Q E st h => wpAny_pyIter_zip st.1 h
def iZip (K : Frag) (ta : TA) : TI := fun σ H R => ta σ H fun vs H1 => ∃ a b xs ys, vs = [.ref a, .ref b] ∧ SqL K H1 a xs ∧ SqL K H1 b ys ∧ R (Itz K a b) H1
theorem pi_zip {X : Cx} {e e2 : Expr} {ta : TA} {p pos tpos : Pos} {elts : List Expr} {kk : Nat} (hg : Gl X "zip") (hm : X.mg "zip" = none) (ha : PA X [e, e2] ta)
    (hs : starEach [e, e2] X.env = (false, eval e X.env) :: starEach [e2] X.env := by rfl) (hpl : (backTo pos (starEach [e2] X.env)).any (·.1) = false := by rfl) :
    PI X (.Tuple elts kk tpos) (.Call (.Name "zip" p) [e, e2] [] pos) (iZip X.K ta) := by
  intro pins s σ H R I h
  refine Call_ (ld_blt I hg hm boot_zip5 (PyProof.Rows.callWith_type1 (thn (ha pos pins s σ H _ I h) fun us s1 ⟨vs, H1, I1, r1, q1⟩ => ?_) hs hpl))
  obtain ⟨a, b, xs, ys, ex, hqx, hqy, q⟩ := q1
  subst ex
  cases r1 with
  | cons r rr =>
    cases rr with
    | cons r' rr =>
      cases rr
      cases r
      cases r'
      obtain ⟨its, rv, p1, _⟩ := I1.list hqx
      obtain ⟨its2, rv2, p2, _⟩ := I1.list hqy
      have la : a < s1.heap.objs.size := p1.lt
      have lb : b < s1.heap.objs.size := p2.lt
      refine call_zip_2 p1.isList p2.isList fun h' hz hTI hTO h1 h2 hsz hk => wpAny_pyIter_zip hz ?_
      have I2 : Inv X pins σ H1 { s1 with heap := h' } := I1.kept (t' := s1.toks) hk
      refine ⟨s1.heap.objs.size + 4, [s1.heap.objs.size + 4, s1.heap.objs.size + 2, s1.heap.objs.size + 3, s1.heap.objs.size, s1.heap.objs.size + 1], _, _, H1, rfl, I2, turn_zip (PySem.W.ktu_apart s1.heap.objs.size a b la lb), ⟨hz, hTI, ⟨_, _, hTO⟩, h1, h2⟩, fun c hcm => ?_, q⟩
      have e' : c = s1.heap.objs.size + 4 ∨ c = s1.heap.objs.size + 2 ∨ c = s1.heap.objs.size + 3 ∨ c = s1.heap.objs.size ∨ c = s1.heap.objs.size + 1 := by simpa using hcm
      have hle : s1.heap.objs.size ≤ c := by
        rcases e' with z | z | z | z | z
        · rw [z]; exact Nat.le_add_right _ _
        · rw [z]; exact Nat.le_add_right _ _
        · rw [z]; exact Nat.le_add_right _ _
        · rw [z]; exact Nat.le_refl _
        · rw [z]; exact Nat.le_add_right _ _
      exact I1.fpOk hle (I1.hok.fresh hle)
end L2
section
namespace Bits
open PySem PyProof.Rows
end Bits
end
section
namespace TL
open PySem PySem.Builtin PySem.Builtin.Str PySem.StrLaws
end TL
end
namespace L2
open PySem PySem.Spec PyProof.Rows
section
variable {X : Cx} {pins : List (Addr × Obj)} {σ : St} {H : Hp} {s : Shared} {Q : VK}
end
section
variable {X : Cx}
end
section
variable {X : Cx} {o e : Expr} {to te : TE}
end
end L2
namespace L2
open PySem PySem.Spec PyProof.Rows
section
variable {X : Cx}
end
end L2
namespace Att
open PySem PySem.W PySem.Calls PyProof.Rows
section
variable {prog : Program} {w : World} {A : Around} {E : Value → Shared → Prop} {s : Shared} {K : Frag}
end
end Att
namespace L2
open PySem PySem.Spec PyProof.Rows
end L2
namespace L2
open PySem PySem.Spec PyProof.Rows
end L2
namespace L2
open PySem PySem.Spec PyProof.Rows
def inClass (s : Stmt) (j : Nat) : Stmt := match s with
  | .ClassDef _ _ _ body _ _ _ _ _ _ _ => body.getD j (.Pass ⟨0, 0, 0, 0⟩)
  | _ => .Pass ⟨0, 0, 0, 0⟩
def defArgs (s : Stmt) : Arguments := match s with
  | .FunctionDef _ a _ _ _ _ _ _ _ _ => a
  | _ => { posonlyargs := [], args := [], vararg := none, kwonlyargs := [], kw_defaults := [], kwarg := none, defaults := [] }
def defBody (s : Stmt) : List Stmt := match s with
  | .FunctionDef _ _ b _ _ _ _ _ _ _ => b
  | _ => []
def defScope (s : Stmt) : Scope := match s with
  | .FunctionDef _ _ _ _ _ _ sc _ _ _ => sc
  | _ => { kind := .function, names := [], isGenerator := false, isCoroutine := false }
abbrev CX0 : CXT := fun _ _ _ _ _ _ => False
abbrev E0 : XK := fun _ _ _ => False
theorem pass0 {X : Cx} : Passes CX0 X E0 := fun _ _ _ _ _ _ _ h => h.elim
structure Fun (K : Frag) (x qual : Str) (st : Stmt) (f : Addr) (fd : FuncData) : Prop where
  ex : ∃ (oc : Value) (od : Option Addr) (kV doc pm : Value) (an : Option Addr) (cdv ct : Value) (osl : Array (Option Value)),
    fd = PySem.W.fnOf x qual (defArgs st) (defBody st) (defScope st) .none kV doc pm an cdv ct ∧ K.lookup f = some ⟨oc, od, .func fd, osl⟩ ∧ PySem.W.codeIn K cdv qual = true
  kp : PySem.W.keepIn K (.ref f) = true
section
variable {P : Program} {w : World} {K : Frag} {mg : Str → Option Value} {base : Heap}
theorem Fun.ok {x qual : Str} {st : Stmt} {f : Addr} {fd : FuncData} {N ps : List Str} {k : Nat} {sp : Sp} (F : Fun K x qual st f fd) (S : FnScope N ps (defScope st)) (len : ∀ vs H Q E, sp vs H Q E → vs.length = ps.length)
    (hbody : ∀ (cdv : Value) (A : Around) (outer : List Env) (s : Shared) (H : Hp) (vs : List V) (Q : VK) (E : XK), Room k (A.deeper (envOfC qual (defScope st) s.heap.objs.size f cdv)) → sp vs H Q E →
      ∃ t, PSs (cxOf CX0 P w K mg base N qual (defScope st) f cdv A outer s H E).nox (defBody st) t ∧ t { nx := fun _ H' => Q .non H', rt := Q } (start N vs) H) : FnOk P w K mg base CX0 (k + 1) f fd ps sp := by
  obtain ⟨oc, od, kV, doc, pm, an, cdv, ct, osl, rfl, lk, hcd⟩ := F.ex
  refine fn_of lk hcd S len fun A outer s H vs Q E hr hsp => ?_
  obtain ⟨t, h, q⟩ := hbody cdv A outer s H vs Q E hr hsp
  exact ⟨t, h.nox, q⟩
theorem Fun.binds {x qual : Str} {st : Stmt} {f : Addr} {fd : FuncData} {ps : List Str} (F : Fun K x qual st f fd)
    (h : ∀ (kV doc pm : Value) (an : Option Addr) (cdv ct : Value) (us : List Value), us.length = ps.length → bindArgs (PySem.W.fnOf x qual (defArgs st) (defBody st) (defScope st) .none kV doc pm an cdv ct) ⟨us, []⟩ = pure (ps.zip us)) : Binds K fd ps [] := by
  obtain ⟨oc, od, kV, doc, pm, an, cdv, ct, osl, rfl, lk, hcd⟩ := F.ex
  exact .all (h kV doc pm an cdv ct)
theorem fun_mk {x qual : Str} {st : Stmt} {f : Addr} {oc : Value} {od an : Option Addr} {osl : Array (Option Value)} {kV doc pm cdv ct : Value} (l : K.lookup f = some ⟨oc, od, .func (PySem.W.fnOf x qual (defArgs st) (defBody st) (defScope st) .none kV doc pm an cdv ct), osl⟩)
    (c : PySem.W.codeIn K cdv qual = true) (k : PySem.W.keepIn K (.ref f) = true) : Fun K x qual st f (PySem.W.fnOf x qual (defArgs st) (defBody st) (defScope st) .none kV doc pm an cdv ct) := ⟨⟨oc, od, kV, doc, pm, an, cdv, ct, osl, rfl, l, c⟩, k⟩
end
section
variable {X : Cx}
theorem pv (i : Nat) {x : Str} {pos : Pos} (hN : X.N[i]? = some x := by rfl) (hv : Vis X.env.scope x := by first | exact Or.inl rfl | exact Or.inr (Or.inl rfl) | exact Or.inr (Or.inr rfl)) (hd : (x == ("__debug__" : Str)) = false := by decide)
    (hcd : (x == ("__classdict__" : Str)) = false := by decide) : PE X (.Name x pos) (tVar i) := pe_var hN hv hd hcd
end
theorem iteF {A B : Prop} (h : B) : if false = true then A else B := by
  rw [if_neg Bool.false_ne_true]
  exact h
theorem iteT {A B : Prop} (h : A) : if true = true then A else B := by
  rw [if_pos rfl]
  exact h
theorem ite2 {c A B : Prop} [Decidable c] (h1 : c → A) (h2 : ¬ c → B) : if c then A else B := by
  by_cases h : c
  · rw [if_pos h]
    exact h1 h
  · rw [if_neg h]
    exact h2 h
def Same (H H' : Hp) : Prop := ∀ b o, H b = some o → H' b = some o
theorem Same.refl (H : Hp) : Same H H := fun _ _ h => h
theorem Same.trans {H H1 H2 : Hp} (a : Same H H1) (b : Same H1 H2) : Same H H2 := fun c o h => b c o (a c o h)
theorem Same.free {H H' : Hp} (e : Same H H') {l : Addr} (h : H' l = Option.none) : H l = Option.none := by
  cases q : H l with
  | none => rfl
  | some o =>
    rw [e l o q] at h
    cases h
theorem Same.seq {K : Frag} {H H' : Hp} {a : Addr} {xs : List V} (e : Same H H') (h : SqL K H a xs) : SqL K H' a xs := by
  rcases h with (h | ⟨o, h⟩) | h
  · exact .inl (.inl (e _ _ h))
  · exact .inl (.inr ⟨o, e _ _ h⟩)
  · exact .inr h
section
variable {κ : Type} [DecidableEq κ]
end
theorem at_of {xs : List V} {z : Int} {j : Nat} {v : V} (e : z = (j : Int)) (h : xs[j]? = some v) : atI xs z = some v := by
  rw [e]
  exact atI_nat h
theorem Same.made {H H1 : Hp} {x dx C : Addr} (nx : H x = Option.none) (nd : H dx = Option.none) (k : ∀ b o, (upd (upd H dx (.own x)) x (.ins C dx [])) b = some o → b ≠ x → H1 b = some o) : Same H H1 := fun b o e =>
  k b o (by rw [upd_ne (ne_of_none e nx), upd_ne (ne_of_none e nd)]; exact e) (ne_of_none e nx)
end L2
namespace L2
open PySem PySem.Spec PyProof.Rows
section
variable {X : Cx}
theorem call_range2V : CallR X (.type "range") (fun xs H Q => ∃ i j : Int, xs = [.int i, .int j] ∧ ∀ p, H p = none → Q (.ref p) (upd H p (.rng i j))) := by
  intro pins s σ H xs us Q I r h
  obtain ⟨i, j, rfl, q⟩ := h
  cases r with
  | cons r1 rr =>
    cases rr with
    | cons r2 rr =>
      cases rr
      obtain ⟨t, rfl⟩ := r1
      obtain ⟨t', rfl⟩ := r2
      refine call_range_2 ⟨.ref s.heap.objs.size, _, I.laid (t' := s.toks + 1) (o := .rng i j) (fun b u e => Heap.get?_push_of_some _ e) (Nat.le_refl _) ?_, rfl, q _ (I.hok.fresh (Nat.le_refl _))⟩
      exact ⟨t, t', s.toks, Heap.get?_push_size _ rfl⟩
def upto (lo hi : Int) : List Int := (List.range (hi - lo).toNat).map fun i => lo + (i : Nat)
theorem vals_upto {lo : Int} {n : Nat} {acc : Array Value} (h : ItemsOf (fun i v => ∃ t, v = .int (lo + i * 1) t) acc n) : Vals (((List.range n).map fun i => lo + (i : Nat)).map V.int) acc.toList := by
  obtain ⟨h1, h2⟩ := h
  have key : ∀ (l : List Value) (k : Nat), (∀ j v, l[j]? = some v → ∃ t, v = Value.int (lo + ((k + j : Nat) : Int)) t) → Vals (((List.range' k l.length).map fun i => lo + (i : Nat)).map V.int) l := by
    intro l
    induction l with
    | nil => intro k _; exact .nil
    | cons u l ih =>
      intro k hk
      rw [List.length_cons, List.range'_succ, List.map_cons, List.map_cons]
      obtain ⟨t, e⟩ := hk 0 u rfl
      refine .cons ⟨t, by simpa using e⟩ (ih (k + 1) fun j v hv => ?_)
      obtain ⟨t, e⟩ := hk (j + 1) v hv
      exact ⟨t, by rw [e]; congr 2; omega⟩
  have q := key acc.toList 0 fun j v hv => by
    obtain ⟨t, e⟩ := h2 j v (by simpa using hv)
    exact ⟨t, by rw [e, Int.mul_one, Nat.zero_add]⟩
  rw [Array.length_toList, h1, ← List.range_eq_range'] at q
  exact q
theorem call_list_rng (hc : X.calm = true) : CallR X (.type "list") (fun xs H Q => ∃ (p : Addr) (lo hi : Int), xs = [.ref p] ∧ H p = some (.rng lo hi) ∧ (-(2 ^ 62) ≤ lo ∧ lo < 2 ^ 62 ∧ -(2 ^ 62) ≤ hi ∧ hi < 2 ^ 62) ∧ (hi - lo).toNat ≤ 1000 ∧
    ∀ l, H l = none → Q (.ref l) (upd H l (.lst ((upto lo hi).map V.int)))) := by
  intro pins s σ H xs us Q I r h
  obtain ⟨p, lo, hi, rfl, hp, ⟨b1, b2, b3, b4⟩, hl, q⟩ := h
  obtain ⟨u, rfl, rx⟩ := vals1 r
  cases rx
  obtain ⟨t, u, v, e⟩ := I.hok p _ hp
  have hn : Builtin.Range.rangeSize lo hi 1 = (((hi - lo).toNat : Nat) : Int) := by rw [rangeSize_one]; split <;> omega
  refine call_list_range (I.ok.hd hc) e (small_one b1 b2 b3 b4) hn (by omega) fun h' tk acc c' hk hS hacc => ?_
  refine ⟨.ref s.heap.objs.size, _, I.laid (t' := tk) (o := .lst ((upto lo hi).map V.int)) hk (Nat.le_refl _) ?_, rfl, q _ (I.hok.fresh (Nat.le_refl _))⟩
  refine ⟨?_, acc.toList, c', ?_, by simpa using hS⟩
  · unfold upto
    rw [List.length_map, List.length_map, List.length_range, sizeLine_eq]
    omega
  · exact vals_upto hacc
end
end L2
namespace L2
open PySem PySem.Spec PyProof.Rows
def oncePy (ns : List Int) : List Int := ns.foldl step_dedup []
theorem firstMet_once (ns : List Int) : firstMet (fun i => ns.getD i 0) ns.length = oncePy ns := by
  unfold firstMet oncePy
  congr 1
  refine List.ext_getElem (by rw [List.length_map, List.length_range]) fun i h1 h2 => ?_
  rw [List.getElem_map, List.getElem_range, List.getD_eq_getElem?_getD, List.getElem?_eq_getElem h2]
  rfl
section
variable {X : Cx}
theorem call_set_ints (hc : X.calm = true) : CallR X (.type "set") (fun xs H Q => ∃ (a : Addr) (ns : List Int), xs = [.ref a] ∧ SqL X.K H a (ns.map V.int) ∧ ns.length ≤ 1000 ∧
    ∀ l, H l = none → Q (.ref l) (upd H l (.set (fun k => (oncePy ns).any (· == k)) (oncePy ns).length))) := by
  intro pins s σ H xs us Q I r h
  obtain ⟨a, ns, rfl, hq, hl, q⟩ := h
  obtain ⟨u, rfl, rx⟩ := vals1 r
  cases rx
  obtain ⟨its, rv, pl, hz⟩ := I.list hq
  have hi := rv.ints
  have hlen : its.length = ns.length := by rw [← rv.length, List.length_map]
  refine PySem.call_set_list (items := its.toArray) (ns := ns) (I.ok.hd hc) pl.isList (by simpa using hi) (by rw [List.size_toArray, hlen]; unfold scanBound; omega) fun h' tk hS hk => ?_
  have e9 : its.toArray.size = ns.length := by rw [List.size_toArray, hlen]
  rw [e9, firstMet_once] at hS
  exact ⟨.ref s.heap.objs.size, _, I.laid (t' := tk) (o := .set (fun k => (oncePy ns).any (· == k)) (oncePy ns).length) (fun b u e => hk b u (Heap.lt_size e) e) (Nat.le_refl _) hS, rfl, q _ (I.hok.fresh (Nat.le_refl _))⟩
theorem call_len_setP : CallR X (.builtin "len") (fun xs H Q => ∃ (a : Addr) (S : Int → Bool) (n : Nat), xs = [.ref a] ∧ H a = some (.set S n) ∧ n ≤ 1000 ∧ Q (.int n) H) := by
  intro pins s σ H xs us Q I r h
  obtain ⟨a, S, n, rfl, ha, hn, q⟩ := h
  obtain ⟨u, rfl, rx⟩ := vals1 r
  cases rx
  obtain ⟨so, ho, hso⟩ := (show s.heap.SetOf (intKind X.prog X.w) a S n from I.hok a _ ha).objOf
  obtain ⟨hex, es, ep, t, hd, _, _, e, hf⟩ := hso
  subst e
  exact call_len_set ho hex hd hf (by omega) ⟨.int _, H, I.tok _, ⟨_, rfl⟩, q⟩
end
end L2
namespace L2
open PySem PySem.Spec PyProof.Rows
def TabAt (tab : Addr) (lp : Pos) (lq : Str) (H : Hp) : Prop :=
  H tab = some (.tbl #[]) ∨ ∃ c', H tab = some (.tbl #[rawInt lp.line, rawInt lp.col, .ref c']) ∧ H c' = some (.ext fun h => h.CodeRec (.ref c') lq)
section
variable {X : Cx} {pins : List (Addr × Obj)} {σ : St} {H : Hp} {s : Shared}
theorem codeRec_ext {c' : Addr} {lq : Str} {h : Heap} (r : h.CodeRec (.ref c') lq) {P : Program} {w : World} {H : Hp} : ObjOk P w H h c' (.ext fun h => h.CodeRec (.ref c') lq) := by
  refine ⟨r, ?_, fun h1 h2 r1 k => ?_⟩
  · obtain ⟨c, oc, vs, t, e, ho, _⟩ := r
    cases e
    exact ⟨oc, ho⟩
  · obtain ⟨c, oc, vs, t, e, ho, r⟩ := r1
    cases e
    exact ⟨c', oc, vs, t, rfl, k _ ho, r⟩
theorem Inv.grown {tab c' : Addr} {lp : Pos} {lq : Str} {h' : Heap} {t' : Nat} (I : Inv X pins σ H s) (hT : H tab = some (.tbl #[])) (hx : ∀ b o, b ≠ tab → s.heap.get? b = some o → h'.get? b = some o)
    (hc : s.heap.objs.size ≤ c') (hr : h'.CodeRec (.ref c') lq) (ht : h'.get? tab = some { cls := .none, data := .fields #[rawInt lp.line, rawInt lp.col, .ref c'] }) :
    Inv X pins σ (upd (upd H tab (.tbl #[rawInt lp.line, rawInt lp.col, .ref c'])) c' (.ext fun h => h.CodeRec (.ref c') lq)) { s with heap := h', toks := t' } := by
  have hn : H c' = none := I.hok.fresh hc
  have htc : tab ≠ c' := ne_of_none hT hn
  have nt : ∀ b, H b = none → b ≠ tab := fun b n z => by rw [z, hT] at n; cases n
  have nc : ∀ b o, s.heap.get? b = some o → b ≠ c' := fun b o e => Nat.ne_of_lt (Nat.lt_of_lt_of_le (Heap.lt_size e) hc)
  have keepH : ∀ b u, H b = some u → b ≠ tab → upd (upd H tab (.tbl #[rawInt lp.line, rawInt lp.col, .ref c'])) c' (.ext fun h => h.CodeRec (.ref c') lq) b = some u := fun b u e n => by
    rw [upd_ne (ne_of_none e hn), upd_ne n]
    exact e
  refine I.step (g' := s.gens) (d' := s.drawn) (ch := []) (fun _ z => nomatch z) (fun b o _ _ _ e n => hx b o (nt b n) e) (fun b o _ _ _ e n => ⟨o.slots, hx b o (nt b n) e⟩) (fun b o _ e n => ?_) (fun b o _ e => ?_) (fun b xs e => ?_) (fun b o u e => ?_) (fun b ps e => ?_) (fun m hm => ?_) (fun b u e => ?_) I.bare
  · rw [upd_ne (nc b o e), upd_ne (nt b n)]
    exact n
  · by_cases hb : b = tab
    · subst hb; exact ⟨_, ht⟩
    · exact ⟨o, hx b o hb e⟩
  · exact keepH b _ e (ne_of e hT (by intro z; cases z))
  · exact keepH b _ e (ne_of e hT (by intro z; cases z))
  · by_cases hb : b = tab
    · subst hb
      rw [hT] at e
      cases e
      exact ⟨#[rawInt lp.line, rawInt lp.col, .ref c'], by rw [upd_ne htc, upd_same]; simp⟩
    · exact ⟨#[], by rw [keepH b _ e hb]; simp⟩
  · obtain ⟨o, es, ep, ho, r⟩ := hm
    exact ⟨o, es, ep, hx _ o (nt _ I.free) ho, r⟩
  · by_cases hb : b = c'
    · subst hb
      rw [upd_same] at e
      cases e
      exact codeRec_ext hr
    · rw [upd_ne hb] at e
      by_cases hb2 : b = tab
      · subst hb2
        rw [upd_same] at e
        cases e
        exact ht
      · rw [upd_ne hb2] at e
        refine (I.hok b u e).stay (fun c v hc' q => hx c v ?_ q) (fun c q => keepH c _ q (ne_of q hT (by intro z; cases z))) fun c xs q => keepH c _ q (ne_of q hT (by intro z; cases z))
        rcases hc' with z | z
        · rw [z]; exact hb2
        · exact ne_of z hT (by intro z; cases z)
theorem ObjOk.some {P : Program} {w : World} {H : Hp} {h : Heap} {a : Addr} {o : HO} (x : ObjOk P w H h a o) : ∃ u, h.get? a = some u := by
  cases o with
  | lst xs => obtain ⟨_, _, _, _, e⟩ := x; exact ⟨_, e⟩
  | tup xs => obtain ⟨_, _, _, ob, e, _⟩ := x; exact ⟨_, e⟩
  | dK kvs => obtain ⟨_, _, _, _, o, _, _, e, _⟩ := x; exact ⟨_, e⟩
  | dT kvs => obtain ⟨_, _, _, _, o, _, _, e, _⟩ := x; exact ⟨_, e⟩
  | set S n => obtain ⟨o, _, _, _, e, _⟩ := x; exact ⟨_, e⟩
  | ins C dx fs => obtain ⟨_, _, _, e, _⟩ := x; exact ⟨_, e⟩
  | own y => obtain ⟨_, e⟩ := x; exact ⟨_, e⟩
  | xd fs => obtain ⟨_, ⟨_, _, _, e, _⟩, _⟩ := x; exact ⟨_, e⟩
  | rng lo hi => obtain ⟨_, _, _, e⟩ := x; exact ⟨_, e⟩
  | frz ob u => obtain ⟨e, _⟩ := x; exact ⟨_, e⟩
  | tbl ps => exact ⟨_, (show h.get? a = Option.some _ from x)⟩
  | met f y => exact ⟨_, (show h.get? a = Option.some _ from x)⟩
  | ext φ => obtain ⟨_, ⟨_, e⟩, _⟩ := x; exact ⟨_, e⟩
theorem Inv.newsLaid {D : Addr} {o : HO} {h' : Heap} {t' : Nat} {m : Str → Option Value} (I : Inv X pins σ H s) (hm : s.heap.Ns X.env.locals m) (hm' : h'.Ns X.env.locals m)
    (k : ∀ b o, b ≠ X.env.locals → s.heap.get? b = some o → h'.get? b = some o) (hD : s.heap.get? D = none) (hn : H D = none) (new : ObjOk X.prog X.w (upd H D o) h' D o) : Inv X pins σ (upd H D o) { s with heap := h', toks := t' } := by
  have nL : ∀ b u, H b = some u → b ≠ X.env.locals := fun b u e z => by rw [z, I.free] at e; cases e
  refine I.step (g' := s.gens) (d' := s.drawn) (ch := []) (fun _ z => nomatch z) (fun b o hb _ _ e n => k b o hb e) (fun b o hb _ _ e n => ⟨o.slots, k b o hb e⟩) (fun b o _ e n => ?_) (fun b o _ e => ?_) (fun b xs e => ?_) (fun b o u e => ?_) (fun b ps e => ?_) (fun m2 h2 => ?_) (fun b u e => ?_) I.bare
  · rw [upd_ne (fun z => by rw [z, hD] at e; cases e)]
    exact n
  · by_cases hb : b = X.env.locals
    · subst hb
      obtain ⟨o', es, ep, ho, r⟩ := hm'
      exact ⟨o', ho⟩
    · exact ⟨o, k b o hb e⟩
  · rw [upd_ne (ne_of_none e hn)]; exact e
  · rw [upd_ne (ne_of_none e hn)]; exact e
  · exact ⟨#[], by rw [upd_ne (ne_of_none e hn), e]; simp⟩
  · have e : m2 = m := by
      obtain ⟨o1, es1, ep1, a1, b1, c1, d1⟩ := h2
      obtain ⟨o2, es2, ep2, a2, b2, c2, d2⟩ := hm
      rw [a1] at a2
      cases a2
      rw [b1] at b2
      cases b2
      funext x
      rw [← d1 x, d2 x]
    rw [e]
    exact hm'
  · by_cases hb : b = D
    · subst hb
      rw [upd_same] at e
      cases e
      exact new
    · rw [upd_ne hb] at e
      refine (I.hok b u e).stay (fun c v hc q => k c v ?_ q) (fun c q => by rw [upd_ne (ne_of_none q hn)]; exact q) fun c xs q => by rw [upd_ne (ne_of_none q hn)]; exact q
      rcases hc with z | z
      · rw [z]; exact nL b u e
      · exact nL c _ z
end
def KeyAt (K : Frag) (C : Addr) (f1 fld : Str) (H : Hp) (b : Addr) (k : Int) : Prop := ∃ dx fs b2 C2 dx2 fs2, H b = some (.ins C dx fs) ∧ fs.lookup f1 = some (.ref b2) ∧ H b2 = some (.ins C2 dx2 fs2) ∧ fs2.lookup fld = some (.int k) ∧ Cls K C2 ∧ NoAttr K C2 fld
def tSortKey (K : Frag) (C tab : Addr) (f1 fld : Str) (lp : Pos) (lq : Str) (te : TE) : TE := fun σ H Q => te σ H fun x H1 => ∃ (a : Addr) (as : List Addr) (ks : List Int), x = .ref a ∧ SqL K H1 a (as.map V.ref) ∧ ks.length = as.length ∧
  (∀ (i : Nat) (b : Addr) (k : Int), as[i]? = some b → ks[i]? = some k → KeyAt K C f1 fld H1 b k) ∧ Cls K C ∧ NoAttr K C f1 ∧ TabAt tab lp lq H1 ∧
  ∀ (H2 : Hp) (ps : List (Int × Addr)) (D : Addr), ps.Perm (ks.zip as) → ps.Pairwise (fun p q => p.1 ≤ q.1) → (∀ z, ps.filter (fun p => p.1 == z) = (ks.zip as).filter (fun p => p.1 == z)) →
    H1 D = none → (∀ b o, H1 b = some o → b ≠ tab → H2 b = some o) → TabAt tab lp lq H2 → H2 D = some (.lst (ps.map fun p => V.ref p.2)) → Q (.ref D) H2
section
variable {X : Cx} {pins : List (Addr × Obj)} {σ : St} {H : Hp} {s : Shared}
def adr : Value → Addr
  | .ref b => b
  | _ => 0
theorem adrs_of : ∀ {as : List Addr} {us : List Value}, Vals (as.map V.ref) us → us.map adr = as
  | [], _, r => by cases r; rfl
  | a :: as, _, r => by
    cases r with
    | cons r1 r2 =>
      cases r1
      rw [List.map_cons, adrs_of r2]
      rfl
theorem lam_call {A : Around} {g h : Heap} {L f c' b dx C b2 dx2 C2 : Addr} {m : Str → Option Value} {news : List (Addr × Obj)} {mA mB : Str → Option Value} {lq y f1 fld : Str} {params : Arguments} {scope : Scope} {np ap ap1 : Pos} {pm ctv : Value} {k : Int} {t : Tok} {s₁ : Shared} {tk : Nat} {prog : Program} {w : World} {K : Frag}
    (F : Fr g L h m) (N : News g L h news) (KX : K.In g) (lim : g.NoLimit) (hroom : A.depth < recursionLimit)
    (hf : h.get? f = some (PySem.W.kla_obj "<lambda>" lq params (.Attribute (.Attribute (.Name y np) f1 ap1) fld ap) scope [] pm c' ctv)) (hcr : h.CodeRec (.ref c') lq) (O : ObjM h b dx C mA) (hv : mA f1 = some (.ref b2)) (O2 : ObjM h b2 dx2 C2 mB) (hv2 : mB fld = some (.int k t))
    (cls : Cls K C) (na : NoAttr K C f1) (cls2 : Cls K C2) (na2 : NoAttr K C2 fld)
    (hbind : ∀ (pm cdv ct u : Value), bindArgs (PySem.W.kla_fn "<lambda>" lq params (.Attribute (.Attribute (.Name y np) f1 ap1) fld ap) scope [] pm cdv ct) ⟨[u], []⟩ = pure [(y, u)])
    (hk : scope.kind = .function) (hco : scope.isCoroutine = false) (hgen : scope.isGenerator = false) (hcell : ∀ x ∈ scope.names, x.2 ≠ .cell) (hy : scope.names.lookup y = some .local) (hdb : (y == ("__debug__" : Str)) = false)
    (hab : ∀ env : Env, attributeBase (.Name y np) f1 env (eval (.Name y np) env) = eval (.Name y np) env) (hab2 : ∀ env : Env, attributeBase (.Attribute (.Name y np) f1 ap1) fld env (eval (.Attribute (.Name y np) f1 ap1) env) = eval (.Attribute (.Name y np) f1 ap1) env) :
    wpAny (model prog w) A (call (.ref f) [.ref b]) (KskEnd g L m news k { s₁ with heap := h, toks := tk }) (fun _ _ => False) { s₁ with heap := h, toks := tk } := by
  refine wpAny_call (PySem.W.kla_callFunE hroom hf rfl hco hgen rfl hcr ?_)
  rw [hbind]
  refine wpAny_pure (wpAny_newFunctionEnv hcell (fun x hx => by obtain rfl := List.mem_singleton.mp hx; exact hy) (fun h₁ hns hsb => ⟨(lim.keeps F.keep).fresh _ hsb, ?_⟩) hk)
  have hk₁ : ∀ b o, h.get? b = some o → h₁.get? b = some o := fun b o e => hsb.extBut b o (Nat.ne_of_lt (Heap.lt_size e)) (Heap.get?_push_of_some _ e)
  refine PySem.W.kla_codeExpr (attr_of (hab2 _) (attr_of (hab _) (wpAny_Name (wpAny_loadName_local hk hy hns (v := .ref b) ?_ ?_) hdb)))
  · simp
  · have O1 : ObjM h₁ b dx C mA := ⟨hk₁ _ _ O.obj, O.ns.at fun o e => hk₁ _ _ e, O.ne⟩
    have O3 : ObjM h₁ b2 dx2 C2 mB := ⟨hk₁ _ _ O2.obj, O2.ns.at fun o e => hk₁ _ _ e, O2.ne⟩
    refine get_map (K := K) (KX.keeps fun b o e => hk₁ _ _ (F.keep b o e)) O1 (cls.get f1) cls.hd na hv rfl ?_
    refine get_map (K := K) (KX.keeps fun b o e => hk₁ _ _ (F.keep b o e)) O3 (cls2.get fld) cls2.hd na2 hv2 rfl ?_
    exact KskEnd.intro (F.kept hk₁) (N.grown hk₁) fun p hp => hp
theorem sort_call {a f c' C : Addr} {as : List Addr} {ks : List Int} {lq y f1 fld : Str} {params : Arguments} {scope : Scope} {np ap ap1 : Pos} {pm ctv : Value} {Q : VK} {k : Nat}
    (I : Inv X pins σ H s) (hr : Room k X.A) (hf : s.heap.get? f = some (PySem.W.kla_obj "<lambda>" lq params (.Attribute (.Attribute (.Name y np) f1 ap1) fld ap) scope [] pm c' ctv)) (hf0 : X.base.get? f = none) (hfL : f ≠ X.env.locals)
    (hcr : H c' = some (.ext fun h => h.CodeRec (.ref c') lq)) (hs : SqL X.K H a (as.map V.ref)) (hl : ks.length = as.length)
    (hi : ∀ (i : Nat) (b : Addr) (k : Int), as[i]? = some b → ks[i]? = some k → KeyAt X.K C f1 fld H b k) (cls : Cls X.K C) (na : NoAttr X.K C f1)
    (hbind : ∀ (pm cdv ct u : Value), bindArgs (PySem.W.kla_fn "<lambda>" lq params (.Attribute (.Attribute (.Name y np) f1 ap1) fld ap) scope [] pm cdv ct) ⟨[u], []⟩ = pure [(y, u)])
    (hk : scope.kind = .function) (hco : scope.isCoroutine = false) (hgen : scope.isGenerator = false) (hcell : ∀ x ∈ scope.names, x.2 ≠ .cell) (hy : scope.names.lookup y = some .local) (hdb : (y == ("__debug__" : Str)) = false)
    (hab : ∀ env : Env, attributeBase (.Name y np) f1 env (eval (.Name y np) env) = eval (.Name y np) env) (hab2 : ∀ env : Env, attributeBase (.Attribute (.Name y np) f1 ap1) fld env (eval (.Attribute (.Name y np) f1 ap1) env) = eval (.Attribute (.Name y np) f1 ap1) env)
    (q : ∀ (ps : List (Int × Addr)) (D : Addr), ps.Perm (ks.zip as) → ps.Pairwise (fun p q => p.1 ≤ q.1) → (∀ z, ps.filter (fun p => p.1 == z) = (ks.zip as).filter (fun p => p.1 == z)) → H D = none → Q (.ref D) (upd H D (.lst (ps.map fun p => V.ref p.2)))) :
    wpAny (model X.prog X.w) X.A (call (.builtin "sorted") [.ref a] [(Str.ofString "key", .ref f)]) (EP X pins σ Q) X.xe s := by
  obtain ⟨m, F⟩ := I.fr
  obtain ⟨its, rv, pl, hz⟩ := I.list hs
  have hlen : its.length = as.length := by rw [← rv.length, List.length_map]
  have N : News X.base X.env.locals s.heap (allNews X.base s.heap X.env.locals) := news_all
  have keep : ∀ {h : Heap} {own : List (Addr × Obj)}, Fr X.base X.env.locals h m → News X.base X.env.locals h (allNews X.base s.heap X.env.locals ++ own) → ∀ b o, b ≠ X.env.locals → s.heap.get? b = some o → h.get? b = some o := fun {h own} F' N' b o hb e => by
    cases z : X.base.get? b with
    | some u =>
      have e1 := I.bk b u z
      rw [e] at e1
      cases e1
      exact F'.keep b _ z
    | none => exact (N' (b, o) (List.mem_append_left _ (mem_allNews hb z e))).1
  have nL : ∀ b u, H b = some u → b ≠ X.env.locals := fun b u e z => by rw [z, I.free] at e; cases e
  refine ksk_sortedSt (kz := ks) (vs := its) (b := false) F N pl.isList (by rw [hl, hlen]) (by rw [hlen]; rw [List.length_map] at hz; exact hz) (ksk_s1 _ _) (fun x => ksk_l1 _ _) (fun x => ksk_t1 f x) (fun i v kk hv hkk h tk own F' N' => ?_) fun D h' tk out cc F' N' lt ko => ?_
  · -- a turn: the lambda at one item
    have hi2 : i < as.length := by rw [← hlen]; exact (List.getElem?_eq_some_iff.mp hv).1
    obtain ⟨u, hu, ru⟩ := rv.get (i := i) (x := V.ref as[i]) (by rw [List.getElem?_map, List.getElem?_eq_getElem hi2]; rfl)
    rw [hv] at hu
    cases hu
    obtain rfl : v = Value.ref as[i] := ru
    obtain ⟨dx, fs, b2, C2, dx2, fs2, hb, hfl, hb2, hfl2, cls2, na2⟩ := hi i as[i] kk (List.getElem?_eq_getElem hi2) hkk
    obtain ⟨mA, O, r, _, _, ho⟩ := ins_get I.hok hb
    obtain ⟨u1, hu1, ru1⟩ := RelO.some_of (v := V.ref b2) (o := mA f1) (by rw [← hfl]; exact r f1)
    obtain rfl : u1 = Value.ref b2 := ru1
    obtain ⟨mB, O2, r2, _, _, ho2⟩ := ins_get I.hok hb2
    obtain ⟨u, hu, ru⟩ := RelO.some_of (v := V.int kk) (o := mB fld) (by rw [← hfl2]; exact r2 fld)
    obtain ⟨t, rfl⟩ := ru
    have O2' : ObjM h b2 dx2 C2 mB := ⟨keep F' N' _ _ (nL _ _ hb2) O2.obj, O2.ns.at fun o e => keep F' N' _ _ (nL _ _ ho2) e, O2.ne⟩
    have O' : ObjM h as[i] dx C mA := ⟨keep F' N' _ _ (nL _ _ hb) O.obj, O.ns.at fun o e => keep F' N' _ _ (nL _ _ ho) e, O.ne⟩
    have hcr' : h.CodeRec (.ref c') lq := by
      obtain ⟨p1, _, st⟩ := I.hok _ _ hcr
      exact st _ _ p1 fun o e => keep F' N' _ _ (nL _ _ hcr) e
    exact lam_call F' N' I.mod.kin I.mod.nolimit (by have := hr.dp; show X.A.depth < _; omega) (keep F' N' _ _ hfL hf) hcr' O' hu1 O2' hu cls na cls2 na2 hbind hk hco hgen hcell hy hdb hab hab2
  · -- behind the sort
    obtain ⟨ps, p1, p2, p3, p4⟩ := ko
    have N2 : News X.base X.env.locals h' (allNews X.base s.heap X.env.locals ++ [(D, seqObj "list" out cc)]) := fun p hp => by
      rcases List.mem_append.mp hp with z | z
      · exact N' p (.tail _ z)
      · rw [List.mem_singleton.mp z]
        exact N' _ (.head _)
    have hD : s.heap.get? D = none := by
      cases z : s.heap.get? D with
      | none => rfl
      | some o =>
        have n2 := N' _ (List.Mem.head _)
        exact absurd (lt (D, o) (mem_allNews n2.2.1 n2.2.2 z)) (Nat.lt_irrefl _)
    have hn : H D = none := by
      cases z : H D with
      | none => rfl
      | some u =>
        obtain ⟨o, e⟩ := (I.hok D u z).some
        rw [hD] at e
        cases e
    have rz : ∀ p ∈ ps, ∃ b, p.2 = Value.ref b := fun p hp => by
      have q1 := (List.of_mem_zip (p1.mem_iff.mp hp)).2
      obtain ⟨i, hi1, hi2⟩ := List.getElem_of_mem q1
      have hi3 : i < as.length := by rw [← hlen]; exact hi1
      obtain ⟨u, hu, ru⟩ := rv.get (i := i) (x := V.ref as[i]) (by rw [List.getElem?_map, List.getElem?_eq_getElem hi3]; rfl)
      rw [List.getElem?_eq_getElem hi1, hi2] at hu
      cases hu
      exact ⟨as[i], ru⟩
    have ez : (ks.zip its).map (fun p : Int × Value => (p.1, adr p.2)) = ks.zip as := by
      rw [← adrs_of rv]
      exact (List.zip_map_right ..).symm
    have e2 : ∀ l : List (Int × Value), (∀ p ∈ l, ∃ b, p.2 = Value.ref b) → Vals ((l.map (fun p : Int × Value => (p.1, adr p.2))).map fun p => V.ref p.2) (l.map Prod.snd) := by
      intro l
      induction l with
      | nil => intro _; exact .nil
      | cons p l ih =>
        intro hl2
        obtain ⟨b, eb⟩ := hl2 p (.head _)
        refine .cons ?_ (ih fun q hq => hl2 q (.tail _ hq))
        show p.2 = Value.ref (adr p.2)
        rw [eb]
        rfl
    have hlo : (ps.map fun p : Int × Value => (p.1, adr p.2)).length ≤ sizeLine := by
      rw [List.length_map, p1.length_eq, List.length_zip, hl, hlen, Nat.min_self]
      rw [List.length_map] at hz
      exact hz
    have hob := (N' _ (List.Mem.head _)).1
    have I' : Inv X pins σ (upd H D (.lst ((ps.map fun p : Int × Value => (p.1, adr p.2)).map fun p => V.ref p.2))) { s with heap := h', toks := tk } := by
      refine I.newsLaid F.ns F'.ns (fun b o hb e => keep F' N2 b o hb e) hD hn ⟨by rw [List.length_map]; exact hlo, out.toList, cc, ?_, by simpa using hob⟩
      rw [p2]
      exact e2 ps rz
    refine ⟨.ref D, _, I', rfl, q _ D ?_ ?_ (fun z => ?_) hn⟩
    · rw [← ez]; exact p1.map _
    · rw [List.pairwise_map]
      exact p3.imp fun h => by simpa using h
    · rw [← ez, List.filter_map, List.filter_map]
      exact congrArg _ (p4 z)
end
theorem pe_sortKey {X : Cx} {e : Expr} {te : TE} {p pos lp kp np ap ap1 : Pos} {y f1 fld : Str} {params : Arguments} {scope : Scope} {C tab c : Addr} {k : Nat}
    (hr : Room k X.A) (hg : Gl X "sorted") (hm : X.mg "sorted" = none) (he : PE X e te)
    (hcode : X.env.code = .ref c) (hC : PySem.W.CodeHd X.base c tab) (hB : X.base.BuiltinsAt X.mg tab) (hgt : mainGlobals ≠ tab)
    (hdef : defaultsOf params X.env = ([], [])) (hcl : closureFor scope X.env = pure [])
    (hbind : ∀ (pm cdv ct u : Value), bindArgs (PySem.W.kla_fn "<lambda>" (X.env.qual ++ "<lambda>") params (.Attribute (.Attribute (.Name y np) f1 ap1) fld ap) scope [] pm cdv ct) ⟨[u], []⟩ = pure [(y, u)])
    (hk : scope.kind = .function) (hco : scope.isCoroutine = false) (hgen : scope.isGenerator = false) (hcell : ∀ x ∈ scope.names, x.2 ≠ .cell) (hy : scope.names.lookup y = some .local) (hdb : (y == ("__debug__" : Str)) = false)
    (hab : ∀ env : Env, attributeBase (.Name y np) f1 env (eval (.Name y np) env) = eval (.Name y np) env) (hab2 : ∀ env : Env, attributeBase (.Attribute (.Name y np) f1 ap1) fld env (eval (.Attribute (.Name y np) f1 ap1) env) = eval (.Attribute (.Name y np) f1 ap1) env)
    (hs : starEach [e] X.env = [(false, eval e X.env)] := by rfl) :
    PE X (.Call (.Name "sorted" p) [e] [⟨some "key", .Lambda params (.Attribute (.Attribute (.Name y np) f1 ap1) fld ap) scope lp, kp⟩] pos) (tSortKey X.K C tab f1 fld lp (X.env.qual ++ "<lambda>") te) := by
  intro pins s σ H Q I h
  refine wpAny_Call_Name_kw (ld_blt I hg hm boot_sorted ?_)
  have pa : PA X [e] (tCons te tNil) := pa_cons he pa_nil (by rw [hs]; rfl)
  refine callWith_kw (thn (pa pos pins s σ H (fun vs H1 => match vs with
    | [x] => ∃ (a : Addr) (as : List Addr) (ks : List Int), x = .ref a ∧ SqL X.K H1 a (as.map V.ref) ∧ ks.length = as.length ∧
      (∀ (i : Nat) (b : Addr) (k : Int), as[i]? = some b → ks[i]? = some k → KeyAt X.K C f1 fld H1 b k) ∧ Cls X.K C ∧ NoAttr X.K C f1 ∧ TabAt tab lp (X.env.qual ++ "<lambda>") H1 ∧
      ∀ (H2 : Hp) (ps : List (Int × Addr)) (D : Addr), ps.Perm (ks.zip as) → ps.Pairwise (fun p q => p.1 ≤ q.1) → (∀ z, ps.filter (fun p => p.1 == z) = (ks.zip as).filter (fun p => p.1 == z)) →
        H1 D = none → (∀ b o, H1 b = some o → b ≠ tab → H2 b = some o) → TabAt tab lp (X.env.qual ++ "<lambda>") H2 → H2 D = some (.lst (ps.map fun p => V.ref p.2)) → Q (.ref D) H2
    | _ => False) I h) fun us s1 ⟨vs, H1, I1, r1, q1⟩ => ?_) (by rw [hs]; rfl) (by rw [hs]; rfl)
  match vs, q1 with
  | [x], q1 =>
    obtain ⟨a, as, ks, rfl, hq, hl, hi, cls, na, tb, q⟩ := q1
    cases r1 with
    | cons r rr =>
      cases rr
      cases r
      refine kws_cons (PySem.W.kla_eval hdef ?_)
      have hns : s1.heap.Ns mainGlobals X.mg := I1.mod.glob.keeps I1.bk
      obtain ⟨bm, ob, b1, b2, b3, b4, b5, b6⟩ := hB
      have hB1 : s1.heap.BuiltinsAt X.mg tab := ⟨bm, ob, b1, b2, b3, b4, I1.bk _ _ b5, b6⟩
      rcases tb with tb | ⟨c', tb, tc⟩
      · have htab : s1.heap.get? tab = some (PySem.W.tabObj #[]) := I1.hok tab _ tb
        refine PySem.W.kla_makeFunction (mg := X.mg) hcl I1.ok.glob hns hcode (hC.keeps I1.bk) htab (show TriplesOk [] from trivial) rfl hgt hB1 fun c' ctv h' tk hx hge hlt hrec htb => ?_
        refine kws_nil ?_
        have I2 := I1.grown (lp := lp) (t' := tk) tb (fun b o hb e => hx b o hb e) hge hrec (by simpa using htb)
        have I3 := I2.kept (t' := tk) (h' := h'.push (PySem.W.kla_obj "<lambda>" (X.env.qual ++ "<lambda>") params (.Attribute (.Attribute (.Name y np) f1 ap1) fld ap) scope [] ((X.mg "__name__").getD .none) c' ctv)) (fun b u e => Heap.get?_push_of_some _ e)
        have hcn : H1 c' = none := I1.hok.fresh hge
        have htc : tab ≠ c' := ne_of_none tb hcn
        have kH : ∀ b u, H1 b = some u → b ≠ tab → upd (upd H1 tab (.tbl #[rawInt lp.line, rawInt lp.col, .ref c'])) c' (.ext fun h => h.CodeRec (.ref c') (X.env.qual ++ "<lambda>")) b = some u := fun b u e n => by
          rw [upd_ne (ne_of_none e hcn), upd_ne n]
          exact e
        have lt1 : X.base.objs.size ≤ h'.objs.size := Nat.le_trans (Nat.le_trans I1.ok.bsz I1.sz) (Nat.le_of_lt (Nat.lt_of_le_of_lt hge hlt))
        refine sort_call (k := k) I3 hr (Heap.get?_push_size _ rfl) (Heap.get?_none_of_le lt1) (Nat.ne_of_gt (Nat.lt_of_lt_of_le I1.lt (Nat.le_of_lt (Nat.lt_of_le_of_lt hge hlt)))) upd_same ?_ hl ?_ cls na hbind hk hco hgen hcell hy hdb hab hab2 fun ps D p1 p2 p3 hD => ?_
        · rcases hq with (z | ⟨o, z⟩) | z
          · exact .inl (.inl (kH _ _ z (ne_of z tb (by intro y; cases y))))
          · exact .inl (.inr ⟨o, kH _ _ z (ne_of z tb (by intro y; cases y))⟩)
          · exact .inr z
        · intro i b kk h1 h2
          obtain ⟨dx, fs, b2, C2, dx2, fs2, e1, e2, e3, e4⟩ := hi i b kk h1 h2
          exact ⟨dx, fs, b2, C2, dx2, fs2, kH _ _ e1 (ne_of e1 tb (by intro y; cases y)), e2, kH _ _ e3 (ne_of e3 tb (by intro y; cases y)), e4⟩
        · have hD1 : H1 D = none := by
            cases z : H1 D with
            | none => rfl
            | some u =>
              by_cases zt : D = tab
              · subst zt
                rw [upd_ne htc, upd_same] at hD
                cases hD
              · rw [kH D u z zt] at hD
                cases hD
          refine q _ ps D p1 p2 p3 hD1 (fun b o e n => ?_) (.inr ⟨c', ?_, ?_⟩) upd_same
          · rw [upd_ne (ne_of_none e hD1)]
            exact kH b o e n
          · rw [upd_ne (fun z => by rw [z] at tb; rw [tb] at hD1; cases hD1), upd_ne htc, upd_same]
          · rw [upd_ne (fun z => by rw [← z, upd_same] at hD; cases hD), upd_same]
      · have htab : s1.heap.get? tab = some (PySem.W.tabObj #[rawInt lp.line, rawInt lp.col, .ref c']) := I1.hok tab _ tb
        refine PySem.W.kla_makeFunctionHit (mg := X.mg) (cv := .ref c') hcl I1.ok.glob hns hcode (hC.keeps I1.bk) htab (show TriplesOk [rawInt lp.line, rawInt lp.col, .ref c'] from trivial) (by show codeAmong lp [rawInt lp.line, rawInt lp.col, .ref c'] = _; simp [codeAmong, rawInt]) hB1 fun ctv h' tk hkp hsz => ?_
        refine kws_nil ?_
        have I3 := I1.kept (t' := tk) (h' := h'.push { cls := .type "function", data := .func (PySem.W.kla_fn "<lambda>" (X.env.qual ++ "<lambda>") params (.Attribute (.Attribute (.Name y np) f1 ap1) fld ap) scope [] ((X.mg "__name__").getD .none) (.ref c') ctv) }) (fun b u e => Heap.get?_push_of_some _ (hkp b u e))
        have lt1 : X.base.objs.size ≤ h'.objs.size := Nat.le_trans (Nat.le_trans I1.ok.bsz I1.sz) hsz
        refine sort_call (k := k) I3 hr (Heap.get?_push_size _ rfl) (Heap.get?_none_of_le lt1) (Nat.ne_of_gt (Nat.lt_of_lt_of_le I1.lt hsz)) tc hq hl hi cls na hbind hk hco hgen hcell hy hdb hab hab2 fun ps D p1 p2 p3 hD => ?_
        refine q _ ps D p1 p2 p3 hD (fun b o e n => ?_) (.inr ⟨c', ?_, ?_⟩) upd_same
        · rw [upd_ne (ne_of_none e hD)]
          exact e
        · rw [upd_ne (ne_of_none tb hD)]
          exact tb
        · rw [upd_ne (ne_of_none tc hD)]
          exact tc
end L2
namespace L2
open PySem PySem.Spec PyProof.Rows
theorem for_enum {K : Frag} {a : Addr} {xs : List V} {g : TG} {tb : TS} {D : Ends} {σ : L2.St} {H : Hp} (Pv : Nat → L2.St → Hp → Prop) (h0 : Pv 0 σ H) (hl : ∀ i σ H, i ≤ xs.length → Pv i σ H → SqL K H a xs)
    (hs : ∀ i x σ H T, xs[i]? = some x → Pv i σ H → H T = none → g (.ref T) σ (upd H T (.tup [.int (i : Nat), x])) fun σ2 H2 => tb { D with nx := Pv (i + 1), ct := Pv (i + 1), bk := D.nx } σ2 H2) (hd : ∀ σ H, Pv xs.length σ H → D.nx σ H) :
    ∃ W : Nat → Nat → L2.St → Hp → Prop, (∃ m, W 0 m σ H) ∧ ∀ i m σ H, W i m σ H →
      ((Ite K a).stop i H ∧ D.nx σ H) ∨ ((Ite K a).go i H ∧ ∃ N : L2.St → Hp → Prop, (∀ σ' H', N σ' H' → ∃ m', m' < m ∧ W (i + 1) m' σ' H') ∧ ∀ x H', (Ite K a).yld i H x H' → g x σ H' fun σ2 H2 => tb { D with nx := N, ct := N, bk := D.nx } σ2 H2) := by
  refine ⟨fun i m σ H => m = xs.length - i ∧ i ≤ xs.length ∧ Pv i σ H, ⟨xs.length, by simp, Nat.zero_le _, h0⟩, ?_⟩
  rintro i m σ H ⟨rfl, hi, p⟩
  have q := hl i σ H hi p
  by_cases hlt : i < xs.length
  · refine .inr ⟨⟨xs, xs[i], q, by simp [hlt]⟩, Pv (i + 1), fun σ' H' p' => ⟨xs.length - (i + 1), by omega, rfl, hlt, p'⟩, fun x H' y => ?_⟩
    obtain ⟨T, y, e1, e2, e3, e4⟩ := y
    subst e1 e3
    exact hs i y σ _ T (e4 xs q) p e2
  · have e : i = xs.length := by omega
    subst e
    exact .inl ⟨⟨xs, q, Nat.le_refl _⟩, hd σ H p⟩
theorem lc_enum {K : Frag} {a : Addr} {xs : List V} {g : TG} {tt : TT} {te : TE} {vs : List Nat} {σ : L2.St} {H1 : Hp} {D : Addr} {Qd : Hp → Prop} (Pv : Nat → Hp → Prop) (h0 : Pv 0 (upd H1 D (.lst []))) (hl : ∀ i H, i ≤ xs.length → Pv i H → SqL K H a xs)
    (hs : ∀ i x H T, xs[i]? = some x → Pv i H → H T = none → g (.ref T) (wipe σ vs) (upd H T (.tup [.int (i : Nat), x])) fun σ2 H2 => wipe σ2 vs = wipe σ vs ∧ tt σ2 H2 fun b H3 =>
      if b = true then te σ2 H3 fun y H4 => ∃ acc, H4 D = some (.lst acc) ∧ acc.length < sizeLine ∧ Pv (i + 1) (upd H4 D (.lst (acc ++ [y]))) else Pv (i + 1) H3) (hd : ∀ H, Pv xs.length H → Qd H) :
    ∃ W : Nat → Nat → Hp → Prop, (∃ m, W 0 m (upd H1 D (.lst []))) ∧ ∀ i m H, W i m H →
      ((Ite K a).stop i H ∧ Qd H) ∨ ((Ite K a).go i H ∧ ∃ Nx : Hp → Prop, (∀ H', Nx H' → ∃ m', m' < m ∧ W (i + 1) m' H') ∧ ∀ x H', (Ite K a).yld i H x H' → g x (wipe σ vs) H' fun σ2 H2 => wipe σ2 vs = wipe σ vs ∧ tt σ2 H2 fun b H3 =>
        if b = true then te σ2 H3 fun y H4 => ∃ acc, H4 D = some (.lst acc) ∧ acc.length < sizeLine ∧ Nx (upd H4 D (.lst (acc ++ [y]))) else Nx H3) := by
  refine ⟨fun i m H => m = xs.length - i ∧ i ≤ xs.length ∧ Pv i H, ⟨xs.length, by simp, Nat.zero_le _, h0⟩, ?_⟩
  rintro i m H ⟨rfl, hi, p⟩
  have q := hl i H hi p
  by_cases hlt : i < xs.length
  · refine .inr ⟨⟨xs, xs[i], q, by simp [hlt]⟩, Pv (i + 1), fun H' p' => ⟨xs.length - (i + 1), by omega, rfl, hlt, p'⟩, fun x H' y => ?_⟩
    obtain ⟨T, y, e1, e2, e3, e4⟩ := y
    subst e1 e3
    exact hs i y _ T (e4 xs q) p e2
  · have e : i = xs.length := by omega
    subst e
    exact .inl ⟨⟨xs, q, Nat.le_refl _⟩, hd H p⟩
theorem lc_rangeC {lo c : Int} {n : Nat} {g : TG} {tt : TT} {te : TE} {vs : List Nat} {σ : L2.St} {H1 : Hp} {D : Addr} {Qd : Hp → Prop} (Pv : Nat → Hp → Prop) (h0 : Pv 0 (upd H1 D (.lst [])))
    (hs : ∀ i H, i < n → Pv i H → g (.int (lo + (i : Nat) * c)) (wipe σ vs) H fun σ2 H2 => wipe σ2 vs = wipe σ vs ∧ tt σ2 H2 fun b H3 =>
      if b = true then te σ2 H3 fun y H4 => ∃ acc, H4 D = some (.lst acc) ∧ acc.length < sizeLine ∧ Pv (i + 1) (upd H4 D (.lst (acc ++ [y]))) else Pv (i + 1) H3) (hd : ∀ H, Pv n H → Qd H) :
    ∃ W : Nat → Nat → Hp → Prop, (∃ m, W 0 m (upd H1 D (.lst []))) ∧ ∀ i m H, W i m H →
      ((Itc lo c n).stop i H ∧ Qd H) ∨ ((Itc lo c n).go i H ∧ ∃ Nx : Hp → Prop, (∀ H', Nx H' → ∃ m', m' < m ∧ W (i + 1) m' H') ∧ ∀ x H', (Itc lo c n).yld i H x H' → g x (wipe σ vs) H' fun σ2 H2 => wipe σ2 vs = wipe σ vs ∧ tt σ2 H2 fun b H3 =>
        if b = true then te σ2 H3 fun y H4 => ∃ acc, H4 D = some (.lst acc) ∧ acc.length < sizeLine ∧ Nx (upd H4 D (.lst (acc ++ [y]))) else Nx H3) := by
  refine ⟨fun i m H => m = n - i ∧ i ≤ n ∧ Pv i H, ⟨n, by simp, Nat.zero_le _, h0⟩, ?_⟩
  rintro i m H ⟨rfl, hi, p⟩
  by_cases hlt : i < n
  · refine .inr ⟨hlt, Pv (i + 1), fun H' p' => ⟨n - (i + 1), by omega, rfl, hlt, p'⟩, fun x H' y => ?_⟩
    obtain ⟨e, y⟩ := y
    subst e y
    exact hs i _ hlt p
  · have e : i = n := by omega
    subst e
    exact .inl ⟨Nat.le_refl _, hd H p⟩
theorem lc_zip {K : Frag} {a b : Addr} {xs ys : List V} {g : TG} {tt : TT} {te : TE} {vs : List Nat} {σ : L2.St} {H1 : Hp} {D : Addr} {Qd : Hp → Prop} (hxy : xs.length = ys.length) (Pv : Nat → Hp → Prop) (h0 : Pv 0 (upd H1 D (.lst []))) (hl : ∀ i H, i ≤ xs.length → Pv i H → SqL K H a xs ∧ SqL K H b ys)
    (hs : ∀ i x y H T, xs[i]? = some x → ys[i]? = some y → Pv i H → H T = none → g (.ref T) (wipe σ vs) (upd H T (.tup [x, y])) fun σ2 H2 => wipe σ2 vs = wipe σ vs ∧ tt σ2 H2 fun b H3 =>
      if b = true then te σ2 H3 fun y H4 => ∃ acc, H4 D = some (.lst acc) ∧ acc.length < sizeLine ∧ Pv (i + 1) (upd H4 D (.lst (acc ++ [y]))) else Pv (i + 1) H3) (hd : ∀ H, Pv xs.length H → Qd H) :
    ∃ W : Nat → Nat → Hp → Prop, (∃ m, W 0 m (upd H1 D (.lst []))) ∧ ∀ i m H, W i m H →
      ((Itz K a b).stop i H ∧ Qd H) ∨ ((Itz K a b).go i H ∧ ∃ Nx : Hp → Prop, (∀ H', Nx H' → ∃ m', m' < m ∧ W (i + 1) m' H') ∧ ∀ x H', (Itz K a b).yld i H x H' → g x (wipe σ vs) H' fun σ2 H2 => wipe σ2 vs = wipe σ vs ∧ tt σ2 H2 fun b H3 =>
        if b = true then te σ2 H3 fun y H4 => ∃ acc, H4 D = some (.lst acc) ∧ acc.length < sizeLine ∧ Nx (upd H4 D (.lst (acc ++ [y]))) else Nx H3) := by
  refine ⟨fun i m H => m = xs.length - i ∧ i ≤ xs.length ∧ Pv i H, ⟨xs.length, by simp, Nat.zero_le _, h0⟩, ?_⟩
  rintro i m H ⟨rfl, hi, p⟩
  have q := hl i H hi p
  by_cases hlt : i < xs.length
  · refine .inr ⟨⟨xs, ys, xs[i], ys[i]'(hxy ▸ hlt), q.1, q.2, by simp [hlt], by simp [hxy ▸ hlt]⟩, Pv (i + 1), fun H' p' => ⟨xs.length - (i + 1), by omega, rfl, hlt, p'⟩, fun x H' y => ?_⟩
    obtain ⟨T, x, y, e1, e2, e3, e4, e5⟩ := y
    subst e1 e3
    exact hs i x y _ T (e4 xs q.1) (e5 ys q.2) p e2
  · have e : i = xs.length := by omega
    subst e
    exact .inl ⟨by first | exact ⟨xs, ys, q.1, q.2, .inl (Nat.le_refl _)⟩ | exact .inl ⟨xs, q.1, Nat.le_refl _⟩ | exact ⟨xs, q.1, Nat.le_refl _⟩, hd H p⟩
end L2
namespace L2
open PySem PySem.Spec PyProof.Rows
section
variable {prog : Program} {w : World} {K : Type} [DecidableEq K]
def IsPr (kd : KeyKind prog w K) (h : Heap) (k : K × List K) (a : Addr) : Prop :=
  ∃ ob v b n, h.get? a = some ob ∧ ob.cls = .type "tuple" ∧ ob.data = .seq #[v, .ref b] n ∧ kd.is k.1 v = true ∧ IsTupleKey kd h k.2 b
variable {kd : KeyKind prog w K}
theorem IsPr.ty {s : Shared} {k : K × List K} {a : Addr} (x : IsPr kd s.heap k a) : s.TypeIs (.ref a) "tuple" := by
  obtain ⟨ob, v, b, n, h1, h2, _⟩ := x
  exact ⟨ob, h1, h2⟩
theorem IsPr.inj {h : Heap} {a : Addr} {k j : K × List K} (x : IsPr kd h k a) (y : IsPr kd h j a) : k = j := by
  obtain ⟨o1, v1, b1, n1, p1, p2, p3, p4, p5⟩ := x
  obtain ⟨o2, v2, b2, n2, q1, q2, q3, q4, q5⟩ := y
  rw [p1] at q1
  cases q1
  rw [p3] at q3
  injection q3 with e1 _
  injection e1 with e2
  injection e2 with e3 e4
  injection e4 with e5 _
  injection e5 with e6
  subst e3 e6
  exact Prod.ext (kd.inj _ _ _ p4 q4) (p5.inj q5)
theorem IsPr.keeps {h h' : Heap} {k : K × List K} {a d : Addr} {ob : Obj} {es ep} (x : IsPr kd h k a) (ho : h.get? d = some ob) (hd : ob.data = .dict es ep) (hs : Heap.SameBut d h h') : IsPr kd h' k a := by
  obtain ⟨o1, v1, b1, n1, p1, p2, p3, p4, p5⟩ := x
  have ne : a ≠ d := by
    intro z
    subst z
    rw [p1] at ho
    cases ho
    rw [p3] at hd
    cases hd
  exact ⟨o1, v1, b1, n1, (hs.2 a ne).trans p1, p2, p3, p4, p5.keeps ho hd hs⟩
def prHash (kd : KeyKind prog w K) (k : K × List K) : Int := reduceHash (Builtin.Tuple.tupleHashOf [kd.hash k.1, tupleKeyHash kd k.2])
variable {A : Around} {E : Value → Shared → Prop} {s : Shared}
theorem pr_hash {k : K × List K} {a : Addr} {Q : Int → Shared → Prop} (hu : A.units + 1 < cLine) (hk : IsPr kd s.heap k a) (h : Q (prHash kd k) { s with toks := s.toks + (k.2.length + 3) }) :
    wpAny (model prog w) A (pyHash (.ref a)) Q E s := by
  have hu0 : A.units < cLine := by omega
  have ty := hk.ty
  obtain ⟨ob, v, b, n, p1, p2, p3, p4, p5⟩ := hk
  unfold pyHash
  first | unfold pyHashByItsType | skip
  first | refine wpAny_bind (wpAny_cRoomFor_or (.inr hu0) ?_) | skip
  refine wpAny_bind (wpAny_specialOf ty F.slot_tuple_hash.lookup ?_)
  show wpAny (model prog w) _ (if (some (Value.builtin "tuple.__hash__") == some Value.none) = true then _ else _) Q E s
  rw [if_neg (by rw [beq_builtin_none]; exact Bool.false_ne_true)]
  refine wpAny_bind (wpAny_specialOf ty F.slot_tuple_hash.lookup ?_)
  show wpAny (model prog w) _ (callSpecialIfBoundUnlessNone? (.ref a) "__hash__" _ >>= _) Q E s
  refine wpAny_bind (wpAny_callSpecialIfBoundUnlessNone?_slot ty F.slot_tuple_hash (wpAny_call_entry F.slot_tuple_hash ty F.entry_tuple_hash ?_ (F.args_tuple_hash_1 _)))
  show wpAny (model prog w) _ (Builtin.Tuple.tupleItemsOf (.ref a) >>= _) _ _ s
  refine wpAny_bind (wpAny_tupleItemsOf p1 p3 ?_)
  refine wpAny_bind ?_
  rw [← Array.forIn_toList]
  refine wpAny_forIn_list _ (fun rest (hs : Array Int) s' => (rest = [v, .ref b] ∧ hs.toList = [] ∧ s' = s) ∨ (rest = [.ref b] ∧ hs.toList = [kd.hash k.1] ∧ s' = { s with toks := s.toks + 1 }) ∨
      (rest = [] ∧ hs.toList = [kd.hash k.1, tupleKeyHash kd k.2] ∧ s' = { s with toks := s.toks + 1 + (k.2.length + 1) })) _ ?_ ?_ _ _ (.inl ⟨rfl, rfl, rfl⟩)
  · rintro x rest hs s' (⟨e1, e2, rfl⟩ | ⟨e1, e2, rfl⟩ | ⟨e1, _⟩)
    · cases e1
      refine wpAny_bind (kd.pyHash p4 ?_)
      first
        | exact wpAny_pure (.inr (.inl ⟨rfl, by simp [e2], rfl⟩))
        | exact wpAny_bind (wpAny_pure (wpAny_pure (.inr (.inl ⟨rfl, by simp [e2], rfl⟩))))
    · cases e1
      refine wpAny_bind (wpAny_pyHash_tuple (by first | exact hu | exact hu0) p5 ?_)
      first
        | exact wpAny_pure (.inr (.inr ⟨rfl, by simp [e2], rfl⟩))
        | exact wpAny_bind (wpAny_pure (wpAny_pure (.inr (.inr ⟨rfl, by simp [e2], rfl⟩))))
    · cases e1
  · rintro hs s' (⟨e1, _⟩ | ⟨e1, _⟩ | ⟨_, e2, rfl⟩)
    · cases e1
    · cases e1
    show wpAny (model prog w) _ (retInt (Builtin.Tuple.tupleHashOf hs.toList)) _ _ _
    rw [e2]
    refine wpAny_ret_mkInt ?_
    generalize hz : Builtin.Tuple.tupleHashOf [kd.hash k.1, tupleKeyHash kd k.2] = z
    show wpAny (model prog w) _ (if (decide (-(2 : Int) ^ 63 ≤ z) && decide (z < 2 ^ 63)) = true then _ else _) Q E _
    unfold prHash reduceHash at h
    rw [hz] at h
    by_cases c : (decide (-(2 : Int) ^ 63 ≤ z) && decide (z < 2 ^ 63)) = true
    · rw [if_pos c]
      rw [if_pos c] at h
      exact wpAny_pure (by simpa [Nat.add_assoc, Nat.add_comm, Nat.add_left_comm] using h)
    · rw [if_neg c]
      rw [if_neg c] at h
      exact wpAny_bind (wpAny_rule (wpAny_pure (by simpa [Nat.add_assoc, Nat.add_comm, Nat.add_left_comm] using h)))
theorem pr_eqTree {k j : K × List K} {a c : Addr} {R : Fin → Shared → Prop} (hu : A.units < cLine) (x : IsPr kd s.heap k a) (y : IsPr kd s.heap j c) (h : R (.done (.ret (.bool (decide (k = j))))) s) :
    wpAny (model prog w) A (Builtin.«tuple.__eq__» ⟨[.ref a, .ref c], []⟩) R E s := by
  have ty := y.ty
  obtain ⟨o1, v1, b1, n1, p1, p2, p3, p4, p5⟩ := x
  obtain ⟨o2, v2, b2, n2, q1, q2, q3, q4, q5⟩ := y
  show wpAny (model prog w) _ (isInstance (.ref c) (.type "tuple") >>= _) _ _ s
  refine wpAny_bind (wpAny_isInstance ty isSubtype_tuple_tuple ?_)
  simp only [Bool.not_true, Bool.false_eq_true, if_false]
  refine wpAny_bind (wpAny_tupleItemsOf p1 p3 ?_)
  refine wpAny_bind (wpAny_tupleItemsOf q1 q3 ?_)
  refine wpAny_bind ?_
  refine wpAny_forIn_list _ (fun rest r s' => r.1 = none ∧ s' = s ∧ (rest = [(v1, v2), (Value.ref b1, Value.ref b2)] ∨ (rest = [(Value.ref b1, Value.ref b2)] ∧ k.1 = j.1) ∨ (rest = [] ∧ k = j))) _ ?_ ?_ _ _ ⟨rfl, rfl, .inl rfl⟩
  · rintro ⟨u, v⟩ rest r s' ⟨hr, rfl, e1 | ⟨e1, e2⟩ | ⟨e1, e2⟩⟩
    · cases e1
      refine wpAny_bind (kd.eqBool (a := k.1) (b := j.1) p4 q4 ?_)
      by_cases z : k.1 = j.1
      · rw [decide_eq_true z]
        simp only [Bool.not_true, Bool.false_eq_true, if_false]
        exact wpAny_pure ⟨rfl, rfl, .inr (.inl ⟨trivial, z⟩)⟩
      · rw [decide_eq_false z]
        simp only [Bool.not_false, if_true]
        have f : decide (k = j) = false := decide_eq_false fun y => z (by rw [y])
        rw [f] at h
        exact wpAny_bind (wpAny_pure (wpAny_pure (wpAny_pure h)))
    · cases e1
      refine wpAny_bind (wpAny_eqBool_tuple (by exact hu) p5 q5 ?_)
      by_cases z : k.2 = j.2
      · rw [decide_eq_true z]
        simp only [Bool.not_true, Bool.false_eq_true, if_false]
        exact wpAny_pure ⟨rfl, rfl, .inr (.inr ⟨trivial, Prod.ext e2 z⟩)⟩
      · rw [decide_eq_false z]
        simp only [Bool.not_false, if_true]
        have f : decide (k = j) = false := decide_eq_false fun y => z (by rw [y])
        rw [f] at h
        exact wpAny_bind (wpAny_pure (wpAny_pure (wpAny_pure h)))
    · cases e1
  · rintro ⟨r1, r2⟩ s' ⟨hr, rfl, e1 | ⟨e1, _⟩ | ⟨_, e2⟩⟩
    · cases e1
    · cases e1
    simp only at hr
    subst hr
    refine wpAny_pure ?_
    rw [decide_eq_true e2] at h
    exact h
theorem pr_eq {k j : K × List K} {a c : Addr} {Q : Bool → Shared → Prop} (hu : A.units + 1 < cLine) (x : IsPr kd s.heap k a) (y : IsPr kd s.heap j c) (h : Q (decide (k = j)) s) :
    wpAny (model prog w) A (eqBool (.ref a) (.ref c)) Q E s := by
  have hu0 : A.units < cLine := by omega
  unfold eqBool
  try with_reducible refine wpAny_holding ?_
  show wpAny (model prog w) _ (if (Value.ref a == Value.ref c) = true then _ else _) Q E s
  by_cases z : (Value.ref a == Value.ref c) = true
  · rw [if_pos z]
    have e : a = c := by have := eq_of_beq z; injection this
    subst e
    have e2 := x.inj y
    rw [decide_eq_true e2] at h
    exact wpAny_bind (wpAny_rule (wpAny_pure h))
  · rw [if_neg z]
    refine wpAny_bind (wpAny_richCompare_same_room (op := .Eq) x.ty y.ty F.slot_tuple_eq ?_ hu0)
    refine wpAny_call_entry F.slot_tuple_eq x.ty F.entry_tuple_eq (pr_eqTree (by first | exact hu | exact hu0) x y ⟨_, rfl, (fun e => nomatch e), wpAny_truthy_bool h⟩) (F.args_tuple_eq_2 _ _)
theorem tup_quiet {ks : List K} {a : Addr} {n : Nat} {Q : Bool → Shared → Prop} (hk : IsTupleKey kd s.heap ks a) (h : Q true s) : wpAny (model prog w) A (eqIsQuiet (n + 1) (.ref a)) Q E s := by
  have ty := hk.typeIs
  obtain ⟨ob, its, m, p1, _, p3, p4⟩ := hk
  unfold eqIsQuiet
  refine wpAny_bind (wpAny_specialOf ty F.slot_tuple_eq.lookup ?_)
  show wpAny (model prog w) _ (isInstance (.ref a) (.type "tuple") >>= _) _ _ s
  refine wpAny_bind (wpAny_isInstance ty isSubtype_tuple_tuple ?_)
  simp only [Bool.not_true, Bool.false_eq_true, if_false]
  refine wpAny_bind (wpAny_seqItems p1 p3 ?_)
  refine wpAny_bind ?_
  show wpAny (model prog w) _ (forIn its _ _) _ _ s
  rw [← Array.forIn_toList]
  refine wpAny_forIn_list _ (fun rest r s' => r.1 = none ∧ s' = s ∧ ∀ u ∈ rest, carriedByValue u = true) _ ?_ ?_ _ _ ⟨rfl, rfl, p4.byValue⟩
  · rintro u rest r s' ⟨hr, rfl, ha⟩
    rw [eqIsQuiet_byValue _ (ha u List.mem_cons_self)]
    refine wpAny_bind (wpAny_pure ?_)
    simp only [Bool.not_true, Bool.false_eq_true, if_false]
    exact wpAny_pure ⟨rfl, rfl, fun z hz => ha z (List.mem_cons_of_mem _ hz)⟩
  · rintro ⟨r1, r2⟩ s' ⟨hr, rfl, _⟩
    simp only at hr
    subst hr
    exact wpAny_pure h
theorem pr_quiet {k : K × List K} {a : Addr} {Q : Bool → Shared → Prop} (hk : IsPr kd s.heap k a) (h : Q true s) : wpAny (model prog w) A (eqIsQuiet 8 (.ref a)) Q E s := by
  have ty := hk.ty
  obtain ⟨ob, v, b, m, p1, _, p3, p4, p5⟩ := hk
  unfold eqIsQuiet
  refine wpAny_bind (wpAny_specialOf ty F.slot_tuple_eq.lookup ?_)
  show wpAny (model prog w) _ (isInstance (.ref a) (.type "tuple") >>= _) _ _ s
  refine wpAny_bind (wpAny_isInstance ty isSubtype_tuple_tuple ?_)
  simp only [Bool.not_true, Bool.false_eq_true, if_false]
  refine wpAny_bind (wpAny_seqItems p1 p3 ?_)
  refine wpAny_bind ?_
  show wpAny (model prog w) _ (forIn #[v, Value.ref b] _ _) _ _ s
  rw [← Array.forIn_toList]
  refine wpAny_forIn_list _ (fun rest r s' => r.1 = none ∧ s' = s ∧ (rest = [v, Value.ref b] ∨ rest = [Value.ref b] ∨ rest = [])) _ ?_ ?_ _ _ ⟨rfl, rfl, .inl rfl⟩
  · rintro u rest r s' ⟨hr, rfl, e1 | e1 | e1⟩
    · cases e1
      rw [eqIsQuiet_byValue _ (kd.byValue _ _ p4)]
      refine wpAny_bind (wpAny_pure ?_)
      simp only [Bool.not_true, Bool.false_eq_true, if_false]
      exact wpAny_pure ⟨rfl, rfl, .inr (.inl trivial)⟩
    · cases e1
      refine wpAny_bind (tup_quiet p5 ?_)
      simp only [Bool.not_true, Bool.false_eq_true, if_false]
      exact wpAny_pure ⟨rfl, rfl, .inr (.inr trivial)⟩
    · cases e1
  · rintro ⟨r1, r2⟩ s' ⟨hr, rfl, _⟩
    simp only at hr
    subst hr
    exact wpAny_pure h
end
def prKind {prog : Program} {w : World} {K : Type} [DecidableEq K] (kd : KeyKind prog w K) : HeapKind prog w (K × List K) where
  is := IsPr kd
  hash := prHash kd
  draws := fun k => k.2.length + 3
  room := fun A => A.units + 1 < cLine
  inj := fun x y => x.inj y
  keeps := fun x ho hd hs => x.keeps ho hd hs
  pyHash := fun hu hk h => pr_hash hu hk h
  eqBool := fun hu x y h => pr_eq hu x y h
  quiet := fun hk h => pr_quiet hk h
end L2
namespace L2
open PySem PySem.Spec PyProof.Rows
abbrev PKey := Key × List Key
abbrev PEnt := PKey × Addr × Value
def DicO (prog : Program) (w : World) (a : Addr) (xs : List PEnt) : HO := .ext fun h => (a == sysModules) = false ∧ xs.length ≤ sizeLine ∧
  ∃ ob es ep, h.get? a = some ob ∧ ob.ExactDict ∧ ob.data = .dict es ep ∧ es.toList = xs.map (entryOfKey (prKind (mixKind prog w))) ∧ (xs.map Prod.fst).Nodup
def PrA (H : Hp) (k : PKey) (b : Addr) : Prop := ∃ c, H b = some (.tup [kV k.1, .ref c]) ∧ H c = some (.tup (k.2.map kV))
theorem dic_ok {prog : Program} {w : World} {H : Hp} {h : Heap} {a : Addr} {xs : List PEnt} (h0 : (a == sysModules) = false) (h1 : xs.length ≤ sizeLine) {ob : Obj} {es : Array DictEntry} {ep} (h2 : h.get? a = some ob) (h3 : ob.ExactDict) (h4 : ob.data = .dict es ep)
    (h5 : es.toList = xs.map (entryOfKey (prKind (mixKind prog w)))) (h6 : (xs.map Prod.fst).Nodup) : ObjOk prog w H h a (DicO prog w a xs) :=
  ⟨⟨h0, h1, ob, es, ep, h2, h3, h4, h5, h6⟩, ⟨ob, h2⟩, fun g g' q k => by
    obtain ⟨p0, p1, ob', es', ep', p2, p3⟩ := q
    exact ⟨p0, p1, ob', es', ep', k _ p2, p3⟩⟩
theorem pr_of {prog : Program} {w : World} {H : Hp} {h : Heap} (ok : HOk prog w H h) {k : PKey} {b : Addr} (e : PrA H k b) : (prKind (mixKind prog w)).is h k b := by
  obtain ⟨c, e1, e2⟩ := e
  obtain ⟨_, its, r, ob, p1, p2, n, p3⟩ := (show ObjOk prog w H h b (.tup [kV k.1, .ref c]) from ok b _ e1)
  cases r with
  | cons r1 r2 =>
    cases r2 with
    | cons r3 r4 =>
      cases r4
      cases r3
      exact ⟨ob, _, c, n, p1, p2, p3, kV_is r1, key_of ok e2⟩
theorem dic_of {prog : Program} {w : World} {H : Hp} {h : Heap} (ok : HOk prog w H h) {a : Addr} {xs : List PEnt} (e : H a = some (DicO prog w a xs)) (all : ∀ x ∈ xs, PrA H x.1 x.2.1) :
    (a == sysModules) = false ∧ xs.length ≤ sizeLine ∧ h.DictOfH (prKind (mixKind prog w)) a xs := by
  obtain ⟨⟨p0, p1, ob, es, ep, p2, p3, p4, p5, p6⟩, _⟩ := ok a _ e
  exact ⟨p0, p1, ob, es, ep, p2, p3, p4, p5, fun x hx => pr_of ok (all x hx), p6⟩
def tXNew (prog : Program) (w : World) : TE := fun _ H Q => ∀ p, H p = none → Q (.ref p) (upd H p (DicO prog w p []))
def tXNotIn (prog : Program) (w : World) (ty td : TE) : TE := fun σ H Q => ty σ H fun y H1 => td σ H1 fun x H2 => ∃ a xs k b, x = .ref a ∧ y = .ref b ∧ H2 a = some (DicO prog w a xs) ∧ (∀ z ∈ xs, PrA H2 z.1 z.2.1) ∧ PrA H2 k b ∧ Q (.bl (!(atKey xs k).isSome)) H2
def tXGet (prog : Program) (w : World) (td ty : TE) : TE := fun σ H Q => td σ H fun x H1 => ty σ H1 fun y H2 => ∃ a xs k b p v, x = .ref a ∧ y = .ref b ∧ H2 a = some (DicO prog w a xs) ∧ (∀ z ∈ xs, PrA H2 z.1 z.2.1) ∧ PrA H2 k b ∧ atKey xs k = some p ∧ RelV v p.2 ∧ Q v H2
def sXPut (prog : Program) (w : World) (td ty tv : TE) : TS := fun D σ H => tv σ H fun v H1 => td σ H1 fun x H2 => ty σ H2 fun y H3 => ∃ a xs k b c, x = .ref a ∧ y = .ref b ∧ v = .bl c ∧ H3 a = some (DicO prog w a xs) ∧ (∀ z ∈ xs, PrA H3 z.1 z.2.1) ∧ PrA H3 k b ∧ xs.length < sizeLine ∧
  D.nx σ (upd H3 a (DicO prog w a (storedH xs k b (.bool c))))
section
variable {X : Cx} {o i e value : Expr} {pos pos' tpos : Pos} {td ty tv : TE}
theorem pe_xnew : PE X (.Dict [] [] pos) (tXNew X.prog X.w) := fun pins s σ H Q I h =>
  wpAny_Dict_empty ⟨.ref s.heap.objs.size, _, I.laid (a := s.heap.objs.size) (o := DicO X.prog X.w s.heap.objs.size []) (t' := s.toks) (fun _ _ q => Heap.get?_push_of_some _ q) (Nat.le_refl _)
    (dic_ok (es := #[]) (beq_eq_false_iff_ne.mpr (Ne.symm (Nat.ne_of_lt I.big))) (Nat.zero_le _) (Heap.get?_push_size _ rfl) ⟨rfl, rfl, rfl⟩ rfl rfl List.nodup_nil), rfl, h _ (I.hok.fresh (Nat.le_refl _))⟩
theorem pc_xnotin (hu : X.A.units + 2 < cLine) (hi : PE X i ty) (ho : PE X o td) : PC X .NotIn i o (tXNotIn X.prog X.w ty td) := by
  intro pins s σ H Q I h
  refine thn (hi pins s σ H _ I h) fun iv s1 ⟨y, H1, I1, ry, q1⟩ => thn (ho pins s1 σ H1 _ I1 q1) fun u s2 ⟨x, H2, I2, rx, a, xs, k, b, ex, ey, hd, hall, hk, q2⟩ => ?_
  subst ex ey
  obtain rfl : u = Value.ref a := rx
  obtain rfl : iv = Value.ref b := ry
  obtain ⟨d0, d1, d2⟩ := dic_of I2.hok hd hall
  refine wpAny_notIn_heap (knd := prKind (mixKind X.prog X.w)) hu (pr_of I2.hok hk) d0 d2 ?_
  exact ⟨.bl (!(atKey xs k).isSome), H2, I2.tok _, rfl, q2⟩
theorem pe_xget (hu : X.A.units + 2 < cLine) (ho : PE X o td) (hi : PE X i ty) (hs : NoSl i) : PE X (.Subscript o i pos) (tXGet X.prog X.w td ty) := by
  intro pins s σ H Q I h
  refine subD_of PySem.F.slot_dict_getitem.lookup hs (thn (ho pins s σ H _ I h) fun u s1 ⟨x, H1, I1, rx, q1⟩ => thn (hi pins s1 σ H1 _ I1 q1) fun iv s2 ⟨y, H2, I2, ry, a, xs, k, b, p, v, ex, ey, hd, hall, hk, hp, rv, q2⟩ => ?_)
  subst ex ey
  obtain rfl : u = Value.ref a := rx
  obtain rfl : iv = Value.ref b := ry
  obtain ⟨d0, d1, d2⟩ := dic_of I2.hok hd hall
  exact ⟨d2.typeIs, wpAny_getItem_heap (knd := prKind (mixKind X.prog X.w)) hu (pr_of I2.hok hk) d2 hp ⟨v, H2, I2.tok _, rv, q2⟩⟩
theorem stored_len {xs : List PEnt} {k : PKey} {b : Addr} {v : Value} : (storedH xs k b v).length ≤ xs.length + 1 := by
  unfold storedH
  split
  · rw [List.length_map]; omega
  · rw [List.length_append]; exact Nat.le_refl _
theorem stored_mem {xs : List PEnt} {k : PKey} {b : Addr} {v : Value} {z : PEnt} (h : z ∈ storedH xs k b v) : z ∈ xs ∨ (z.1 = k ∧ z.2.2 = v ∧ (z.2.1 = b ∨ ∃ y ∈ xs, y.1 = k ∧ y.2.1 = z.2.1)) := by
  unfold storedH at h
  split at h
  · obtain ⟨y, hy, e⟩ := List.mem_map.mp h
    unfold putAt at e
    split at e
    · rename_i c
      subst e
      exact .inr ⟨c, rfl, .inr ⟨y, hy, c, rfl⟩⟩
    · rw [← e]; exact .inl hy
  · rcases List.mem_append.mp h with q | q
    · exact .inl q
    · rw [List.mem_singleton.mp q]
      exact .inr ⟨rfl, rfl, .inl rfl⟩
theorem at_mem {xs : List PEnt} {k : PKey} {p : Addr × Value} (h : atKey xs k = some p) : (k, p) ∈ xs := by
  unfold atKey at h
  obtain ⟨x, hx, e⟩ := Option.map_eq_some_iff.mp h
  have h1 := List.mem_of_find?_eq_some hx
  have h2 : x.1 = k := by simpa using List.find?_some hx
  rw [← e, ← h2]
  exact h1
theorem at_stored {xs : List PEnt} {k : PKey} {b : Addr} {v : Value} : ∃ p, atKey (storedH xs k b v) k = some p ∧ p.2 = v := by
  unfold storedH
  split
  · rename_i h
    rw [Option.isSome_iff_exists] at h
    obtain ⟨p, hp⟩ := h
    have := at_mem hp
    clear hp
    induction xs with
    | nil => cases this
    | cons y ys ih =>
      unfold atKey
      rw [List.map_cons, List.find?_cons]
      by_cases c : y.1 = k
      · have e : putAt k v y = (y.1, y.2.1, v) := by unfold putAt; rw [if_pos c]
        rw [e, decide_eq_true (show (y.1, y.2.1, v).1 = k from c)]
        exact ⟨_, rfl, rfl⟩
      · have e : putAt k v y = y := by unfold putAt; rw [if_neg c]
        rw [e, decide_eq_false c]
        rcases List.mem_cons.mp this with z | z
        · exact absurd (by rw [← z]) c
        · exact ih z
  · rename_i h
    have hn : atKey xs k = none := by
      cases e : atKey xs k with
      | none => rfl
      | some p => rw [e] at h; exact absurd rfl h
    unfold atKey at hn ⊢
    rw [Option.map_eq_none_iff] at hn
    rw [List.find?_append, hn]
    refine ⟨(b, v), ?_, rfl⟩
    simp
theorem ps_xput (hu : X.A.units + 2 < cLine) (ho : PE X o td) (hi : PE X i ty) (hv : PE X value tv) (hs : swapsWith value (some (.Subscript o i pos')) pos.line X.env = pure false) :
    PS X (.Assign [.Subscript o i pos'] value pos) (sXPut X.prog X.w td ty tv) := by
  intro pins s σ H D I h
  refine wpAny_Assign_Subscript (thn (hv pins s σ H _ I h) fun r s1 ⟨v, H1, I1, rv, q1⟩ => thn (ho pins s1 σ H1 _ I1 q1) fun u s2 ⟨x, H2, I2, rx, q2⟩ => thn (hi pins s2 σ H2 _ I2 q2) fun iv s3 ⟨y, H3, I3, ry, a, xs, k, b, c, ex, ey, ev, hd, hall, hk, hl, q3⟩ => ?_) hs
  subst ex ey ev
  obtain rfl : u = Value.ref a := rx
  obtain rfl : iv = Value.ref b := ry
  obtain rfl : r = Value.bool c := rv
  obtain ⟨d0, d1, d2⟩ := dic_of I3.hok hd hall
  refine wpAny_setItem_heap (knd := prKind (mixKind X.prog X.w)) (hsz := d1) hu (pr_of I3.hok hk) d2 fun h' dd' hs' => ?_
  obtain ⟨ob, es, ep, p1, p2, p3, p4, _, p5⟩ := dd'
  have hl' := stored_len (xs := xs) (k := k) (b := b) (v := Value.bool c)
  exact ⟨σ, _, d_write I3 (by rw [hd]; exact True.intro) hs' ⟨ob, p1⟩ (dic_ok d0 (by omega) p1 p2 p3 p4 p5), q3⟩
end
end L2
namespace Pf
open PySem PySem.Spec PyProof.Rows L2
def Nv (l : List Nat) : List V := l.map fun n => V.int (Int.ofNat n)
def Iv (l : List Int) : List V := l.map V.int
theorem nv_iv (l : List Nat) : Iv (l.map Int.ofNat) = Nv l := by
  unfold Iv Nv
  rw [List.map_map]
  rfl
theorem nv_len (l : List Nat) : (Nv l).length = l.length := List.length_map ..
theorem iv_len (l : List Int) : (Iv l).length = l.length := List.length_map ..
theorem nv_app (a b : List Nat) : Nv (a ++ b) = Nv a ++ Nv b := List.map_append ..
theorem nv_at {l : List Nat} {i n : Nat} (h : l[i]? = some n) : (Nv l)[i]? = some (V.int (Int.ofNat n)) := by
  unfold Nv
  rw [List.getElem?_map, h]
  rfl
theorem iv_at {l : List Int} {i : Nat} {n : Int} (h : l[i]? = some n) : (Iv l)[i]? = some (V.int n) := by
  unfold Iv
  rw [List.getElem?_map, h]
  rfl
theorem nv_inv {l : List Nat} {i : Nat} {v : V} (h : (Nv l)[i]? = some v) : ∃ n, l[i]? = some n ∧ v = V.int (Int.ofNat n) := by
  unfold Nv at h
  rw [List.getElem?_map] at h
  cases e : l[i]? with
  | none => rw [e] at h; cases h
  | some n => rw [e] at h; exact ⟨n, rfl, (Option.some.inj h).symm⟩
theorem ref_inv {l : List Addr} {i : Nat} {v : V} (h : (l.map V.ref)[i]? = some v) : ∃ a, l[i]? = some a ∧ v = V.ref a := by
  rw [List.getElem?_map] at h
  cases e : l[i]? with
  | none => rw [e] at h; cases h
  | some a => rw [e] at h; exact ⟨a, rfl, (Option.some.inj h).symm⟩
theorem ref_at {l : List Addr} {i : Nat} {a : Addr} (h : l[i]? = some a) : (l.map V.ref)[i]? = some (V.ref a) := by
  rw [List.getElem?_map, h]
  rfl
theorem nv_flat (l : List Nat) : (Nv l).all flatV = true := List.all_eq_true.mpr fun v hv => by
  unfold Nv at hv
  obtain ⟨n, _, rfl⟩ := List.mem_map.mp hv
  rfl
structure Each {A : Type} (R : Nat → Addr → A → Prop) (as : List Addr) (xs : List A) : Prop where
  len : as.length = xs.length
  at_ : ∀ (i : Nat) (a : Addr) (x : A), as[i]? = some a → xs[i]? = some x → R i a x
theorem Each.nil {A : Type} {R : Nat → Addr → A → Prop} : Each R [] [] := ⟨rfl, fun i a x h => by simp at h⟩
theorem Each.get {A : Type} {R : Nat → Addr → A → Prop} {as : List Addr} {xs : List A} (E : Each R as xs) {i : Nat} {x : A} (h : xs[i]? = some x) : ∃ a, as[i]? = some a ∧ R i a x := by
  have hl : i < as.length := by rw [E.len]; exact (List.getElem?_eq_some_iff.mp h).1
  exact ⟨as[i], List.getElem?_eq_getElem hl, E.at_ i _ x (List.getElem?_eq_getElem hl) h⟩
theorem Each.of {A : Type} {R : Nat → Addr → A → Prop} {as : List Addr} {xs : List A} (E : Each R as xs) {i : Nat} {a : Addr} (h : as[i]? = some a) : ∃ x, xs[i]? = some x ∧ R i a x := by
  have hl : i < xs.length := by rw [← E.len]; exact (List.getElem?_eq_some_iff.mp h).1
  exact ⟨xs[i], List.getElem?_eq_getElem hl, E.at_ i a _ h (List.getElem?_eq_getElem hl)⟩
theorem Each.mono {A : Type} {R R' : Nat → Addr → A → Prop} {as : List Addr} {xs : List A} (E : Each R as xs) (h : ∀ i a x, R i a x → R' i a x) : Each R' as xs := ⟨E.len, fun i a x h1 h2 => h i a x (E.at_ i a x h1 h2)⟩
theorem Each.monoM {A : Type} {R R' : Nat → Addr → A → Prop} {as : List Addr} {xs : List A} (E : Each R as xs) (h : ∀ i a x, as[i]? = some a → xs[i]? = some x → R i a x → R' i a x) : Each R' as xs := ⟨E.len, fun i a x h1 h2 => h i a x h1 h2 (E.at_ i a x h1 h2)⟩
theorem Each.snoc {A : Type} {R : Nat → Addr → A → Prop} {as : List Addr} {xs : List A} (E : Each R as xs) {a : Addr} {x : A} (h : R xs.length a x) : Each R (as ++ [a]) (xs ++ [x]) := by
  refine ⟨by rw [List.length_append, List.length_append, E.len]; rfl, fun i b y h1 h2 => ?_⟩
  rcases Nat.lt_trichotomy i xs.length with l | l | l
  · rw [List.getElem?_append_left (by rw [E.len]; exact l)] at h1
    rw [List.getElem?_append_left l] at h2
    exact E.at_ i b y h1 h2
  · subst l
    rw [← E.len, List.getElem?_append_right (Nat.le_refl _), Nat.sub_self] at h1
    rw [List.getElem?_append_right (Nat.le_refl _), Nat.sub_self] at h2
    cases h1
    cases h2
    exact h
  · rw [List.getElem?_append_right (by omega), List.getElem?_eq_none (by show 1 ≤ _; omega)] at h2
    cases h2
theorem Each.dropLast {A : Type} {R : Nat → Addr → A → Prop} {as : List Addr} {xs : List A} (E : Each R as xs) : Each R as.dropLast xs.dropLast := by
  refine ⟨by rw [List.length_dropLast, List.length_dropLast, E.len], fun i a x h1 h2 => ?_⟩
  rw [List.getElem?_dropLast] at h1 h2
  split at h1
  · split at h2
    · exact E.at_ i a x h1 h2
    · cases h2
  · cases h1
theorem Each.set {A : Type} {R : Nat → Addr → A → Prop} {as : List Addr} {xs : List A} (E : Each R as xs) {n : Nat} {a : Addr} {x : A} (h : R n a x) : Each R (as.set n a) (xs.set n x) := by
  refine ⟨by rw [List.length_set, List.length_set, E.len], fun i b y h1 h2 => ?_⟩
  by_cases e : n = i
  · subst e
    by_cases hl : n < as.length
    · rw [List.getElem?_set_self hl] at h1
      rw [List.getElem?_set_self (by rw [← E.len]; exact hl)] at h2
      cases h1
      cases h2
      exact h
    · rw [List.getElem?_eq_none (by rw [List.length_set]; omega)] at h1
      cases h1
  · rw [List.getElem?_set_ne e] at h1 h2
    exact E.at_ i b y h1 h2
def Keep (H H' : Hp) : Prop := ∀ b o, H b = some o → (∀ ps, o ≠ .tbl ps) → H' b = some o
theorem Keep.refl (H : Hp) : Keep H H := fun _ _ h _ => h
theorem Keep.trans {H H1 H2 : Hp} (a : Keep H H1) (b : Keep H1 H2) : Keep H H2 := fun c o h n => b c o (a c o h n) n
theorem Keep.of {H H' : Hp} (a : Same H H') : Keep H H' := fun b o h _ => a b o h
theorem Keep.lst {H H' : Hp} (k : Keep H H') {a : Addr} {xs : List V} (h : H a = some (.lst xs)) : H' a = some (.lst xs) := k a _ h (fun _ q => by cases q)
theorem Keep.ins {H H' : Hp} (k : Keep H H') {a C dx : Addr} {fs : List (Str × V)} (h : H a = some (.ins C dx fs)) : H' a = some (.ins C dx fs) := k a _ h (fun _ q => by cases q)
theorem same_new {H : Hp} {a : Addr} {o : HO} (h : H a = none) : Same H (upd H a o) := fun b u e => by
  rw [upd_ne (ne_of_none e h)]
  exact e
theorem yes_then {σ : L2.St} {H : Hp} {A B : Hp → Prop} (h : A H) : tYes σ H fun b H3 => if b = true then A H3 else B H3 := by
  show if true = true then A H else B H
  rw [if_pos rfl]
  exact h
def f4 (n1 : Str) (v1 : V) (n2 : Str) (v2 : V) (n3 : Str) (v3 : V) (n4 : Str) (v4 : V) : List (Str × V) := putF n4 v4 (putF n3 v3 (putF n2 v2 (putF n1 v1 [])))
def f3 (n1 : Str) (v1 : V) (n2 : Str) (v2 : V) (n3 : Str) (v3 : V) : List (Str × V) := putF n3 v3 (putF n2 v2 (putF n1 v1 []))
theorem f3_look (n1 : Str) (v1 : V) (n2 : Str) (v2 : V) (n3 : Str) (v3 : V) (m : Str) : (f3 n1 v1 n2 v2 n3 v3).lookup m = if m = n3 then some v3 else if m = n2 then some v2 else if m = n1 then some v1 else none := by
  unfold f3
  rw [lookup_putF, lookup_putF, lookup_putF]
  rfl
theorem f4_look (n1 : Str) (v1 : V) (n2 : Str) (v2 : V) (n3 : Str) (v3 : V) (n4 : Str) (v4 : V) (m : Str) : (f4 n1 v1 n2 v2 n3 v3 n4 v4).lookup m = if m = n4 then some v4 else if m = n3 then some v3 else if m = n2 then some v2 else if m = n1 then some v1 else none := by
  unfold f4
  rw [lookup_putF, lookup_putF, lookup_putF, lookup_putF]
  rfl
end Pf
namespace Pf
open PySem PySem.Spec PyProof.Rows L2
def top (i : Nat) : Stmt := PySem.Challenge.pw_platforms_s01_answers.main.body.getD i (.Pass ⟨0, 0, 0, 0⟩)
abbrev sStI : Stmt := inClass (top 15) 0
abbrev sFirst : Stmt := inClass (top 15) 1
abbrev sDo : Stmt := inClass (top 15) 2
abbrev sBring : Stmt := inClass (top 15) 3
abbrev sTake : Stmt := inClass (top 15) 4
abbrev sLeads : Stmt := inClass (top 15) 5
abbrev sLong : Stmt := inClass (top 15) 6
abbrev sTrack : Stmt := inClass (top 15) 7
abbrev sCoI : Stmt := inClass (top 3) 0
abbrev sCan : Stmt := inClass (top 3) 1
abbrev sCost : Stmt := inClass (top 3) 2
abbrev sGoI : Stmt := inClass (top 4) 0
abbrev sMvI : Stmt := inClass (top 5) 0
abbrev sMoves : Stmt := top 6
abbrev sChoices : Stmt := top 17
abbrev sShare : Stmt := top 18
abbrev sSeI : Stmt := inClass (top 19) 0
abbrev sWays : Stmt := inClass (top 19) 1
abbrev sIsWay : Stmt := inClass (top 19) 2
abbrev sCanOn : Stmt := inClass (top 19) 3
abbrev sCanGr : Stmt := inClass (top 19) 4
abbrev sCaI : Stmt := inClass (top 40) 0
abbrev sRead : Stmt := top 41
abbrev sReads : Stmt := top 42
def spI4 (C : Addr) (n1 n2 n3 n4 : Str) : Sp := fun vs H Q _ => ∃ (p dx : Addr) (v1 v2 v3 v4 : V), vs = [.ref p, v1, v2, v3, v4] ∧ H p = some (.ins C dx []) ∧
  ∀ H' : Hp, H' p = some (.ins C dx (f4 n1 v1 n2 v2 n3 v3 n4 v4)) → (∀ b o, H b = some o → b ≠ p → H' b = some o) → Q .non H'
def spI3 (C : Addr) (n1 n2 n3 : Str) : Sp := fun vs H Q _ => ∃ (p dx : Addr) (v1 v2 v3 : V), vs = [.ref p, v1, v2, v3] ∧ H p = some (.ins C dx []) ∧
  ∀ H' : Hp, H' p = some (.ins C dx (f3 n1 v1 n2 v2 n3 v3)) → (∀ b o, H b = some o → b ≠ p → H' b = some o) → Q .non H'
section
variable {P : Program} {w : World} {K : Frag} {mg : Str → Option Value} {base : Heap}
theorem scCaI : FnScope ["self", "number", "numbers", "rows", "behind"] ["self", "number", "numbers", "rows", "behind"] (defScope sCaI) := ⟨rfl, rfl, rfl, by decide +kernel, rfl, by decide +kernel, by decide +kernel⟩
theorem ok_caI {f C : Addr} {fd : FuncData} (F : Fun K "__init__" "Call.__init__" sCaI f fd) (cl : Cls K C) (n1 : NoAttr K C "number") (n2 : NoAttr K C "numbers") (n3 : NoAttr K C "rows") (n4 : NoAttr K C "behind") :
    FnOk P w K mg base CX0 1 f fd ["self", "number", "numbers", "rows", "behind"] (spI4 C "number" "numbers" "rows" "behind") := by
  refine F.ok scCaI (fun vs H Q E h => ?_) (fun cdv A outer s H vs Q E hr h => ?_)
  · obtain ⟨p, dx, v1, v2, v3, v4, rfl, _⟩ := h
    rfl
  · obtain ⟨p, dx, v1, v2, v3, v4, rfl, hp, k⟩ := h
    refine ⟨_, pss_cons (ps_fld (pv 0) (pv 1) rfl) (pss_cons (ps_fld (pv 0) (pv 2) rfl) (pss_cons (ps_fld (pv 0) (pv 3) rfl) (pss_one (ps_fld (pv 0) (pv 4) rfl)))), ?_⟩
    refine ⟨_, rfl, _, rfl, p, C, dx, [], rfl, hp, cl, n1, (by show 0 < 1000; decide), ?_⟩
    refine ⟨_, rfl, _, rfl, p, C, dx, _, rfl, upd_same, cl, n2, (by show 1 < 1000; decide), ?_⟩
    refine ⟨_, rfl, _, rfl, p, C, dx, _, rfl, upd_same, cl, n3, (Nat.lt_of_le_of_lt (length_putF _ _ _) (by show 2 < 1000; decide)), ?_⟩
    refine ⟨_, rfl, _, rfl, p, C, dx, _, rfl, upd_same, cl, n4, (Nat.lt_of_le_of_lt (length_putF _ _ _) (Nat.lt_of_le_of_lt (Nat.succ_le_succ (length_putF _ _ _)) (by show 3 < 1000; decide))), ?_⟩
    refine k _ upd_same fun b o e hb => ?_
    rw [upd_ne hb, upd_ne hb, upd_ne hb, upd_ne hb]
    exact e
theorem scCoI : FnScope ["self", "minute", "side", "parts", "costs"] ["self", "minute", "side", "parts", "costs"] (defScope sCoI) := ⟨rfl, rfl, rfl, by decide +kernel, rfl, by decide +kernel, by decide +kernel⟩
theorem ok_coI {f C : Addr} {fd : FuncData} (F : Fun K "__init__" "Coming.__init__" sCoI f fd) (cl : Cls K C) (n1 : NoAttr K C "minute") (n2 : NoAttr K C "side") (n3 : NoAttr K C "parts") (n4 : NoAttr K C "costs") :
    FnOk P w K mg base CX0 1 f fd ["self", "minute", "side", "parts", "costs"] (spI4 C "minute" "side" "parts" "costs") := by
  refine F.ok scCoI (fun vs H Q E h => ?_) (fun cdv A outer s H vs Q E hr h => ?_)
  · obtain ⟨p, dx, v1, v2, v3, v4, rfl, _⟩ := h
    rfl
  · obtain ⟨p, dx, v1, v2, v3, v4, rfl, hp, k⟩ := h
    refine ⟨_, pss_cons (ps_fld (pv 0) (pv 1) rfl) (pss_cons (ps_fld (pv 0) (pv 2) rfl) (pss_cons (ps_fld (pv 0) (pv 3) rfl) (pss_one (ps_fld (pv 0) (pv 4) rfl)))), ?_⟩
    refine ⟨_, rfl, _, rfl, p, C, dx, [], rfl, hp, cl, n1, (by show 0 < 1000; decide), ?_⟩
    refine ⟨_, rfl, _, rfl, p, C, dx, _, rfl, upd_same, cl, n2, (by show 1 < 1000; decide), ?_⟩
    refine ⟨_, rfl, _, rfl, p, C, dx, _, rfl, upd_same, cl, n3, (Nat.lt_of_le_of_lt (length_putF _ _ _) (by show 2 < 1000; decide)), ?_⟩
    refine ⟨_, rfl, _, rfl, p, C, dx, _, rfl, upd_same, cl, n4, (Nat.lt_of_le_of_lt (length_putF _ _ _) (Nat.lt_of_le_of_lt (Nat.succ_le_succ (length_putF _ _ _)) (by show 3 < 1000; decide))), ?_⟩
    refine k _ upd_same fun b o e hb => ?_
    rw [upd_ne hb, upd_ne hb, upd_ne hb, upd_ne hb]
    exact e
theorem scGoI : FnScope ["self", "minute", "side", "parts"] ["self", "minute", "side", "parts"] (defScope sGoI) := ⟨rfl, rfl, rfl, by decide +kernel, rfl, by decide +kernel, by decide +kernel⟩
theorem ok_goI {f C : Addr} {fd : FuncData} (F : Fun K "__init__" "Going.__init__" sGoI f fd) (cl : Cls K C) (n1 : NoAttr K C "minute") (n2 : NoAttr K C "side") (n3 : NoAttr K C "parts") :
    FnOk P w K mg base CX0 1 f fd ["self", "minute", "side", "parts"] (spI3 C "minute" "side" "parts") := by
  refine F.ok scGoI (fun vs H Q E h => ?_) (fun cdv A outer s H vs Q E hr h => ?_)
  · obtain ⟨p, dx, v1, v2, v3, rfl, _⟩ := h
    rfl
  · obtain ⟨p, dx, v1, v2, v3, rfl, hp, k⟩ := h
    refine ⟨_, pss_cons (ps_fld (pv 0) (pv 1) rfl) (pss_cons (ps_fld (pv 0) (pv 2) rfl) (pss_one (ps_fld (pv 0) (pv 3) rfl))), ?_⟩
    refine ⟨_, rfl, _, rfl, p, C, dx, [], rfl, hp, cl, n1, (by show 0 < 1000; decide), ?_⟩
    refine ⟨_, rfl, _, rfl, p, C, dx, _, rfl, upd_same, cl, n2, (by show 1 < 1000; decide), ?_⟩
    refine ⟨_, rfl, _, rfl, p, C, dx, _, rfl, upd_same, cl, n3, (Nat.lt_of_le_of_lt (length_putF _ _ _) (by show 2 < 1000; decide)), ?_⟩
    refine k _ upd_same fun b o e hb => ?_
    rw [upd_ne hb, upd_ne hb, upd_ne hb]
    exact e
theorem scMvI : FnScope ["self", "kind", "number", "train"] ["self", "kind", "number", "train"] (defScope sMvI) := ⟨rfl, rfl, rfl, by decide +kernel, rfl, by decide +kernel, by decide +kernel⟩
theorem ok_mvI {f C : Addr} {fd : FuncData} (F : Fun K "__init__" "Move.__init__" sMvI f fd) (cl : Cls K C) (n1 : NoAttr K C "kind") (n2 : NoAttr K C "number") (n3 : NoAttr K C "train") :
    FnOk P w K mg base CX0 1 f fd ["self", "kind", "number", "train"] (spI3 C "kind" "number" "train") := by
  refine F.ok scMvI (fun vs H Q E h => ?_) (fun cdv A outer s H vs Q E hr h => ?_)
  · obtain ⟨p, dx, v1, v2, v3, rfl, _⟩ := h
    rfl
  · obtain ⟨p, dx, v1, v2, v3, rfl, hp, k⟩ := h
    refine ⟨_, pss_cons (ps_fld (pv 0) (pv 1) rfl) (pss_cons (ps_fld (pv 0) (pv 2) rfl) (pss_one (ps_fld (pv 0) (pv 3) rfl))), ?_⟩
    refine ⟨_, rfl, _, rfl, p, C, dx, [], rfl, hp, cl, n1, (by show 0 < 1000; decide), ?_⟩
    refine ⟨_, rfl, _, rfl, p, C, dx, _, rfl, upd_same, cl, n2, (by show 1 < 1000; decide), ?_⟩
    refine ⟨_, rfl, _, rfl, p, C, dx, _, rfl, upd_same, cl, n3, (Nat.lt_of_le_of_lt (length_putF _ _ _) (by show 2 < 1000; decide)), ?_⟩
    refine k _ upd_same fun b o e hb => ?_
    rw [upd_ne hb, upd_ne hb, upd_ne hb]
    exact e
end
end Pf
namespace Pf
open PySem PySem.Spec PyProof.Rows L2
section
variable {n1 n2 n3 n4 m : Str} {v1 v2 v3 v4 : V}
theorem f4_4 : (f4 n1 v1 n2 v2 n3 v3 n4 v4).lookup n4 = some v4 := by rw [f4_look, if_pos rfl]
theorem f4_3 (h : ¬ n3 = n4) : (f4 n1 v1 n2 v2 n3 v3 n4 v4).lookup n3 = some v3 := by rw [f4_look, if_neg h, if_pos rfl]
theorem f4_2 (h : ¬ n2 = n4) (h' : ¬ n2 = n3) : (f4 n1 v1 n2 v2 n3 v3 n4 v4).lookup n2 = some v2 := by rw [f4_look, if_neg h, if_neg h', if_pos rfl]
theorem f4_1 (h : ¬ n1 = n4) (h' : ¬ n1 = n3) (h'' : ¬ n1 = n2) : (f4 n1 v1 n2 v2 n3 v3 n4 v4).lookup n1 = some v1 := by rw [f4_look, if_neg h, if_neg h', if_neg h'', if_pos rfl]
theorem f4_0 (a : ¬ m = n4) (b : ¬ m = n3) (c : ¬ m = n2) (d : ¬ m = n1) : (f4 n1 v1 n2 v2 n3 v3 n4 v4).lookup m = none := by rw [f4_look, if_neg a, if_neg b, if_neg c, if_neg d]
theorem f3_3 : (f3 n1 v1 n2 v2 n3 v3).lookup n3 = some v3 := by rw [f3_look, if_pos rfl]
theorem f3_2 (h : ¬ n2 = n3) : (f3 n1 v1 n2 v2 n3 v3).lookup n2 = some v2 := by rw [f3_look, if_neg h, if_pos rfl]
theorem f3_1 (h : ¬ n1 = n3) (h' : ¬ n1 = n2) : (f3 n1 v1 n2 v2 n3 v3).lookup n1 = some v1 := by rw [f3_look, if_neg h, if_neg h', if_pos rfl]
theorem f3_0 (a : ¬ m = n3) (b : ¬ m = n2) (c : ¬ m = n1) : (f3 n1 v1 n2 v2 n3 v3).lookup m = none := by rw [f3_look, if_neg a, if_neg b, if_neg c]
theorem f4_n (z : ¬ m = n4 ∧ ¬ m = n3 ∧ ¬ m = n2 ∧ ¬ m = n1) : (f4 n1 v1 n2 v2 n3 v3 n4 v4).lookup m = none := f4_0 z.1 z.2.1 z.2.2.1 z.2.2.2
theorem f3_n (z : ¬ m = n3 ∧ ¬ m = n2 ∧ ¬ m = n1) : (f3 n1 v1 n2 v2 n3 v3).lookup m = none := f3_0 z.1 z.2.1 z.2.2
theorem z1 : 1 ≤ sizeLine := by decide
theorem z2 : 2 ≤ sizeLine := by decide
end
abbrev coF (m s : Nat) (pa ca : Addr) : List (Str × V) := f4 "minute" (.int (Int.ofNat m)) "side" (.int (Int.ofNat s)) "parts" (.ref pa) "costs" (.ref ca)
abbrev goF (m s : Nat) (pa : Addr) : List (Str × V) := f3 "minute" (.int (Int.ofNat m)) "side" (.int (Int.ofNat s)) "parts" (.ref pa)
abbrev mvF (k n : Nat) (t : Addr) : List (Str × V) := f3 "kind" (.int (Int.ofNat k)) "number" (.int (Int.ofNat n)) "train" (.ref t)
abbrev stF (tr le ro : Addr) : List (Str × V) := f3 "tracks" (.ref tr) "lengths" (.ref le) "rows" (.ref ro)
def costOut : Option Nat → Nat
  | none => 0
  | some n => n + 1
theorem costOut_in (k : Nat) : costOut (Mx.costN k) = k := by
  unfold Mx.costN
  by_cases h : k = 0
  · rw [if_pos h, h]; rfl
  · rw [if_neg h]; show k - 1 + 1 = k; omega
def ComA (C : Addr) (first : Nat) (c : Sx61.Coming) (H : Hp) (a : Addr) : Prop := ∃ dx pa ca, H a = some (.ins C dx (coF c.minute (Mx.b2n c.right) pa ca)) ∧
  H pa = some (.lst (Nv ((List.range c.parts.length).map fun i => first + i))) ∧ H ca = some (.lst (Nv (c.costs.map costOut)))
def GoA (C : Addr) (g : Sx61.Going) (H : Hp) (a : Addr) : Prop := ∃ dx pa, H a = some (.ins C dx (goF g.minute (Mx.b2n g.right) pa)) ∧ H pa = some (.lst (Nv g.parts))
def kindOf : Sx61.Move → Nat
  | .come _ => 0
  | .go _ => 1
def numOfM : Sx61.Move → Nat
  | .come k => k
  | .go k => k
def TrA (Co Go : Addr) (p : Sx61.Plan) (m : Sx61.Move) (H : Hp) (t : Addr) : Prop := match m with
  | .come k => ∃ c, p.comings[k]? = some c ∧ ComA Co (p.first k) c H t
  | .go k => ∃ g, p.goings[k]? = some g ∧ GoA Go g H t
def MvA (C Co Go : Addr) (p : Sx61.Plan) (m : Sx61.Move) (H : Hp) (a : Addr) : Prop := ∃ dx t, H a = some (.ins C dx (mvF (kindOf m) (numOfM m) t)) ∧ TrA Co Go p m H t
def TrksA (ts : List Sx61.Track) (H : Hp) (a : Addr) : Prop := ∃ as, H a = some (.lst (as.map V.ref)) ∧ Each (fun _ b t => H b = some (.lst (Nv (Mx.row3 t)))) as ts
theorem ComA.mono {C : Addr} {first : Nat} {c : Sx61.Coming} {H H' : Hp} {a : Addr} (k : Keep H H') (h : ComA C first c H a) : ComA C first c H' a :=
  let ⟨dx, pa, ca, h1, h2, h3⟩ := h; ⟨dx, pa, ca, k.ins h1, k.lst h2, k.lst h3⟩
theorem GoA.mono {C : Addr} {g : Sx61.Going} {H H' : Hp} {a : Addr} (k : Keep H H') (h : GoA C g H a) : GoA C g H' a :=
  let ⟨dx, pa, h1, h2⟩ := h; ⟨dx, pa, k.ins h1, k.lst h2⟩
theorem TrA.mono {Co Go : Addr} {p : Sx61.Plan} {m : Sx61.Move} {H H' : Hp} {t : Addr} (k : Keep H H') (h : TrA Co Go p m H t) : TrA Co Go p m H' t := by
  cases m with
  | come j => obtain ⟨c, h1, h2⟩ := h; exact ⟨c, h1, h2.mono k⟩
  | go j => obtain ⟨g, h1, h2⟩ := h; exact ⟨g, h1, h2.mono k⟩
theorem MvA.mono {C Co Go : Addr} {p : Sx61.Plan} {m : Sx61.Move} {H H' : Hp} {a : Addr} (k : Keep H H') (h : MvA C Co Go p m H a) : MvA C Co Go p m H' a :=
  let ⟨dx, t, h1, h2⟩ := h; ⟨dx, t, k.ins h1, h2.mono k⟩
theorem TrksA.mono {ts : List Sx61.Track} {H H' : Hp} {a : Addr} (k : Keep H H') (h : TrksA ts H a) : TrksA ts H' a :=
  let ⟨as, h1, h2⟩ := h; ⟨as, k.lst h1, h2.mono fun _ _ _ q => k.lst q⟩
def spCan (C : Addr) : Sp := fun vs H Q _ => ∃ (a : Addr) (first : Nat) (c : Sx61.Coming) (n : Nat), vs = [.ref a, .int (Int.ofNat n)] ∧ ComA C first c H a ∧ n < c.costs.length ∧ Q (.bl (c.costs.getD n none).isSome) H
def spCost (C : Addr) : Sp := fun vs H Q _ => ∃ (a : Addr) (first : Nat) (c : Sx61.Coming) (n : Nat), vs = [.ref a, .int (Int.ofNat n)] ∧ ComA C first c H a ∧ n < c.costs.length ∧ Q (.int (Int.ofNat (costOut (c.costs.getD n none)) - 1)) H
structure TxCo (K : Frag) (C : Addr) : Prop where
  cl : Cls K C
  nm : NoAttr K C "minute"
  ns : NoAttr K C "side"
  np : NoAttr K C "parts"
  nc : NoAttr K C "costs"
section
variable {P : Program} {w : World} {K : Frag} {mg : Str → Option Value} {base : Heap}
theorem cost_at {c : Sx61.Coming} {n : Nat} (h : n < c.costs.length) : (c.costs.map costOut)[n]? = some (costOut (c.costs.getD n none)) := by
  rw [List.getElem?_map, List.getElem?_eq_getElem h, List.getD_eq_getElem?_getD, List.getElem?_eq_getElem h]
  rfl
theorem scCan : FnScope ["self", "track"] ["self", "track"] (defScope sCan) := ⟨rfl, rfl, rfl, by decide +kernel, rfl, by decide +kernel, by decide +kernel⟩
theorem ok_can {f C : Addr} {fd : FuncData} (F : Fun K "can_stand_on" "Coming.can_stand_on" sCan f fd) (T : TxCo K C) : FnOk P w K mg base CX0 1 f fd ["self", "track"] (spCan C) := by
  refine F.ok scCan (fun vs H Q E h => ?_) (fun cdv A outer s H vs Q E hr h => ?_)
  · obtain ⟨a, first, c, n, rfl, _⟩ := h
    rfl
  · obtain ⟨a, first, c, n, rfl, ⟨dx, pa, ca, h1, h2, h3⟩, hn, k⟩ := h
    refine ⟨_, pss_one (ps_ret (pe_cmpR op_gt (pe_ix ix_list (pe_fld (pv 0) rfl) (pv 1) (fun _ _ => rfl)) pe_int (nomark _))), ?_⟩
    refine ⟨_, rfl, a, C, dx, _, _, rfl, h1, T.cl, T.nc, f4_4, _, rfl, ca, _, _, _, rfl, rfl, SqL.of h3, atI_nat (nv_at (cost_at hn)), _, _, rfl, rfl, ?_⟩
    have e : decide ((0 : Int) < Int.ofNat (costOut (c.costs.getD n none))) = (c.costs.getD n none).isSome := by
      cases c.costs.getD n none with
      | none => rfl
      | some m => exact decide_eq_true (by show (0 : Int) < ((m + 1 : Nat) : Int); omega)
    show Q (V.bl (decide ((0 : Int) < Int.ofNat (costOut (c.costs.getD n none))))) H
    rw [e]
    exact k
theorem scCost : FnScope ["self", "track"] ["self", "track"] (defScope sCost) := ⟨rfl, rfl, rfl, by decide +kernel, rfl, by decide +kernel, by decide +kernel⟩
theorem ok_cost {f C : Addr} {fd : FuncData} (F : Fun K "cost_on" "Coming.cost_on" sCost f fd) (T : TxCo K C) : FnOk P w K mg base CX0 1 f fd ["self", "track"] (spCost C) := by
  refine F.ok scCost (fun vs H Q E h => ?_) (fun cdv A outer s H vs Q E hr h => ?_)
  · obtain ⟨a, first, c, n, rfl, _⟩ := h
    rfl
  · obtain ⟨a, first, c, n, rfl, ⟨dx, pa, ca, h1, h2, h3⟩, hn, k⟩ := h
    refine ⟨_, pss_one (ps_ret (pe_op op_sub (pe_ix ix_list (pe_fld (pv 0) rfl) (pv 1) (fun _ _ => rfl)) pe_int)), ?_⟩
    refine ⟨_, rfl, a, C, dx, _, _, rfl, h1, T.cl, T.nc, f4_4, _, rfl, ca, _, _, _, rfl, rfl, SqL.of h3, atI_nat (nv_at (cost_at hn)), _, _, rfl, rfl, ?_⟩
    exact k
end
structure TxSt (K : Frag) (mg : Str → Option Value) (C : Addr) : Prop where
  cl : Cls K C
  nt : NoAttr K C "tracks"
  nl : NoAttr K C "lengths"
  nr : NoAttr K C "rows"
  sum : mg "sum" = none
  enum : mg "enumerate" = none
  len : mg "len" = none
def spLeads (C : Addr) : Sp := fun vs H Q _ => ∃ (a dx tr le ro : Addr) (ts : List Sx61.Track) (n : Nat) (t : Sx61.Track) (b : Bool), vs = [.ref a, .int (Int.ofNat n), .int (Int.ofNat (Mx.b2n b))] ∧ H a = some (.ins C dx (stF tr le ro)) ∧ TrksA ts H tr ∧ ts[n]? = some t ∧ Q (.bl (t.open_ b)) H
def spLong (C : Addr) : Sp := fun vs H Q _ => ∃ (a dx tr le ro pa : Addr) (l ps : List Nat), vs = [.ref a, .ref pa] ∧ H a = some (.ins C dx (stF tr le ro)) ∧ H le = some (.lst (Nv l)) ∧ H pa = some (.lst (Nv ps)) ∧ ps.length ≤ 1000 ∧ (∀ i ∈ ps, i < l.length) ∧
  ∀ H' : Hp, Same H H' → Q (.int (Int.ofNat (ps.map fun i => l.getD i 0).sum)) H'
section
variable {P : Program} {w : World} {K : Frag} {mg : Str → Option Value} {base : Heap}
theorem scLeads : FnScope ["self", "track", "side"] ["self", "track", "side"] (defScope sLeads) := ⟨rfl, rfl, rfl, by decide +kernel, rfl, by decide +kernel, by decide +kernel⟩
theorem ok_leads {f C : Addr} {fd : FuncData} (F : Fun K "leads_to" "Standing.leads_to" sLeads f fd) (T : TxSt K mg C) : FnOk P w K mg base CX0 1 f fd ["self", "track", "side"] (spLeads C) := by
  refine F.ok scLeads (fun vs H Q E h => ?_) (fun cdv A outer s H vs Q E hr h => ?_)
  · obtain ⟨a, dx, tr, le, ro, ts, n, t, b, rfl, _⟩ := h
    rfl
  · obtain ⟨a, dx, tr, le, ro, ts, n, t, b, rfl, h1, ⟨as, h2, h3⟩, ht, k⟩ := h
    obtain ⟨b1, e1, e2⟩ := h3.get ht
    refine ⟨_, pss_one (ps_ret (pe_cmpR op_eq (pe_ix ix_list (pe_ix ix_list (pe_fld (pv 0) rfl) (pv 1) (fun _ _ => rfl)) (pe_op op_add pe_int (pv 2)) (fun _ _ => rfl)) pe_int (nomark _))), ?_⟩
    refine ⟨_, rfl, a, C, dx, _, _, rfl, h1, T.cl, T.nt, f3_1 (by decide +kernel) (by decide +kernel), _, rfl, tr, _, _, _, rfl, rfl, SqL.of h2, atI_nat (ref_at e1), _, rfl, _, _, rfl, rfl, b1, _, _, V.int (Int.ofNat (if b = true then Mx.b2n t.right else Mx.b2n t.left)), rfl, rfl, SqL.of e2, ?_, rfl, ?_⟩
    · cases b with
      | true => exact at_of (j := 2) rfl rfl
      | false => exact at_of (j := 1) rfl rfl
    · have e : decide (V.int (Int.ofNat (if b = true then Mx.b2n t.right else Mx.b2n t.left)) = V.int 1) = t.open_ b := by
        unfold Sx61.Track.open_
        cases b <;> cases t.left <;> cases t.right <;> rfl
      rw [e]
      exact k
theorem scLong : FnScope ["self", "parts", "part"] ["self", "parts"] (defScope sLong) := ⟨rfl, rfl, rfl, by decide +kernel, rfl, by decide +kernel, by decide +kernel⟩
theorem ok_long {f C : Addr} {fd : FuncData} (F : Fun K "length_of" "Standing.length_of" sLong f fd) (T : TxSt K mg C) : FnOk P w K mg base CX0 1 f fd ["self", "parts"] (spLong C) := by
  refine F.ok scLong (fun vs H Q E h => ?_) (fun cdv A outer s H vs Q E hr h => ?_)
  · obtain ⟨a, dx, tr, le, ro, pa, l, ps, rfl, _⟩ := h
    rfl
  · obtain ⟨a, dx, tr, le, ro, pa, l, ps, rfl, h1, h2, h3, hz, hl, k⟩ := h
    refine ⟨_, pss_one (ps_ret (pe_callB (cr_sum rfl) (by rfl) T.sum boot_sum (pa_cons (pe_lc (own := [("part", 2)]) (te := tOp (rIxL K) (tFld K (tVar 0) "lengths") (tVar 2)) rfl scLong.nd (pi_list (pv 1)) (blkOk_by (by rfl)) (fun _ _ _ _ _ => by exact pg_name (i := 2) scLong.nd rfl (Or.inl rfl) (.inr rfl)) (fun _ _ _ _ _ => by exact pts_nil)
      (fun _ _ _ _ _ => by exact pe_ix ix_list (pe_fld (pv 0) rfl) (pv 2) (fun _ _ => rfl))) pa_nil))), ?_⟩
    refine ⟨_, rfl, pa, rfl, ⟨_, SqL.of h3⟩, fun D hD => ?_⟩
    have sD : ∀ xs, Same H (upd H D (.lst xs)) := fun xs => same_new hD
    refine lc_list (K := K) (a := pa) (xs := Nv ps) (fun i H' => H' = upd H D (.lst (Nv ((ps.take i).map fun i => l.getD i 0)))) rfl (fun i H' _ e => by subst e; exact SqL.of (sD _ _ _ h3)) ?_ ?_
    · intro i x H' hx e
      subst e
      obtain ⟨n, hn, rfl⟩ := nv_inv hx
      have hnl : n < l.length := hl n (List.mem_of_getElem? hn)
      refine ⟨rfl, ?_⟩
      refine yes_then ?_
      refine ⟨_, rfl, a, C, dx, _, _, rfl, sD _ _ _ h1, T.cl, T.nl, f3_2 (by decide +kernel), _, rfl, le, _, _, _, rfl, rfl, SqL.of (sD _ _ _ h2), atI_nat (nv_at (n := l.getD n 0) (by rw [List.getD_eq_getElem?_getD, List.getElem?_eq_getElem hnl]; rfl)), _, upd_same, ?_, ?_⟩
      · rw [nv_len, List.length_map, List.length_take, sizeLine_eq]
        omega
      · rw [upd_upd, Mx.take_snoc hn, List.map_append, nv_app]
        rfl
    · intro H' e
      subst e
      rw [nv_len, List.take_length]
      refine ⟨D, (ps.map fun i => l.getD i 0).map Int.ofNat, rfl, ?_, ?_⟩
      · rw [show ((ps.map fun i => l.getD i 0).map Int.ofNat).map V.int = Nv (ps.map fun i => l.getD i 0) from nv_iv _]
        exact SqL.of upd_same
      · have e : ∀ l : List Nat, (l.map Int.ofNat).sum = Int.ofNat l.sum := by
          intro l
          induction l with
          | nil => rfl
          | cons x l ih => rw [List.map_cons, List.sum_cons, ih, List.sum_cons]; rfl
        rw [e]
        exact k _ (sD _)
end
end Pf
namespace Pf
open PySem PySem.Spec PyProof.Rows L2
def StaA (C tr le ro : Addr) (s : Sx61.Stand) (H : Hp) (a : Addr) : Prop := ∃ dx ras, H a = some (.ins C dx (stF tr le ro)) ∧ H ro = some (.lst (ras.map V.ref)) ∧ Each (fun _ r row => H r = some (.lst (Nv row))) ras s ∧ ro ∉ ras
theorem StaA.mono {C tr le ro : Addr} {s : Sx61.Stand} {H H' : Hp} {a : Addr} (k : Keep H H') (h : StaA C tr le ro s H a) : StaA C tr le ro s H' a :=
  let ⟨dx, ras, h1, h2, h3, h4⟩ := h; ⟨dx, ras, k.ins h1, k.lst h2, h3.mono fun _ _ _ q => k.lst q, h4⟩
def spStI (C : Addr) : Sp := fun vs H Q _ => ∃ (p dx tr le : Addr) (xs : List V), vs = [.ref p, .ref tr, .ref le] ∧ H p = some (.ins C dx []) ∧ H tr = some (.lst xs) ∧ xs.length ≤ 1000 ∧
  ∀ (H' : Hp) (ro : Addr), H ro = none → StaA C tr le ro (xs.map fun _ => []) H' p → (∀ b o, H b = some o → b ≠ p → H' b = some o) → Q .non H'
def spTrk (C : Addr) : Sp := fun vs H Q _ => ∃ (a tr le ro : Addr) (s : Sx61.Stand) (i : Nat), vs = [.ref a, .int (Int.ofNat i)] ∧ StaA C tr le ro s H a ∧
  ∀ H' : Hp, Same H H' → Q (match s.findIdx? (fun r => r.contains i) with | some n => .int (Int.ofNat n) | none => .non) H'
theorem inV_nv (i : Nat) (row : List Nat) : inV (V.int (Int.ofNat i)) (Nv row) = row.contains i := by
  unfold inV Nv
  rw [List.any_map]
  induction row with
  | nil => rfl
  | cons x l ih =>
    rw [List.any_cons, ih, List.contains_cons]
    congr 1
    show (Int.ofNat x == Int.ofNat i) = (i == x)
    by_cases e : i = x
    · subst e; simp
    · have h1 : (i == x) = false := by simpa using e
      have h2 : (Int.ofNat x == Int.ofNat i) = false := by
        rw [beq_eq_false_iff_ne]
        intro q
        exact e (Int.ofNat.inj q).symm
      rw [h1, h2]
section
variable {P : Program} {w : World} {K : Frag} {mg : Str → Option Value} {base : Heap}
theorem scStI : FnScope ["self", "tracks", "lengths", "track"] ["self", "tracks", "lengths"] (defScope sStI) := ⟨rfl, rfl, rfl, by decide +kernel, rfl, by decide +kernel, by decide +kernel⟩
theorem ok_stI {f C : Addr} {fd : FuncData} (F : Fun K "__init__" "Standing.__init__" sStI f fd) (T : TxSt K mg C) : FnOk P w K mg base CX0 1 f fd ["self", "tracks", "lengths"] (spStI C) := by
  refine F.ok scStI (fun vs H Q E h => ?_) (fun cdv A outer s H vs Q E hr h => ?_)
  · obtain ⟨p, dx, tr, le, xs, rfl, _⟩ := h
    rfl
  · obtain ⟨p, dx, tr, le, xs, rfl, hp, ht, hz, k⟩ := h
    refine ⟨_, pss_cons (ps_fld (pv 0) (pv 1) rfl) (pss_cons (ps_fld (pv 0) (pv 2) rfl) (pss_one (ps_fld (pv 0) (pe_lc (own := [("track", 3)]) rfl scStI.nd (pi_list (pv 1)) (blkOk_by (by rfl)) (fun _ _ _ _ _ => by exact pg_name (i := 3) scStI.nd rfl (Or.inl rfl) (.inr rfl)) (fun _ _ _ _ _ => by exact pts_nil)
      (fun _ _ _ _ _ => by exact pe_lst pa_nil)) rfl))), ?_⟩
    have hpt : tr ≠ p := ne_of ht hp (by intro z; cases z)
    refine ⟨_, rfl, _, rfl, p, C, dx, [], rfl, hp, T.cl, T.nt, (by show 0 < 1000; decide), ?_⟩
    refine ⟨_, rfl, _, rfl, p, C, dx, _, rfl, upd_same, T.cl, T.nl, (by show 1 < 1000; decide), ?_⟩
    rw [upd_upd]
    have ht1 : upd H p (.ins C dx (putF "lengths" (V.ref le) (putF "tracks" (V.ref tr) []))) tr = some (.lst xs) := by rw [upd_ne hpt]; exact ht
    generalize hH1 : upd H p (.ins C dx (putF "lengths" (V.ref le) (putF "tracks" (V.ref tr) []))) = H1 at ht1
    have hp1 : H1 p = some (.ins C dx (putF "lengths" (V.ref le) (putF "tracks" (V.ref tr) []))) := by rw [← hH1]; exact upd_same
    refine ⟨_, rfl, tr, rfl, ⟨_, SqL.of ht1⟩, fun D hD => ?_⟩
    refine lc_list (K := K) (a := tr) (xs := xs) (fun i H' => Same H1 H' ∧ ∃ ras : List Addr, ras.length = i ∧ H' D = some (.lst (ras.map V.ref)) ∧ D ∉ ras ∧ ∀ r ∈ ras, H' r = some (.lst [])) ⟨same_new hD, [], rfl, upd_same, (by simp), fun r hr => (by cases hr)⟩ (fun i H' _ e => SqL.of (e.1 _ _ ht1)) ?_ ?_
    · rintro i x H' hx ⟨sm, ras, hl, hd, hnd, hra⟩
      refine ⟨rfl, ?_⟩
      refine yes_then ?_
      refine ⟨(by show 0 ≤ sizeLine; exact Nat.zero_le _), fun q hq => ?_⟩
      have hqD : D ≠ q := ne_of_none hd hq
      refine ⟨_, (by rw [upd_ne hqD]; exact hd), ?_, ?_, ras ++ [q], (by rw [List.length_append, hl]; rfl), ?_, ?_, fun r hr => ?_⟩
      · rw [List.length_map, hl, sizeLine_eq]
        have := (List.getElem?_eq_some_iff.mp hx).1
        omega
      · intro b o e
        have e' := sm b o e
        rw [upd_ne (ne_of_none e hD), upd_ne (ne_of_none e' hq)]
        exact e'
      · rw [upd_same, List.map_append]
        rfl
      · simp only [List.mem_append, List.mem_singleton, not_or]
        exact ⟨hnd, hqD⟩
      · rcases List.mem_append.mp hr with z | z
        · rw [upd_ne (fun e => hnd (by rw [← e]; exact z)), upd_ne (ne_of_none (hra r z) hq)]
          exact hra r z
        · rw [List.mem_singleton.mp z, upd_ne hqD.symm, upd_same]
    · rintro H' ⟨sm, ras, hl, hd, hnd, hra⟩
      refine ⟨_, rfl, p, C, dx, _, rfl, sm _ _ hp1, T.cl, T.nr, (Nat.lt_of_le_of_lt (length_putF _ _ _) (by show 2 < 1000; decide)), ?_⟩
      have hpD : p ≠ D := ne_of_none hp1 hD
      have hDH : H D = none := by
        cases e : H D with
        | none => rfl
        | some o =>
          rw [← hH1, upd_ne hpD.symm, e] at hD
          cases hD
      refine k _ D hDH ⟨dx, ras, upd_same, ?_, ⟨by rw [List.length_map]; exact hl, fun i r row h1 h2 => ?_⟩, hnd⟩ fun b o e hb => ?_
      · rw [upd_ne hpD.symm]; exact hd
      · have hrm := List.mem_of_getElem? h1
        rw [upd_ne (fun e => ?_)]
        · rw [hra r hrm]
          rw [List.getElem?_map] at h2
          cases e2 : xs[i]? with
          | none => rw [e2] at h2; cases h2
          | some v => rw [e2] at h2; cases h2; rfl
        · have := hra r hrm
          rw [e, sm _ _ hp1] at this
          cases this
      · rw [upd_ne hb]
        refine sm b o ?_
        rw [← hH1, upd_ne hb]
        exact e
theorem scTrk : FnScope ["self", "part", "track", "row"] ["self", "part"] (defScope sTrack) := ⟨rfl, rfl, rfl, by decide +kernel, rfl, by decide +kernel, by decide +kernel⟩
theorem find_none {A : Type} {p : A → Bool} {l : List A} (h : ∀ (j : Nat) (x : A), l[j]? = some x → p x = false) : l.findIdx? p = none := by
  rw [List.findIdx?_eq_none_iff]
  intro x hx
  obtain ⟨j, hj, e⟩ := List.getElem_of_mem hx
  exact h j x (by rw [List.getElem?_eq_getElem hj, e])
theorem find_some {A : Type} {p : A → Bool} {l : List A} {i : Nat} {x : A} (h : ∀ (j : Nat) (y : A), j < i → l[j]? = some y → p y = false) (hx : l[i]? = some x) (hp : p x = true) : l.findIdx? p = some i := by
  rw [List.findIdx?_eq_some_iff_getElem]
  obtain ⟨hl, e⟩ := List.getElem?_eq_some_iff.mp hx
  refine ⟨hl, by rw [e]; exact hp, fun j hj => ?_⟩
  have := h j _ hj (List.getElem?_eq_getElem (Nat.lt_trans hj hl))
  simpa using this
theorem ok_trk {f C : Addr} {fd : FuncData} (F : Fun K "track_of" "Standing.track_of" sTrack f fd) (T : TxSt K mg C) : FnOk P w K mg base CX0 1 f fd ["self", "part"] (spTrk C) := by
  refine F.ok scTrk (fun vs H Q E h => ?_) (fun cdv A outer s H vs Q E hr h => ?_)
  · obtain ⟨a, tr, le, ro, s, i, rfl, _⟩ := h
    rfl
  · obtain ⟨a, tr, le, ro, st, i0, rfl, ⟨dx, ras, h1, h2, h3, h4⟩, k⟩ := h
    refine ⟨_, pss_cons (ps_for PassesOwn.never rfl (pi_enum rfl T.enum (pa_cons (pe_fld (pv 0) rfl) pa_nil)) (pg_tup rfl (pgs_cons (pg_name (i := 2) scTrk.nd rfl (Or.inl rfl)) (pgs_cons (pg_name (i := 3) scTrk.nd rfl (Or.inl rfl)) pgs_nil)))
      (pss_one (ps_if (pt_cmpR op_in_seq (pv 1) (pv 3) rfl) (pss_one (ps_ret (pv 2))) pss_nil))) (pss_one (ps_ret pe_non)), ?_⟩
    refine ⟨_, rfl, a, C, dx, _, _, rfl, h1, T.cl, T.nr, f3_3, ro, _, rfl, SqL.of h2, for_enum (K := K) (a := ro) (xs := ras.map V.ref) (fun i σ H' => (∃ v2 v3, σ = [some (.ref a), some (.int (Int.ofNat i0)), v2, v3]) ∧ Same H H' ∧ ∀ (j : Nat) (r : List Nat), j < i → st[j]? = some r → r.contains i0 = false)
      ⟨⟨none, none, rfl⟩, Same.refl _, fun j r hj => absurd hj (Nat.not_lt_zero _)⟩ (fun i σ H' _ e => SqL.of (e.2.1 _ _ h2)) ?_ ?_⟩
    · rintro i x σ H' Tp hx ⟨⟨v2, v3, rfl⟩, sm, no⟩ hT
      obtain ⟨r, hr1, rfl⟩ := ref_inv hx
      obtain ⟨row, hrow, hrr⟩ := h3.of hr1
      have sT : Same H' (upd H' Tp (.tup [.int (i : Nat), .ref r])) := same_new hT
      refine ⟨Tp, _, rfl, SqT.of upd_same, rfl, _, _, rfl, _, _, rfl, rfl, ?_⟩
      refine ⟨_, rfl, _, rfl, r, _, rfl, .inl (SqL.of (sT _ _ (sm _ _ hrr))), rfl, nv_flat _, _, rfl, ?_⟩
      show if inV (V.int (Int.ofNat i0)) (Nv row) = true then _ else _
      rw [inV_nv]
      refine ite2 (fun hc => ?_) (fun hc => ?_)
      · refine ⟨_, rfl, ?_⟩
        have e := find_some (p := fun r : List Nat => r.contains i0) (l := st) (i := i) (x := row) no hrow hc
        have q := k _ (sm.trans sT)
        rw [e] at q
        exact q
      · refine ⟨⟨_, _, rfl⟩, sm.trans sT, fun j r' hj e => ?_⟩
        by_cases z : j = i
        · subst z
          rw [hrow] at e
          cases e
          exact Bool.eq_false_iff.mpr hc
        · exact no j r' (by omega) e
    · rintro σ H' ⟨⟨v2, v3, rfl⟩, sm, no⟩
      have e := find_none (p := fun r : List Nat => r.contains i0) (l := st) fun j x hx => no j x (by rw [List.length_map, h3.len]; exact (List.getElem?_eq_some_iff.mp hx).1) hx
      have q := k _ sm
      rw [e] at q
      exact q
end
end Pf
namespace Pf
open PySem PySem.Spec PyProof.Rows L2
def outV : Except Sx61.Why Sx61.Stand → List V
  | .error w => [.int (Int.ofNat w.kind), .int (Int.ofNat w.what)]
  | .ok _ => []
def afterS (s : Sx61.Stand) : Except Sx61.Why Sx61.Stand → Sx61.Stand
  | .error _ => s
  | .ok t => t
structure Small (l : List Nat) (s : Sx61.Stand) : Prop where
  row : ∀ r ∈ s, r.length ≤ 500 ∧ ∀ i ∈ r, i < l.length
def spBring (C Co : Addr) : Sp := fun vs H Q _ => ∃ (a tr le ro ca : Addr) (p : Sx61.Plan) (trs : List Nat) (s : Sx61.Stand) (k n : Nat) (c : Sx61.Coming), vs = [.ref a, .ref ca, .int (Int.ofNat n)] ∧ StaA C tr le ro s H a ∧ TrksA p.tracks H tr ∧ H le = some (.lst (Nv p.lengths)) ∧
  ComA Co (p.first k) c H ca ∧ p.comings[k]? = some c ∧ trs.getD k 0 = n ∧ n < p.tracks.length ∧ s.length = p.tracks.length ∧ c.costs.length = p.tracks.length ∧ c.parts.length ≤ 4 ∧ Small p.lengths s ∧
  ∀ (H' : Hp) (r : Addr), (∀ b o, H b = some o → b ≠ ro → H' b = some o) → StaA C tr le ro (afterS s (p.does trs s (.come k))) H' a → H' r = some (.lst (outV (p.does trs s (.come k)))) → Q (.ref r) H'
structure TxS (K : Frag) (mg : Str → Option Value) (C Co Go : Addr) : Prop where
  st : TxSt K mg C
  co : TxCo K Co
  go : Cls K Go
  gm : NoAttr K Go "minute"
  gs : NoAttr K Go "side"
  gp : NoAttr K Go "parts"
  gLEFT : ∃ u, mg "LEFT" = some (.int 0 u)
  gNOW : ∃ u, mg "STANDS_NOWHERE" = some (.int 1 u)
  gROW : ∃ u, mg "NOT_IN_A_ROW" = some (.int 2 u)
  gAHE : ∃ u, mg "OTHERS_AHEAD" = some (.int 3 u)
  gCLO : ∃ u, mg "CLOSED" = some (.int 4 u)
  gALL : ∃ u, mg "NOT_ALLOWED" = some (.int 5 u)
  gROO : ∃ u, mg "NO_ROOM" = some (.int 6 u)
section
variable {P : Program} {w : World} {K : Frag} {mg : Str → Option Value} {base : Heap}
theorem ixN_nat {m n : Nat} (h : n < m) : ixN m (Int.ofNat n) = some n := by
  unfold ixN
  have h1 : (0 : Int) ≤ Int.ofNat n := Int.natCast_nonneg n
  have h2 : Int.ofNat n < (m : Int) := Int.ofNat_lt.mpr h
  rw [if_pos h1, if_pos h2]
  rfl
theorem does_come {p : Sx61.Plan} {trs : List Nat} {s : Sx61.Stand} {k n : Nat} {c : Sx61.Coming} {t : Sx61.Track} (hc : p.comings[k]? = some c) (hn : trs.getD k 0 = n) (ht : p.tracks[n]? = some t) :
    p.does trs s (.come k) = if (c.costs.getD n none).isNone = true then .error ⟨5, n⟩ else if t.open_ c.right = false then .error ⟨4, n⟩ else if t.long < p.long (s.getD n []) + p.long (p.partsOf k) then .error ⟨6, n⟩ else .ok (s.set n (if c.right = true then s.getD n [] ++ p.partsOf k else p.partsOf k ++ s.getD n [])) := by
  unfold Sx61.Plan.does
  dsimp only
  rw [hn, hc, ht]
theorem partsOf_eq {p : Sx61.Plan} {k : Nat} {c : Sx61.Coming} (hc : p.comings[k]? = some c) : p.partsOf k = (List.range c.parts.length).map fun i => p.first k + i := by
  unfold Sx61.Plan.partsOf
  rw [hc]
theorem StaA.put {C tr le ro : Addr} {s : Sx61.Stand} {H : Hp} {a l : Addr} {n : Nat} {row : List Nat} {ras : List Addr} {dx : Addr} (h1 : H a = some (.ins C dx (stF tr le ro))) (h2 : H ro = some (.lst (ras.map V.ref))) (h3 : Each (fun _ r row => H r = some (.lst (Nv row))) ras s) (h4 : ro ∉ ras)
    (hl : H l = none) : StaA C tr le ro (s.set n row) (upd (upd H l (.lst (Nv row))) ro (.lst ((ras.map V.ref).set n (V.ref l)))) a := by
  have n1 : a ≠ ro := ne_of h1 h2 (by intro z; cases z)
  have n2 : a ≠ l := ne_of_none h1 hl
  have n3 : l ≠ ro := (ne_of_none h2 hl).symm
  refine ⟨dx, ras.set n l, by rw [upd_ne n1, upd_ne n2]; exact h1, by rw [upd_same, List.map_set], Each.set (h3.monoM fun i r row' hr _ q => ?_) ?_, fun q => ?_⟩
  · rw [upd_ne (fun e => h4 (by rw [← e]; exact List.mem_of_getElem? hr)), upd_ne (ne_of_none q hl)]
    exact q
  · rw [upd_ne n3, upd_same]
  · rcases Mx.mem_set q with e | e
    · exact n3 e.symm
    · exact h4 e
theorem scBring : FnScope ["self", "train", "track"] ["self", "train", "track"] (defScope sBring) := ⟨rfl, rfl, rfl, by decide +kernel, rfl, by decide +kernel, by decide +kernel⟩
theorem ok_bring {f C Co Go fC fL fS : Addr} {fd fdC fdL fdS : FuncData} (F : Fun K "bring" "Standing.bring" sBring f fd) (T : TxS K mg C Co Go)
    (FC : Fun K "can_stand_on" "Coming.can_stand_on" sCan fC fdC) (bC : Binds K fdC ["self", "track"] []) (mC : Meth K Co "can_stand_on" fC)
    (FL : Fun K "leads_to" "Standing.leads_to" sLeads fL fdL) (bL : Binds K fdL ["self", "track", "side"] []) (mL : Meth K C "leads_to" fL)
    (FS : Fun K "length_of" "Standing.length_of" sLong fS fdS) (bS : Binds K fdS ["self", "parts"] []) (mS : Meth K C "length_of" fS) :
    FnOk P w K mg base CX0 2 f fd ["self", "train", "track"] (spBring C Co) := by
  have GC : FnOk P w K mg base CX0 1 fC fdC ["self", "track"] (spCan Co) := ok_can FC T.co
  have GL : FnOk P w K mg base CX0 1 fL fdL ["self", "track", "side"] (spLeads C) := ok_leads FL T.st
  have GS : FnOk P w K mg base CX0 1 fS fdS ["self", "parts"] (spLong C) := ok_long FS T.st
  obtain ⟨u0, g0⟩ := T.gLEFT
  obtain ⟨u4, g4⟩ := T.gCLO
  obtain ⟨u5, g5⟩ := T.gALL
  obtain ⟨u6, g6⟩ := T.gROO
  refine F.ok scBring (fun vs H Q E h => ?_) (fun cdv A outer s H vs Q E hr h => ?_)
  · obtain ⟨a, tr, le, ro, ca, p, trs, s, k, n, c, rfl, _⟩ := h
    rfl
  · obtain ⟨a, tr, le, ro, ca, p, trs, st, k, n, c, rfl, ⟨dx, ras, h1, h2, h3, h4⟩, hT, hle, hC, hck, hn, hnl, hsl, hcl, hpl, hS, kk⟩ := h
    have hC' := hC
    obtain ⟨dc, pa, cc, c1, c2, c3⟩ := hC'
    refine ⟨_, pss_cons (ps_if (pt_not (pt_val (pe_meth (pv 1) T.co.cl mC GC hr bC .nil pass0 (pa_cons (pv 2) pa_nil)))) (pss_one (ps_ret (pe_lst (pa_cons (pe_glob (v := .int 5) rfl g5 ⟨_, rfl⟩) (pa_cons (pv 2) pa_nil))))) pss_nil)
      (pss_cons (ps_if (pt_not (pt_val (pe_meth (pv 0) T.st.cl mL GL hr bL .nil pass0 (pa_cons (pv 2) (pa_cons (pe_fld (pv 1) rfl) pa_nil))))) (pss_one (ps_ret (pe_lst (pa_cons (pe_glob (v := .int 4) rfl g4 ⟨_, rfl⟩) (pa_cons (pv 2) pa_nil))))) pss_nil)
      (pss_cons (ps_if (pt_cmpR op_gt (pe_meth (pv 0) T.st.cl mS GS hr bS .nil pass0 (pa_cons (pe_op op_cat (pe_ix ix_list (pe_fld (pv 0) rfl) (pv 2) (fun _ _ => rfl)) (pe_fld (pv 1) rfl)) pa_nil)) (pe_ix ix_list (pe_ix ix_list (pe_fld (pv 0) rfl) (pv 2) (fun _ _ => rfl)) pe_int (fun _ _ => rfl)) (nomark _))
          (pss_one (ps_ret (pe_lst (pa_cons (pe_glob (v := .int 6) rfl g6 ⟨_, rfl⟩) (pa_cons (pv 2) pa_nil))))) pss_nil)
      (pss_cons (ps_if (pt_cmpR op_eq (pe_fld (pv 1) rfl) (pe_glob (v := .int 0) rfl g0 ⟨_, rfl⟩) (nomark _))
          (pss_one (ps_asg (pe_op op_cat (pe_fld (pv 1) rfl) (pe_ix ix_list (pe_fld (pv 0) rfl) (pv 2) (fun _ _ => rfl))) (pg_sub (pe_fld (pv 0) rfl) (pv 2) set_list)))
          (pss_one (ps_asg (pe_op op_cat (pe_ix ix_list (pe_fld (pv 0) rfl) (pv 2) (fun _ _ => rfl)) (pe_fld (pv 1) rfl)) (pg_sub (pe_fld (pv 0) rfl) (pv 2) set_list))))
      (pss_one (ps_ret (pe_lst pa_nil)))))), ?_⟩
    obtain ⟨t, ht⟩ : ∃ t, p.tracks[n]? = some t := ⟨_, List.getElem?_eq_getElem hnl⟩
    obtain ⟨row, hrow⟩ : ∃ row, st[n]? = some row := ⟨_, List.getElem?_eq_getElem (by rw [hsl]; exact hnl)⟩
    have hgd : st.getD n [] = row := by rw [List.getD_eq_getElem?_getD, hrow]; rfl
    have hd := does_come (trs := trs) (s := st) hck hn ht
    rw [hgd] at hd
    have hpo : p.partsOf k = (List.range c.parts.length).map fun i => p.first k + i := partsOf_eq hck
    rw [← hpo] at c2
    obtain ⟨ra, hra, hrr⟩ := h3.get hrow
    have hrm : row ∈ st := List.mem_of_getElem? hrow
    obtain ⟨hrl, hri⟩ := hS.row row hrm
    have hpll : (p.partsOf k).length = c.parts.length := by rw [hpo, List.length_map, List.length_range]
    have close : ∀ (w : Sx61.Why) (H1 : Hp) (r : Addr), Same H H1 → H1 r = none → p.does trs st (.come k) = .error w → Q (.ref r) (upd H1 r (.lst [.int (Int.ofNat w.kind), .int (Int.ofNat w.what)])) := by
      intro w H1 r sm hr1 e
      rw [e] at kk
      have sm2 : Same H (upd H1 r (.lst [.int (Int.ofNat w.kind), .int (Int.ofNat w.what)])) := sm.trans (same_new hr1)
      exact kk _ r (fun b o e _ => sm2 b o e) (StaA.mono (Keep.of sm2) ⟨dx, ras, h1, h2, h3, h4⟩) upd_same
    refine ⟨_, rfl, ca, dc, _, rfl, c1, f4_n (by decide +kernel), _, rfl, ca, p.first k, c, n, rfl, hC, (by rw [hcl]; exact hnl), _, rfl, ?_⟩
    cases hco : c.costs.getD n none with
    | none =>
      refine iteT ?_
      refine ⟨_, rfl, z2, fun r hr1 => ?_⟩
      exact close ⟨5, n⟩ H r (Same.refl _) hr1 (by rw [hd, hco]; rfl)
    | some cost =>
      refine iteF ?_
      rw [hco, if_neg (by simp)] at hd
      refine ⟨_, rfl, a, dx, _, rfl, h1, f3_n (by decide +kernel), _, rfl, _, rfl, ca, Co, dc, _, _, rfl, c1, T.co.cl, T.co.ns, f4_2 (by decide +kernel) (by decide +kernel), a, dx, tr, le, ro, p.tracks, n, t, c.right, rfl, h1, hT, ht, _, rfl, ?_⟩
      cases hop : t.open_ c.right with
      | false =>
        refine iteT ?_
        refine ⟨_, rfl, z2, fun r hr1 => ?_⟩
        exact close ⟨4, n⟩ H r (Same.refl _) hr1 (by rw [hd, if_pos hop])
      | true =>
        refine iteF ?_
        rw [if_neg (by rw [hop]; simp)] at hd
        obtain ⟨as, ha1, ha2⟩ := hT
        obtain ⟨tb, htb1, htb2⟩ := ha2.get ht
        refine ⟨_, rfl, a, dx, _, rfl, h1, f3_n (by decide +kernel), _, rfl, a, C, dx, _, _, rfl, h1, T.st.cl, T.st.nr, f3_3, _, rfl, ro, _, _, _, rfl, rfl, SqL.of h2, atI_nat (ref_at hra), _, rfl, ca, Co, dc, _, _, rfl, c1, T.co.cl, T.co.np, f4_3 (by decide +kernel), ra, pa, _, _, rfl, rfl, hrr, c2, ?_, fun q hq => ?_⟩
        · rw [nv_len, nv_len, hpll, sizeLine_eq]
          omega
        have sq : Same H (upd H q (.lst (Nv row ++ Nv (p.partsOf k)))) := same_new hq
        refine ⟨a, dx, tr, le, ro, q, p.lengths, row ++ p.partsOf k, rfl, sq _ _ h1, sq _ _ hle, (by rw [upd_same, nv_app]), (by rw [List.length_append, hpll]; omega), (fun i hi => ?_), fun H2 sm2 => ?_⟩
        · rcases List.mem_append.mp hi with z | z
          · exact hri i z
          · exact Mx.partsOf_lt z
        have s2 : Same H H2 := sq.trans sm2
        refine ⟨_, rfl, a, C, dx, _, _, rfl, s2 _ _ h1, T.st.cl, T.st.nt, f3_1 (by decide +kernel) (by decide +kernel), _, rfl, tr, _, _, _, rfl, rfl, SqL.of (s2 _ _ ha1), atI_nat (ref_at htb1), tb, _, _, V.int (Int.ofNat t.long), rfl, rfl, SqL.of (s2 _ _ htb2), at_of (j := 0) rfl rfl, _, _, rfl, rfl, _, rfl, ?_⟩
        have el : ((row ++ p.partsOf k).map fun i => p.lengths.getD i 0).sum = p.long row + p.long (p.partsOf k) := by
          rw [List.map_append, List.sum_append]
          rfl
        rw [el]
        by_cases hlo : t.long < p.long row + p.long (p.partsOf k)
        · rw [if_pos hlo] at hd
          rw [decide_eq_true (show Int.ofNat t.long < Int.ofNat (p.long row + p.long (p.partsOf k)) from Int.ofNat_lt.mpr hlo)]
          refine iteT ?_
          refine ⟨_, rfl, z2, fun r hr1 => ?_⟩
          exact close ⟨6, n⟩ H2 r s2 hr1 hd
        · rw [if_neg hlo] at hd
          rw [decide_eq_false (show ¬ Int.ofNat t.long < Int.ofNat (p.long row + p.long (p.partsOf k)) from fun z => hlo (Int.ofNat_lt.mp z))]
          refine iteF ?_
          rw [hd] at kk
          have E2 : Each (fun _ r row => H2 r = some (.lst (Nv row))) ras st := h3.mono fun _ _ _ z => s2 _ _ z
          have fin : ∀ (row' : List Nat) (l : Addr) (r : Addr), H2 l = none → (if c.right = true then row ++ p.partsOf k else p.partsOf k ++ row) = row' → upd (upd H2 l (.lst (Nv row'))) ro (.lst ((ras.map V.ref).set n (V.ref l))) r = none →
              Q (.ref r) (upd (upd (upd H2 l (.lst (Nv row'))) ro (.lst ((ras.map V.ref).set n (V.ref l)))) r (.lst [])) := by
            intro row' l r hl e hr1
            rw [e] at kk
            have SA := StaA.put (n := n) (row := row') (s2 _ _ h1) (s2 _ _ h2) E2 h4 hl
            refine kk _ r (fun b o e hb => ?_) (SA.mono (Keep.of (same_new hr1))) upd_same
            have e2 := s2 b o e
            have e3 : upd (upd H2 l (.lst (Nv row'))) ro (.lst ((ras.map V.ref).set n (V.ref l))) b = some o := by
              rw [upd_ne hb, upd_ne (ne_of_none e2 hl)]
              exact e2
            exact same_new hr1 _ _ e3
          have hix : ixN (ras.map V.ref).length (Int.ofNat n) = some n := ixN_nat (by rw [List.length_map, h3.len, hsl]; exact hnl)
          refine ⟨_, rfl, ca, Co, dc, _, _, rfl, s2 _ _ c1, T.co.cl, T.co.ns, f4_2 (by decide +kernel) (by decide +kernel), rfl, _, rfl, ?_⟩
          cases hri2 : c.right with
          | false =>
            refine iteT ?_
            refine ⟨_, rfl, ca, Co, dc, _, _, rfl, s2 _ _ c1, T.co.cl, T.co.np, f4_3 (by decide +kernel), _, rfl, a, C, dx, _, _, rfl, s2 _ _ h1, T.st.cl, T.st.nr, f3_3, _, rfl, ro, _, _, _, rfl, rfl, SqL.of (s2 _ _ h2), atI_nat (ref_at hra), pa, ra, _, _, rfl, rfl, s2 _ _ c2, s2 _ _ hrr, ?_, fun l hl => ?_⟩
            · rw [nv_len, nv_len, hpll, sizeLine_eq]
              omega
            have sl : Same H2 (upd H2 l (.lst (Nv (p.partsOf k) ++ Nv row))) := same_new hl
            refine ⟨_, rfl, a, C, dx, _, _, rfl, sl _ _ (s2 _ _ h1), T.st.cl, T.st.nr, f3_3, _, rfl, ro, _, _, n, rfl, rfl, sl _ _ (s2 _ _ h2), hix, ?_⟩
            refine ⟨Nat.zero_le _, fun r hr1 => ?_⟩
            have q2 := fin (p.partsOf k ++ row) l r hl (by rw [hri2]; rfl) (by rw [nv_app]; exact hr1)
            rw [nv_app] at q2
            exact q2
          | true =>
            refine iteF ?_
            refine ⟨_, rfl, a, C, dx, _, _, rfl, s2 _ _ h1, T.st.cl, T.st.nr, f3_3, _, rfl, ro, _, _, _, rfl, rfl, SqL.of (s2 _ _ h2), atI_nat (ref_at hra), _, rfl, ca, Co, dc, _, _, rfl, s2 _ _ c1, T.co.cl, T.co.np, f4_3 (by decide +kernel), ra, pa, _, _, rfl, rfl, s2 _ _ hrr, s2 _ _ c2, ?_, fun l hl => ?_⟩
            · rw [nv_len, nv_len, hpll, sizeLine_eq]
              omega
            have sl : Same H2 (upd H2 l (.lst (Nv row ++ Nv (p.partsOf k)))) := same_new hl
            refine ⟨_, rfl, a, C, dx, _, _, rfl, sl _ _ (s2 _ _ h1), T.st.cl, T.st.nr, f3_3, _, rfl, ro, _, _, n, rfl, rfl, sl _ _ (s2 _ _ h2), hix, ?_⟩
            refine ⟨Nat.zero_le _, fun r hr1 => ?_⟩
            have q2 := fin (row ++ p.partsOf k) l r hl (by rw [hri2]; rfl) (by rw [nv_app]; exact hr1)
            rw [nv_app] at q2
            exact q2
end
end Pf
namespace Pf
open PySem PySem.Spec PyProof.Rows L2
theorem iteY {c : Bool} {A B : Prop} (h : c = true) (a : A) : if c = true then A else B := by
  rw [if_pos h]
  exact a
theorem iteN {c : Bool} {A B : Prop} (h : c = false) (b : B) : if c = true then A else B := by
  rw [if_neg (by rw [h]; exact Bool.false_ne_true)]
  exact b
theorem nv_drop (l : List Nat) (n : Nat) : (Nv l).drop n = Nv (l.drop n) := (List.map_drop ..).symm
theorem nv_take (l : List Nat) (n : Nat) : (Nv l).take n = Nv (l.take n) := (List.map_take ..).symm
theorem cut_take (l : List Nat) (a b : Nat) : (l.drop (min a l.length)).take (min b l.length - min a l.length) = (l.drop a).take (b - a) := by
  by_cases h : a < l.length
  · rw [Nat.min_eq_left (Nat.le_of_lt h)]
    by_cases h2 : b ≤ l.length
    · rw [Nat.min_eq_left h2]
    · rw [Nat.min_eq_right (by omega), List.take_of_length_le (by rw [List.length_drop]; omega), List.take_of_length_le (by rw [List.length_drop]; omega)]
  · have e1 : min a l.length = l.length := Nat.min_eq_right (by omega)
    have e2 : l.drop a = [] := List.drop_eq_nil_of_le (by omega)
    rw [e1, e2, List.drop_length, List.take_nil, List.take_nil]
theorem cut_nv (l : List Nat) (a b : Nat) : cutV (Nv l) (some (Int.ofNat a)) (some (Int.ofNat b)) = Nv ((l.drop a).take (b - a)) := by
  unfold cutV
  have e1 : HT.sIx (Nv l).length 0 (some (Int.ofNat a)) = min a (Nv l).length := HT.sIx_nat _ _ _
  have e2 : HT.sIx (Nv l).length (Nv l).length (some (Int.ofNat b)) = min b (Nv l).length := HT.sIx_nat _ _ _
  rw [e1, e2, nv_len, nv_drop, nv_take, cut_take]
theorem cut_nv0 (l : List Nat) (b : Nat) : cutV (Nv l) none (some (Int.ofNat b)) = Nv (l.take b) := by
  unfold cutV
  have e2 : HT.sIx (Nv l).length (Nv l).length (some (Int.ofNat b)) = min b (Nv l).length := HT.sIx_nat _ _ _
  rw [HT.sIx_none, e2, nv_len, List.drop_zero, Nat.sub_zero, nv_take]
  congr 1
  by_cases h : b ≤ l.length
  · rw [Nat.min_eq_left h]
  · rw [Nat.min_eq_right (by omega), List.take_length, List.take_of_length_le (by omega)]
theorem cut_nv1 (l : List Nat) (a : Nat) : cutV (Nv l) (some (Int.ofNat a)) none = Nv (l.drop a) := by
  unfold cutV
  have e1 : HT.sIx (Nv l).length 0 (some (Int.ofNat a)) = min a (Nv l).length := HT.sIx_nat _ _ _
  rw [e1, HT.sIx_none, nv_len, nv_drop, nv_take]
  congr 1
  by_cases h : a ≤ l.length
  · rw [Nat.min_eq_left h, List.take_of_length_le (by rw [List.length_drop]; omega)]
  · rw [Nat.min_eq_right (by omega), List.drop_length, List.drop_eq_nil_of_le (by omega), List.take_nil]
theorem dp_all {K : Frag} {H : Hp} : ∀ l : List Nat, DpAll K H (Nv l) ((l.map Int.ofNat).map PyData.int)
  | [] => .nil
  | n :: l => .cons (.int _) (dp_all l)
theorem ofNat_inj_list {a b : List Nat} : a.map Int.ofNat = b.map Int.ofNat ↔ a = b := by
  constructor
  · intro h
    have := congrArg Sx61Neutral.nats h
    rw [Mx.nats_map, Mx.nats_map] at this
    exact this
  · intro h; rw [h]
theorem eqv_nv (a b : List Nat) : PyData.eqv (.list ((a.map Int.ofNat).map PyData.int)) (.list ((b.map Int.ofNat).map PyData.int)) = decide (a = b) := by
  show PyData.eqvAll _ _ = _
  rw [PySem.W.ked_eqvAll]
  exact decide_eq_decide.mpr ofNat_inj_list
theorem idx_at {l : List Nat} {x : Nat} (h : x ∈ l) : l[l.idxOf x]? = some x := by
  rw [List.getElem?_eq_getElem (List.idxOf_lt_length_of_mem h), List.getElem_idxOf]
theorem idx_no {l : List Nat} {x m z : Nat} (h : m < l.idxOf x) (e : l[m]? = some z) : ¬ z = x := by
  intro q
  subst q
  obtain ⟨hl, e⟩ := List.getElem?_eq_some_iff.mp e
  have := List.not_of_lt_findIdx (p := (· == z)) (xs := l) (i := m) (by simpa [List.idxOf] using h)
  simp [e] at this
def spTake (C Go : Addr) : Sp := fun vs H Q _ => ∃ (a tr le ro ga : Addr) (p : Sx61.Plan) (trs : List Nat) (s : Sx61.Stand) (k : Nat) (g : Sx61.Going), vs = [.ref a, .ref ga] ∧ StaA C tr le ro s H a ∧ TrksA p.tracks H tr ∧
  GoA Go g H ga ∧ p.goings[k]? = some g ∧ g.parts ≠ [] ∧ g.parts.length ≤ 500 ∧ s.length = p.tracks.length ∧ (∀ r ∈ s, r.Nodup ∧ r.length ≤ 500) ∧
  ∀ (H' : Hp) (r : Addr), (∀ b o, H b = some o → b ≠ ro → H' b = some o) → StaA C tr le ro (afterS s (p.does trs s (.go k))) H' a → H' r = some (.lst (outV (p.does trs s (.go k)))) → Q (.ref r) H'
section
variable {P : Program} {w : World} {K : Frag} {mg : Str → Option Value} {base : Heap}
theorem scTake : FnScope ["self", "train", "missing", "track", "row", "start", "behind", "part"] ["self", "train"] (defScope sTake) := ⟨rfl, rfl, rfl, by decide +kernel, rfl, by decide +kernel, by decide +kernel⟩
theorem ok_take {f C Co Go fT fL : Addr} {fd fdT fdL : FuncData} (F : Fun K "take" "Standing.take" sTake f fd) (T : TxS K mg C Co Go)
    (FT : Fun K "track_of" "Standing.track_of" sTrack fT fdT) (bT : Binds K fdT ["self", "part"] []) (mT : Meth K C "track_of" fT)
    (FL : Fun K "leads_to" "Standing.leads_to" sLeads fL fdL) (bL : Binds K fdL ["self", "track", "side"] []) (mL : Meth K C "leads_to" fL) :
    FnOk P w K mg base CX0 2 f fd ["self", "train"] (spTake C Go) := by
  have GT : FnOk P w K mg base CX0 1 fT fdT ["self", "part"] (spTrk C) := ok_trk FT T.st
  have GL : FnOk P w K mg base CX0 1 fL fdL ["self", "track", "side"] (spLeads C) := ok_leads FL T.st
  obtain ⟨u0, g0⟩ := T.gLEFT
  obtain ⟨u1, g1⟩ := T.gNOW
  obtain ⟨u2, g2⟩ := T.gROW
  obtain ⟨u3, g3⟩ := T.gAHE
  obtain ⟨u4, g4⟩ := T.gCLO
  refine F.ok scTake (fun vs H Q E h => ?_) (fun cdv A outer s H vs Q E hr h => ?_)
  · obtain ⟨a, tr, le, ro, ga, p, trs, s, k, g, rfl, _⟩ := h
    rfl
  · obtain ⟨a, tr, le, ro, ga, p, trs, st, k, g, rfl, hSt, hT, hG, hgk, hgn, hgl, hsl, hrw, kk⟩ := h
    refine ⟨_, pss_cons (ps_setLc (i := 2) (own := [("part", 7)]) rfl scTake.nd rfl rfl (sw_true rfl rfl rfl rfl) (pi_list (pe_fld (pv 1) rfl)) (blkOk_by (by rfl)) (fun _ _ _ _ _ => by exact pg_name (i := 7) scTake.nd rfl (Or.inl rfl) (.inr rfl))
        (fun _ _ _ _ _ => by exact pts_one (pt_cmpR op_isN (pe_meth (pv 0) T.st.cl mT GT hr bT .nil pass0 (pa_cons (pv 7) pa_nil)) pe_non (nomark _))) (fun _ _ _ _ _ => by exact pv 7))
      (pss_cons (ps_if (pt_cmpR op_gt (pe_callB call_len_seq (by rfl) T.st.len PySem.boot_len (pa_cons (pv 2) pa_nil)) pe_int (nomark _)) (pss_one (ps_ret (pe_lst (pa_cons (pe_glob (v := .int 1) rfl g1 ⟨_, rfl⟩) (pa_cons (pe_ix ix_list (pv 2) pe_int (fun _ _ => rfl)) pa_nil))))) pss_nil)
      (pss_cons (ps_set (i := 3) scTake.nd rfl (Or.inl rfl) (pe_meth (pv 0) T.st.cl mT GT hr bT .nil pass0 (pa_cons (pe_ix ix_list (pe_fld (pv 1) rfl) pe_int (fun _ _ => rfl)) pa_nil)))
      (pss_cons (ps_set (i := 4) scTake.nd rfl (Or.inl rfl) (pe_ix ix_list (pe_fld (pv 0) rfl) (pv 3) (fun _ _ => rfl)))
      (pss_cons (ps_set (i := 5) scTake.nd rfl (Or.inl rfl) (pe_bm PySem.F.plainAttrs_list PySem.F.slot_list_index PySem.F.type_list_index mt_index (pv 4) (pa_cons (pe_ix ix_list (pe_fld (pv 1) rfl) pe_int (fun _ _ => rfl)) pa_nil)))
      (pss_cons (ps_set (i := 6) scTake.nd rfl (Or.inl rfl) (pe_op op_add (pv 5) (pe_callB call_len_seq (by rfl) T.st.len PySem.boot_len (pa_cons (pe_fld (pv 1) rfl) pa_nil))))
      (pss_cons (ps_if (pt_cmpR (op_neD hr.units) (pe_slice sl_list (pv 4) (po_some (pv 5)) (po_some (pv 6))) (pe_fld (pv 1) rfl) (nomark _)) (pss_one (ps_ret (pe_lst (pa_cons (pe_glob (v := .int 2) rfl g2 ⟨_, rfl⟩) (pa_cons (pe_ix ix_list (pe_fld (pv 1) rfl) pe_int (fun _ _ => rfl)) pa_nil))))) pss_nil)
      (pss_cons (ps_if (PW.pt (pw_and (pt_cmpR op_eq (pe_fld (pv 1) rfl) (pe_glob (v := .int 0) rfl g0 ⟨_, rfl⟩) (nomark _)) (pw_and1 (pt_cmpR op_gt (pv 5) pe_int (nomark _))))) (pss_one (ps_ret (pe_lst (pa_cons (pe_glob (v := .int 3) rfl g3 ⟨_, rfl⟩) (pa_cons (pe_ix ix_list (pv 4) (pe_op op_sub (pv 5) pe_int) (fun _ _ => rfl)) pa_nil))))) pss_nil)
      (pss_cons (ps_if (PW.pt (pw_and (pt_cmpR op_ne (pe_fld (pv 1) rfl) (pe_glob (v := .int 0) rfl g0 ⟨_, rfl⟩) (nomark _)) (pw_and1 (pt_cmpR op_lt (pv 6) (pe_callB call_len_seq (by rfl) T.st.len PySem.boot_len (pa_cons (pv 4) pa_nil)) (nomark _))))) (pss_one (ps_ret (pe_lst (pa_cons (pe_glob (v := .int 3) rfl g3 ⟨_, rfl⟩) (pa_cons (pe_ix ix_list (pv 4) (pv 6) (fun _ _ => rfl)) pa_nil))))) pss_nil)
      (pss_cons (ps_if (pt_not (pt_val (pe_meth (pv 0) T.st.cl mL GL hr bL .nil pass0 (pa_cons (pv 3) (pa_cons (pe_fld (pv 1) rfl) pa_nil))))) (pss_one (ps_ret (pe_lst (pa_cons (pe_glob (v := .int 4) rfl g4 ⟨_, rfl⟩) (pa_cons (pv 3) pa_nil))))) pss_nil)
      (pss_cons (ps_asg (pe_op op_cat (pe_slice sl_list (pv 4) po_none (po_some (pv 5))) (pe_slice sl_list (pv 4) (po_some (pv 6)) po_none)) (pg_sub (pe_fld (pv 0) rfl) (pv 3) set_list))
      (pss_one (ps_ret (pe_lst pa_nil))))))))))))), ?_⟩
    obtain ⟨x, rest, hx⟩ : ∃ x rest, g.parts = x :: rest := by
      cases e : g.parts with
      | nil => exact absurd e hgn
      | cons x rest => exact ⟨x, rest, rfl⟩
    have hd := Mx.does_go (trs := trs) hgk hx (fun row hrow => (hrw row hrow).1)
    have hSt' := hSt
    obtain ⟨dx, ras, h1, h2, h3, h4⟩ := hSt'
    obtain ⟨dg, pa, q1, q2⟩ := hG
    have close : ∀ (w : Sx61.Why) (H1 : Hp) (r : Addr), Same H H1 → H1 r = none → p.does trs st (.go k) = .error w → Q (.ref r) (upd H1 r (.lst [.int (Int.ofNat w.kind), .int (Int.ofNat w.what)])) := by
      intro w H1 r sm hr1 e
      rw [e] at kk
      have sm2 : Same H (upd H1 r (.lst [.int (Int.ofNat w.kind), .int (Int.ofNat w.what)])) := sm.trans (same_new hr1)
      exact kk _ r (fun b o e _ => sm2 b o e) (StaA.mono (Keep.of sm2) hSt) upd_same
    refine ⟨_, rfl, ga, Go, dg, _, _, rfl, q1, T.go, T.gp, f3_3, pa, rfl, ⟨_, SqL.of q2⟩, fun D hD => ?_⟩
    refine lc_list (K := K) (a := pa) (xs := Nv g.parts) (fun i H' => Same H H' ∧ H' D = some (.lst (Nv (Mx.missing st (g.parts.take i))))) ⟨same_new hD, upd_same⟩ (fun i H' _ e => SqL.of (e.1 _ _ q2)) ?_ ?_
    · rintro i v H' hv ⟨sm, hDl⟩
      obtain ⟨n, hn, rfl⟩ := nv_inv hv
      refine ⟨rfl, ?_⟩
      refine ⟨_, rfl, a, dx, _, rfl, sm _ _ h1, f3_n (by decide +kernel), _, rfl, a, tr, le, ro, st, n, rfl, hSt.mono (Keep.of sm), fun H2 sm2 => ⟨rfl, _, rfl, ?_⟩⟩
      have em : Mx.missing st (g.parts.take (i + 1)) = Mx.missing st (g.parts.take i) ++ (if (st.findIdx? fun r => r.contains n).isNone = true then [n] else []) := by
        unfold Mx.missing
        rw [Mx.take_snoc hn, List.filter_append, List.filter_cons, List.filter_nil]
      cases hf : st.findIdx? fun r => r.contains n with
      | none =>
        refine iteT ?_
        refine ⟨_, rfl, _, sm2 _ _ hDl, ?_, ?_, ?_⟩
        · rw [nv_len, sizeLine_eq]
          have : (Mx.missing st (g.parts.take i)).length ≤ (g.parts.take i).length := List.length_filter_le _ _
          rw [List.length_take] at this
          omega
        · intro b o e
          rw [upd_ne (ne_of_none e hD)]
          exact sm2 _ _ (sm _ _ e)
        · rw [upd_same, em, hf, nv_app]
          rfl
      | some m =>
        refine iteF ?_
        refine ⟨sm.trans sm2, ?_⟩
        rw [em, hf]
        rw [if_neg (by simp), List.append_nil]
        exact sm2 _ _ hDl
    · rintro H1 ⟨sm, hDl⟩
      rw [nv_len, List.take_length] at hDl
      refine ⟨_, rfl, D, _, rfl, .inl (SqL.of hDl), _, _, rfl, rfl, _, rfl, ?_⟩
      cases hm : Mx.missing st g.parts with
      | cons m l =>
        rw [hm] at hDl hd
        refine iteY (decide_eq_true (by show (0 : Int) < (((Nv (m :: l)).length : Nat) : Int); rw [nv_len, List.length_cons]; omega)) ?_
        refine ⟨_, rfl, D, _, _, _, rfl, rfl, SqL.of hDl, at_of (j := 0) rfl rfl, z2, fun r hr1 => ?_⟩
        exact close ⟨1, m⟩ H1 r sm hr1 hd
      | nil =>
        rw [hm] at hd
        refine iteN (decide_eq_false (by show ¬ (0 : Int) < (((Nv ([] : List Nat)).length : Nat) : Int); decide)) ?_
        dsimp only at hd
        have hat0 : (Nv g.parts)[0]? = some (V.int (Int.ofNat x)) := by rw [hx]; rfl
        refine ⟨_, rfl, a, dx, _, rfl, sm _ _ h1, f3_n (by decide +kernel), _, rfl, ga, Go, dg, _, _, rfl, sm _ _ q1, T.go, T.gp, f3_3, pa, _, _, _, rfl, rfl, SqL.of (sm _ _ q2), at_of (j := 0) rfl hat0, a, tr, le, ro, st, x, rfl, hSt.mono (Keep.of sm), fun H2 sm2 => ?_⟩
        have s2 : Same H H2 := sm.trans sm2
        cases hf : st.findIdx? fun r => r.contains x with
        | none =>
          exfalso
          have hxm : x ∈ Mx.missing st g.parts := by
            unfold Mx.missing
            exact List.mem_filter.mpr ⟨by rw [hx]; exact .head _, by rw [hf]; rfl⟩
          rw [hm] at hxm
          cases hxm
        | some n =>
          rw [hf] at hd
          dsimp only at hd
          obtain ⟨hnl, hnc, _⟩ := List.findIdx?_eq_some_iff_getElem.mp hf
          obtain ⟨row, hrow⟩ : ∃ row, st[n]? = some row := ⟨_, List.getElem?_eq_getElem hnl⟩
          have hgd : st.getD n [] = row := by rw [List.getD_eq_getElem?_getD, hrow]; rfl
          have hxr : x ∈ row := by
            have e : st[n] = row := (List.getElem?_eq_some_iff.mp hrow).2
            rw [e] at hnc
            simpa using hnc
          rw [hgd] at hd
          obtain ⟨ra, hra, hrr⟩ := h3.get hrow
          have hrm : row ∈ st := List.mem_of_getElem? hrow
          obtain ⟨hrnd, hrl⟩ := hrw row hrm
          have hil : row.idxOf x < row.length := List.idxOf_lt_length_of_mem hxr
          refine ⟨_, rfl, a, C, dx, _, _, rfl, s2 _ _ h1, T.st.cl, T.st.nr, f3_3, _, rfl, ro, _, _, _, rfl, rfl, SqL.of (s2 _ _ h2), atI_nat (ref_at hra), ?_⟩
          refine ⟨_, rfl, .inl ⟨rfl, _, SqL.of (s2 _ _ hrr)⟩, _, rfl, ga, Go, dg, _, _, rfl, s2 _ _ q1, T.go, T.gp, f3_3, pa, _, _, _, rfl, rfl, SqL.of (s2 _ _ q2), at_of (j := 0) rfl hat0, ra, _, _, row.idxOf x, _, rfl, rfl, SqL.of (s2 _ _ hrr), rfl, nv_flat _, nv_at (idx_at hxr), (by show (Int.ofNat x == Int.ofNat x) = true; exact beq_self_eq_true _), ?_, ?_⟩
          · intro m' z' hm' hz'
            obtain ⟨y, hy, rfl⟩ := nv_inv hz'
            have := idx_no hm' hy
            show (Int.ofNat y == Int.ofNat x) = false
            rw [beq_eq_false_iff_ne]
            intro q
            exact this (Int.ofNat.inj q)
          refine ⟨_, rfl, _, rfl, ga, Go, dg, _, _, rfl, s2 _ _ q1, T.go, T.gp, f3_3, pa, _, rfl, .inl (SqL.of (s2 _ _ q2)), _, _, rfl, rfl, ?_⟩
          have eb : ((row.idxOf x : Nat) : Int) + (((Nv g.parts).length : Nat) : Int) = Int.ofNat (row.idxOf x + g.parts.length) := by rw [nv_len]; rfl
          refine ⟨_, rfl, _, rfl, _, rfl, _, rfl, _, rfl, ra, _, rfl, SqL.of (s2 _ _ hrr), fun q hq => ?_⟩
          have ec : cutV (Nv row) (some ((row.idxOf x : Nat) : Int)) (some (((row.idxOf x : Nat) : Int) + (((Nv g.parts).length : Nat) : Int))) = Nv ((row.drop (row.idxOf x)).take g.parts.length) := by
            rw [eb]
            have := cut_nv row (row.idxOf x) (row.idxOf x + g.parts.length)
            rw [Nat.add_sub_cancel_left] at this
            exact this
          have s3 : ∀ xs, Same H (upd H2 q (.lst xs)) := fun xs => s2.trans (same_new hq)
          refine ⟨_, rfl, ga, Go, dg, _, _, rfl, s3 _ _ _ q1, T.go, T.gp, f3_3, _, _, .lst (SqL.of (by rw [upd_same, ec])) (dp_all _), .lst (SqL.of (s3 _ _ _ q2)) (dp_all _), PySem.W.ke_shaped_ints _, PySem.W.ke_shaped_ints _, _, rfl, ?_⟩
          rw [eqv_nv]
          by_cases c1 : (row.drop (row.idxOf x)).take g.parts.length = g.parts
          · rw [if_pos c1] at hd
            refine iteN (by rw [decide_eq_true c1]; rfl) ?_
            have s3 := s3 (cutV (Nv row) (some ((row.idxOf x : Nat) : Int)) (some (((row.idxOf x : Nat) : Int) + (((Nv g.parts).length : Nat) : Int))))
            generalize upd H2 q (.lst (cutV (Nv row) (some ((row.idxOf x : Nat) : Int)) (some (((row.idxOf x : Nat) : Int) + (((Nv g.parts).length : Nat) : Int))))) = H3 at s3 ⊢
            have E3 : Each (fun _ r row => H3 r = some (.lst (Nv row))) ras st := h3.mono fun _ _ _ z => s3 _ _ z
            have goOn : ((p.tracks[n]?).any fun t => t.open_ g.right) = ((p.tracks[n]?).any fun t => t.open_ g.right) := rfl
            obtain ⟨t, ht⟩ : ∃ t, p.tracks[n]? = some t := ⟨_, List.getElem?_eq_getElem (by rw [← hsl]; exact hnl)⟩
            have hany : ((p.tracks[n]?).any fun t => t.open_ g.right) = t.open_ g.right := by rw [ht]; rfl
            have hix : ixN (ras.map V.ref).length (Int.ofNat n) = some n := ixN_nat (by rw [List.length_map, h3.len]; exact hnl)
            have e0 : cutV (Nv row) none (some ((row.idxOf x : Nat) : Int)) = Nv (row.take (row.idxOf x)) := cut_nv0 row (row.idxOf x)
            have e1 : cutV (Nv row) (some (((row.idxOf x : Nat) : Int) + (((Nv g.parts).length : Nat) : Int))) none = Nv (row.drop (row.idxOf x + g.parts.length)) := by
              rw [eb]
              exact cut_nv1 row _
            refine ⟨_, rfl, ga, Go, dg, _, _, rfl, s3 _ _ q1, T.go, T.gs, f3_2 (by decide +kernel), rfl, _, rfl, ?_⟩
            cases hgr : g.right with
            | false =>
              rw [hgr] at hd hany
              refine iteY rfl ?_
              refine ⟨_, rfl, _, _, rfl, rfl, _, rfl, ?_⟩
              by_cases c2 : 0 < row.idxOf x
              · rw [if_pos ⟨rfl, c2⟩] at hd
                refine iteY (decide_eq_true (show (0 : Int) < ((row.idxOf x : Nat) : Int) by omega)) ?_
                refine ⟨_, rfl, _, rfl, _, _, rfl, rfl, ra, _, _, _, rfl, rfl, SqL.of (s3 _ _ hrr), at_of (j := row.idxOf x - 1) (show ((row.idxOf x : Nat) : Int) - 1 = ((row.idxOf x - 1 : Nat) : Int) by omega) (nv_at (n := row.getD (row.idxOf x - 1) 0) (by rw [List.getD_eq_getElem?_getD, List.getElem?_eq_getElem (by omega)]; rfl)), z2, fun r hr1 => ?_⟩
                exact close ⟨3, _⟩ _ r s3 hr1 hd
              · rw [if_neg (fun z => c2 z.2)] at hd
                rw [if_neg (fun z => by cases z.1)] at hd
                refine iteN (decide_eq_false (show ¬ (0 : Int) < ((row.idxOf x : Nat) : Int) by omega)) ?_
                refine ⟨_, rfl, ga, Go, dg, _, _, rfl, s3 _ _ q1, T.go, T.gs, f3_2 (by decide +kernel), rfl, _, rfl, ?_⟩
                refine iteN (by rw [hgr]; rfl) ?_
                refine iteF ?_
                refine ⟨_, rfl, a, dx, _, rfl, s3 _ _ h1, f3_n (by decide +kernel), _, rfl, _, rfl, ga, Go, dg, _, _, rfl, s3 _ _ q1, T.go, T.gs, f3_2 (by decide +kernel), a, dx, tr, le, ro, p.tracks, n, t, g.right, rfl, s3 _ _ h1, hT.mono (Keep.of s3), ht, _, rfl, ?_⟩
                rw [hany] at hd
                cases hop : t.open_ g.right with
                | false =>
                  rw [hgr] at hop
                  rw [if_pos hop] at hd
                  refine iteT ?_
                  refine ⟨_, rfl, z2, fun r hr1 => ?_⟩
                  exact close ⟨4, n⟩ _ r s3 hr1 hd
                | true =>
                  rw [hgr] at hop
                  rw [if_neg (by rw [hop]; simp)] at hd
                  refine iteF ?_
                  refine ⟨_, rfl, _, rfl, _, rfl, ra, _, rfl, SqL.of (s3 _ _ hrr), fun c1a hc1a => ?_⟩
                  have s4 : ∀ xs, Same H3 (upd H3 c1a (.lst xs)) := fun xs => same_new hc1a
                  refine ⟨_, rfl, _, rfl, _, rfl, ra, _, rfl, SqL.of (s4 _ _ _ (s3 _ _ hrr)), fun c2a hc2a => ?_⟩
                  have n12 : c1a ≠ c2a := ne_of_none upd_same hc2a
                  refine ⟨c1a, c2a, _, _, rfl, rfl, (by rw [upd_ne n12]; exact upd_same), upd_same, (by rw [e0, e1, nv_len, nv_len, List.length_take, List.length_drop, sizeLine_eq]; omega), fun l hl => ?_⟩
                  have s5 : Same H3 (upd (upd H3 c1a (.lst (cutV (Nv row) none (some ((row.idxOf x : Nat) : Int))))) c2a (.lst (cutV (Nv row) (some (((row.idxOf x : Nat) : Int) + (((Nv g.parts).length : Nat) : Int))) none))) := (s4 _).trans (same_new hc2a)
                  generalize upd (upd H3 c1a (.lst (cutV (Nv row) none (some ((row.idxOf x : Nat) : Int))))) c2a (.lst (cutV (Nv row) (some (((row.idxOf x : Nat) : Int) + (((Nv g.parts).length : Nat) : Int))) none)) = H5 at s5 hl ⊢
                  have s6 : Same H H5 := s3.trans s5
                  have sl : ∀ xs, Same H5 (upd H5 l (.lst xs)) := fun xs => same_new hl
                  refine ⟨_, rfl, a, C, dx, _, _, rfl, sl _ _ _ (s6 _ _ h1), T.st.cl, T.st.nr, f3_3, _, rfl, ro, _, _, n, rfl, rfl, sl _ _ _ (s6 _ _ h2), hix, ?_⟩
                  refine ⟨Nat.zero_le _, fun r hr1 => ?_⟩
                  have ee : cutV (Nv row) none (some ((row.idxOf x : Nat) : Int)) ++ cutV (Nv row) (some (((row.idxOf x : Nat) : Int) + (((Nv g.parts).length : Nat) : Int))) none = Nv (row.take (row.idxOf x) ++ row.drop (row.idxOf x + g.parts.length)) := by rw [e0, e1, nv_app]
                  rw [hd] at kk
                  have hr2 : upd (upd H5 l (.lst (Nv (row.take (row.idxOf x) ++ row.drop (row.idxOf x + g.parts.length))))) ro (.lst ((ras.map V.ref).set n (V.ref l))) r = none := by rw [← ee]; exact hr1
                  have E5 : Each (fun _ r row => H5 r = some (.lst (Nv row))) ras st := h3.mono fun _ _ _ z => s6 _ _ z
                  have SA := StaA.put (n := n) (row := row.take (row.idxOf x) ++ row.drop (row.idxOf x + g.parts.length)) (s6 _ _ h1) (s6 _ _ h2) E5 h4 hl
                  have q9 := kk _ r (fun b o e hb => by
                    have e2 := s6 b o e
                    have e3 : upd (upd H5 l (.lst (Nv (row.take (row.idxOf x) ++ row.drop (row.idxOf x + g.parts.length))))) ro (.lst ((ras.map V.ref).set n (V.ref l))) b = some o := by
                      rw [upd_ne hb, upd_ne (ne_of_none e2 hl)]
                      exact e2
                    exact same_new (o := .lst []) hr2 _ _ e3) (SA.mono (Keep.of (same_new hr2))) upd_same
                  rw [← ee] at q9
                  exact q9
            | true =>
              rw [hgr] at hd hany
              refine iteN rfl ?_
              refine iteF ?_
              rw [if_neg (fun z => by cases z.1)] at hd
              refine ⟨_, rfl, ga, Go, dg, _, _, rfl, s3 _ _ q1, T.go, T.gs, f3_2 (by decide +kernel), rfl, _, rfl, ?_⟩
              refine iteY (by rw [hgr]; rfl) ?_
              refine ⟨_, rfl, _, rfl, ra, _, rfl, .inl (SqL.of (s3 _ _ hrr)), _, _, rfl, rfl, _, rfl, ?_⟩
              by_cases c2 : row.idxOf x + g.parts.length < row.length
              · rw [if_pos ⟨rfl, c2⟩] at hd
                refine iteY (decide_eq_true (show ((row.idxOf x : Nat) : Int) + (((Nv g.parts).length : Nat) : Int) < (((Nv row).length : Nat) : Int) by rw [nv_len, nv_len]; omega)) ?_
                refine ⟨_, rfl, _, rfl, ra, _, _, _, rfl, rfl, SqL.of (s3 _ _ hrr), at_of (j := row.idxOf x + g.parts.length) eb (nv_at (n := row.getD (row.idxOf x + g.parts.length) 0) (by rw [List.getD_eq_getElem?_getD, List.getElem?_eq_getElem c2]; rfl)), z2, fun r hr1 => ?_⟩
                exact close ⟨3, _⟩ _ r s3 hr1 hd
              · rw [if_neg (fun z => c2 z.2)] at hd
                refine iteN (decide_eq_false (show ¬ ((row.idxOf x : Nat) : Int) + (((Nv g.parts).length : Nat) : Int) < (((Nv row).length : Nat) : Int) by rw [nv_len, nv_len]; omega)) ?_
                refine ⟨_, rfl, a, dx, _, rfl, s3 _ _ h1, f3_n (by decide +kernel), _, rfl, _, rfl, ga, Go, dg, _, _, rfl, s3 _ _ q1, T.go, T.gs, f3_2 (by decide +kernel), a, dx, tr, le, ro, p.tracks, n, t, g.right, rfl, s3 _ _ h1, hT.mono (Keep.of s3), ht, _, rfl, ?_⟩
                rw [hany] at hd
                cases hop : t.open_ g.right with
                | false =>
                  rw [hgr] at hop
                  rw [if_pos hop] at hd
                  refine iteT ?_
                  refine ⟨_, rfl, z2, fun r hr1 => ?_⟩
                  exact close ⟨4, n⟩ _ r s3 hr1 hd
                | true =>
                  rw [hgr] at hop
                  rw [if_neg (by rw [hop]; simp)] at hd
                  refine iteF ?_
                  refine ⟨_, rfl, _, rfl, _, rfl, ra, _, rfl, SqL.of (s3 _ _ hrr), fun c1a hc1a => ?_⟩
                  have s4 : ∀ xs, Same H3 (upd H3 c1a (.lst xs)) := fun xs => same_new hc1a
                  refine ⟨_, rfl, _, rfl, _, rfl, ra, _, rfl, SqL.of (s4 _ _ _ (s3 _ _ hrr)), fun c2a hc2a => ?_⟩
                  have n12 : c1a ≠ c2a := ne_of_none upd_same hc2a
                  refine ⟨c1a, c2a, _, _, rfl, rfl, (by rw [upd_ne n12]; exact upd_same), upd_same, (by rw [e0, e1, nv_len, nv_len, List.length_take, List.length_drop, sizeLine_eq]; omega), fun l hl => ?_⟩
                  have s5 : Same H3 (upd (upd H3 c1a (.lst (cutV (Nv row) none (some ((row.idxOf x : Nat) : Int))))) c2a (.lst (cutV (Nv row) (some (((row.idxOf x : Nat) : Int) + (((Nv g.parts).length : Nat) : Int))) none))) := (s4 _).trans (same_new hc2a)
                  generalize upd (upd H3 c1a (.lst (cutV (Nv row) none (some ((row.idxOf x : Nat) : Int))))) c2a (.lst (cutV (Nv row) (some (((row.idxOf x : Nat) : Int) + (((Nv g.parts).length : Nat) : Int))) none)) = H5 at s5 hl ⊢
                  have s6 : Same H H5 := s3.trans s5
                  have sl : ∀ xs, Same H5 (upd H5 l (.lst xs)) := fun xs => same_new hl
                  refine ⟨_, rfl, a, C, dx, _, _, rfl, sl _ _ _ (s6 _ _ h1), T.st.cl, T.st.nr, f3_3, _, rfl, ro, _, _, n, rfl, rfl, sl _ _ _ (s6 _ _ h2), hix, ?_⟩
                  refine ⟨Nat.zero_le _, fun r hr1 => ?_⟩
                  have ee : cutV (Nv row) none (some ((row.idxOf x : Nat) : Int)) ++ cutV (Nv row) (some (((row.idxOf x : Nat) : Int) + (((Nv g.parts).length : Nat) : Int))) none = Nv (row.take (row.idxOf x) ++ row.drop (row.idxOf x + g.parts.length)) := by rw [e0, e1, nv_app]
                  rw [hd] at kk
                  have hr2 : upd (upd H5 l (.lst (Nv (row.take (row.idxOf x) ++ row.drop (row.idxOf x + g.parts.length))))) ro (.lst ((ras.map V.ref).set n (V.ref l))) r = none := by rw [← ee]; exact hr1
                  have E5 : Each (fun _ r row => H5 r = some (.lst (Nv row))) ras st := h3.mono fun _ _ _ z => s6 _ _ z
                  have SA := StaA.put (n := n) (row := row.take (row.idxOf x) ++ row.drop (row.idxOf x + g.parts.length)) (s6 _ _ h1) (s6 _ _ h2) E5 h4 hl
                  have q9 := kk _ r (fun b o e hb => by
                    have e2 := s6 b o e
                    have e3 : upd (upd H5 l (.lst (Nv (row.take (row.idxOf x) ++ row.drop (row.idxOf x + g.parts.length))))) ro (.lst ((ras.map V.ref).set n (V.ref l))) b = some o := by
                      rw [upd_ne hb, upd_ne (ne_of_none e2 hl)]
                      exact e2
                    exact same_new (o := .lst []) hr2 _ _ e3) (SA.mono (Keep.of (same_new hr2))) upd_same
                  rw [← ee] at q9
                  exact q9
          · rw [if_neg c1] at hd
            refine iteY (by rw [decide_eq_false c1]; rfl) ?_
            refine ⟨_, rfl, ga, Go, dg, _, _, rfl, s3 _ _ _ q1, T.go, T.gp, f3_3, pa, _, _, _, rfl, rfl, SqL.of (s3 _ _ _ q2), at_of (j := 0) rfl hat0, z2, fun r hr1 => ?_⟩
            exact close ⟨2, x⟩ _ r (s3 _) hr1 hd
end
end Pf
namespace Pf
open PySem PySem.Spec PyProof.Rows L2
section
variable {P : Program} {w : World} {K : Frag} {mg : Str → Option Value} {base : Heap}
theorem fun_okC {x qual : Str} {st : Stmt} {f c : Addr} {fd : FuncData} {N ps : List Str} {k : Nat} {sp : Sp} (F : Fun K x qual st f fd) (hc : fd.code = .ref c) (S : FnScope N ps (defScope st)) (len : ∀ vs H Q E, sp vs H Q E → vs.length = ps.length)
    (hbody : ∀ (A : Around) (outer : List Env) (s : Shared) (H : Hp) (vs : List V) (Q : VK) (E : XK), Room k (A.deeper (envOfC qual (defScope st) s.heap.objs.size f (.ref c))) → sp vs H Q E →
      ∃ t, PSs (cxOf CX0 P w K mg base N qual (defScope st) f (.ref c) A outer s H E).nox (defBody st) t ∧ t { nx := fun _ H' => Q .non H', rt := Q } (L2.start N vs) H) : FnOk P w K mg base CX0 (k + 1) f fd ps sp := by
  obtain ⟨oc, od, kV, doc, pm, an, cdv, ct, osl, rfl, lk, hcd⟩ := F.ex
  obtain rfl : cdv = .ref c := hc
  refine fn_of lk hcd S len fun A outer s H vs Q E hr hsp => ?_
  obtain ⟨t, h, q⟩ := hbody A outer s H vs Q E hr hsp
  exact ⟨t, h.nox, q⟩
end
def lamPos (s : Stmt) : Pos := match (defBody s).getD 2 (.Pass ⟨0, 0, 0, 0⟩) with
  | .Return (some (.Call _ _ [⟨_, .Lambda _ _ _ p, _⟩] _)) _ => p
  | _ => ⟨0, 0, 0, 0⟩
def lamQual : Str := ("moves_in_order" : Str) ++ ".<locals>." ++ "<lambda>"
abbrev TabM (tab : Addr) (H : Hp) : Prop := TabAt tab (lamPos sMoves) lamQual H
def MvB (C Co Go : Addr) (p : Sx61.Plan) (m : Sx61.Move) (R H : Hp) (a : Addr) : Prop := ∃ dx t, H a = some (.ins C dx (mvF (kindOf m) (numOfM m) t)) ∧ TrA Co Go p m R t
theorem MvB.all {C Co Go : Addr} {p : Sx61.Plan} {m : Sx61.Move} {R H H' : Hp} {a : Addr} (h : MvB C Co Go p m R H a) (k : Keep H H') (s : Keep R H') : MvA C Co Go p m H' a :=
  let ⟨dx, t, h1, h2⟩ := h; ⟨dx, t, k.ins h1, h2.mono s⟩
theorem MvB.keep {C Co Go : Addr} {p : Sx61.Plan} {m : Sx61.Move} {R H H' : Hp} {a : Addr} (h : MvB C Co Go p m R H a) (k : Keep H H') : MvB C Co Go p m R H' a :=
  let ⟨dx, t, h1, h2⟩ := h; ⟨dx, t, k.ins h1, h2⟩
structure TxM (K : Frag) (mg : Str → Option Value) (Co Go Mv : Addr) : Prop where
  co : TxCo K Co
  go : Cls K Go
  gm : NoAttr K Go "minute"
  mv : Cls K Mv
  vk : NoAttr K Mv "kind"
  vn : NoAttr K Mv "number"
  vt : NoAttr K Mv "train"
  mgM : mg "Move" = some (.ref Mv)
  gGOES : ∃ u, mg "GOES" = some (.int 1 u)
  gCOMES : ∃ u, mg "COMES" = some (.int 0 u)
  enum : mg "enumerate" = none
  sorted : mg "sorted" = none
def spMoves (Co Go Mv tab : Addr) : Sp := fun vs H Q _ => ∃ (co go : Addr) (coAs goAs : List Addr) (p : Sx61.Plan) (R : Hp), vs = [.ref co, .ref go] ∧ Keep R H ∧ H co = some (.lst (coAs.map V.ref)) ∧ H go = some (.lst (goAs.map V.ref)) ∧
  Each (fun k a c => ComA Co (p.first k) c R a) coAs p.comings ∧ Each (fun _ a g => GoA Go g R a) goAs p.goings ∧ p.comings.length ≤ 100 ∧ p.goings.length ≤ 100 ∧ TabM tab H ∧
  ∀ (H' : Hp) (D : Addr) (mvAs : List Addr), (∀ b o, H b = some o → b ≠ tab → H' b = some o) → TabM tab H' → H D = none → H' D = some (.lst (mvAs.map V.ref)) → Each (fun _ a m => MvB Mv Co Go p m R H' a) mvAs p.moves → Q (.ref D) H'
section
variable {P : Program} {w : World} {K : Frag} {mg : Str → Option Value} {base : Heap}
theorem scMoves : FnScope ["coming", "going", "leaving", "arriving", "number", "train"] ["coming", "going"] (defScope sMoves) := ⟨rfl, rfl, rfl, by decide +kernel, rfl, by decide +kernel, by decide +kernel⟩
theorem ok_moves {f Co Go Mv fI tab c : Addr} {fd fdI : FuncData} (F : Fun K "moves_in_order" "moves_in_order" sMoves f fd) (hc : fd.code = .ref c) (T : TxM K mg Co Go Mv)
    (M : Mk K Mv fI) (FI : Fun K "__init__" "Move.__init__" sMvI fI fdI) (bI : Binds K fdI ["self", "kind", "number", "train"] [])
    (hC : PySem.W.CodeHd base c tab) (hB : base.BuiltinsAt mg tab) (hgt : mainGlobals ≠ tab) : FnOk P w K mg base CX0 3 f fd ["coming", "going"] (spMoves Co Go Mv tab) := by
  have GI : FnOk P w K mg base CX0 1 fI fdI ["self", "kind", "number", "train"] (spI3 Mv "kind" "number" "train") := ok_mvI FI T.mv T.vk T.vn T.vt
  obtain ⟨u1, g1⟩ := T.gGOES
  obtain ⟨u0, g0⟩ := T.gCOMES
  refine fun_okC F hc scMoves (fun vs H Q E h => ?_) (fun A outer s H vs Q E hr h => ?_)
  · obtain ⟨co, go, coAs, goAs, p, R, rfl, _⟩ := h
    rfl
  · obtain ⟨co, go, coAs, goAs, p, R, rfl, kR, h1, h2, h3, h4, l1, l2, tb, k⟩ := h
    refine ⟨_, pss_cons (ps_setLc (i := 2) (own := [("number", 4), ("train", 5)]) (g := gTup K 2 (gCons (gName 4) (gCons (gName 5) gNil))) (te := tMake Mv (spI3 Mv "kind" "number" "train") [] E0 (tCons (tC (.int 1)) (tCons (tVar 4) (tCons (tVar 5) tNil)))) rfl scMoves.nd rfl rfl (sw_true rfl rfl rfl rfl) (pi_enum rfl T.enum (pa_cons (pv 1) pa_nil)) (blkOk_by (by rfl))
        (fun _ _ _ _ _ => by exact pg_tup rfl (pgs_cons (pg_name (i := 4) scMoves.nd rfl (Or.inl rfl) (.inr rfl)) (pgs_cons (pg_name (i := 5) scMoves.nd rfl (Or.inl rfl) (.inr rfl)) pgs_nil))) (fun _ _ _ _ _ => by exact pts_nil)
        (fun _ _ _ _ _ => by exact pe_make M GI hr rfl T.mgM bI .nil pass0 (pa_cons (pe_glob (v := .int 1) rfl g1 ⟨_, rfl⟩) (pa_cons (pv 4) (pa_cons (pv 5) pa_nil)))))
      (pss_cons (ps_setLc (i := 3) (own := [("number", 4), ("train", 5)]) (g := gTup K 2 (gCons (gName 4) (gCons (gName 5) gNil))) (te := tMake Mv (spI3 Mv "kind" "number" "train") [] E0 (tCons (tC (.int 0)) (tCons (tVar 4) (tCons (tVar 5) tNil)))) rfl scMoves.nd rfl rfl (sw_true rfl rfl rfl rfl) (pi_enum rfl T.enum (pa_cons (pv 0) pa_nil)) (blkOk_by (by rfl))
        (fun _ _ _ _ _ => by exact pg_tup rfl (pgs_cons (pg_name (i := 4) scMoves.nd rfl (Or.inl rfl) (.inr rfl)) (pgs_cons (pg_name (i := 5) scMoves.nd rfl (Or.inl rfl) (.inr rfl)) pgs_nil))) (fun _ _ _ _ _ => by exact pts_nil)
        (fun _ _ _ _ _ => by exact pe_make M GI hr rfl T.mgM bI .nil pass0 (pa_cons (pe_glob (v := .int 0) rfl g0 ⟨_, rfl⟩) (pa_cons (pv 4) (pa_cons (pv 5) pa_nil)))))
      (pss_one (ps_ret (pe_sortKey (C := Mv) (tab := tab) (c := c) hr rfl T.sorted (pe_op op_cat (pv 2) (pv 3)) rfl hC hB hgt rfl rfl (fun _ _ _ _ => rfl) rfl rfl rfl (by decide +kernel) rfl (by decide) (fun _ => rfl) (fun _ => rfl))))), ?_⟩
    refine ⟨_, rfl, go, _, rfl, SqL.of h2, fun D1 hD1 => ?_⟩
    refine lc_enum (K := K) (a := go) (xs := goAs.map V.ref) (fun i H' => Same H H' ∧ ∃ as1 : List Addr, as1.length = i ∧ H' D1 = some (.lst (as1.map V.ref)) ∧ ∀ (j : Nat) (a : Addr), as1[j]? = some a → MvB Mv Co Go p (.go j) R H' a) ⟨same_new hD1, [], rfl, upd_same, fun j a h => (by simp at h)⟩ (fun i H' _ e => SqL.of (e.1 _ _ h2)) ?_ ?_
    · rintro i v H' Tp hv ⟨sm, as1, hl1, hd1, he1⟩ hT
      obtain ⟨ga, hga, rfl⟩ := ref_inv hv
      obtain ⟨g, hg, hgA⟩ := h4.of hga
      have sT : Same H' (upd H' Tp (.tup [.int (i : Nat), .ref ga])) := same_new hT
      refine ⟨Tp, _, rfl, SqT.of upd_same, rfl, _, _, rfl, _, _, rfl, rfl, rfl, yes_then ?_⟩
      refine ⟨_, rfl, _, rfl, fun x dx nx ndx nex => ?_⟩
      refine ⟨x, dx, _, _, _, rfl, upd_same, fun H2 e1 e2 => ⟨rfl, ?_⟩⟩
      have s2 : Same H' H2 := sT.trans (Same.made nx ndx e2)
      have hi : i < goAs.length := (List.getElem?_eq_some_iff.mp hga).1
      refine ⟨_, s2 _ _ hd1, ?_, ?_, as1 ++ [x], (by rw [List.length_append, hl1]; rfl), ?_, fun j b hj => ?_⟩
      · rw [List.length_map, hl1, sizeLine_eq]
        have := h4.len
        omega
      · intro b o e
        rw [upd_ne (ne_of_none e hD1)]
        exact s2 _ _ (sm _ _ e)
      · rw [upd_same, List.map_append]
        rfl
      · rcases Nat.lt_or_ge j as1.length with z | z
        · rw [List.getElem?_append_left z] at hj
          obtain ⟨dx', t', e', tA⟩ := he1 j b hj
          refine ⟨dx', t', ?_, tA⟩
          rw [upd_ne (ne_of e' hd1 (by intro y; cases y))]
          exact s2 _ _ e'
        · rw [List.getElem?_append_right z] at hj
          have ej : j - as1.length = 0 := by
            rcases Nat.eq_zero_or_pos (j - as1.length) with y | y
            · exact y
            · rw [List.getElem?_eq_none (by show 1 ≤ _; omega)] at hj; cases hj
          rw [ej] at hj
          cases hj
          have ej : j = i := by omega
          subst ej
          refine ⟨dx, ga, ?_, g, hg, hgA⟩
          rw [upd_ne (ne_of e1 (s2 _ _ hd1) (by intro y; cases y))]
          exact e1
    rintro H1 ⟨sm1, as1, hl1, hd1, he1⟩
    rw [List.length_map, h4.len] at hl1
    refine ⟨_, rfl, co, _, rfl, SqL.of (sm1 _ _ h1), fun D2 hD2 => ?_⟩
    refine lc_enum (K := K) (a := co) (xs := coAs.map V.ref) (fun i H' => Same H1 H' ∧ ∃ as2 : List Addr, as2.length = i ∧ H' D2 = some (.lst (as2.map V.ref)) ∧ ∀ (j : Nat) (a : Addr), as2[j]? = some a → MvB Mv Co Go p (.come j) R H' a) ⟨same_new hD2, [], rfl, upd_same, fun j a h => (by simp at h)⟩ (fun i H' _ e => SqL.of (e.1 _ _ (sm1 _ _ h1))) ?_ ?_
    · rintro i v H' Tp hv ⟨sm, as2, hl2, hd2, he2⟩ hT
      obtain ⟨ga, hga, rfl⟩ := ref_inv hv
      obtain ⟨g, hg, hgA⟩ := h3.of hga
      have sT : Same H' (upd H' Tp (.tup [.int (i : Nat), .ref ga])) := same_new hT
      refine ⟨Tp, _, rfl, SqT.of upd_same, rfl, _, _, rfl, _, _, rfl, rfl, rfl, yes_then ?_⟩
      refine ⟨_, rfl, _, rfl, fun x dx nx ndx nex => ?_⟩
      refine ⟨x, dx, _, _, _, rfl, upd_same, fun H2 e1 e2 => ⟨rfl, ?_⟩⟩
      have s2 : Same H' H2 := sT.trans (Same.made nx ndx e2)
      have hi : i < coAs.length := (List.getElem?_eq_some_iff.mp hga).1
      refine ⟨_, s2 _ _ hd2, ?_, ?_, as2 ++ [x], (by rw [List.length_append, hl2]; rfl), ?_, fun j b hj => ?_⟩
      · rw [List.length_map, hl2, sizeLine_eq]
        have := h3.len
        omega
      · intro b o e
        rw [upd_ne (ne_of_none e hD2)]
        exact s2 _ _ (sm _ _ e)
      · rw [upd_same, List.map_append]
        rfl
      · rcases Nat.lt_or_ge j as2.length with z | z
        · rw [List.getElem?_append_left z] at hj
          obtain ⟨dx', t', e', tA⟩ := he2 j b hj
          refine ⟨dx', t', ?_, tA⟩
          rw [upd_ne (ne_of e' hd2 (by intro y; cases y))]
          exact s2 _ _ e'
        · rw [List.getElem?_append_right z] at hj
          have ej : j - as2.length = 0 := by
            rcases Nat.eq_zero_or_pos (j - as2.length) with y | y
            · exact y
            · rw [List.getElem?_eq_none (by show 1 ≤ _; omega)] at hj; cases hj
          rw [ej] at hj
          cases hj
          have ej : j = i := by omega
          subst ej
          refine ⟨dx, ga, ?_, g, hg, hgA⟩
          rw [upd_ne (ne_of e1 (s2 _ _ hd2) (by intro y; cases y))]
          exact e1
    rintro H2 ⟨sm2, as2, hl2, hd2, he2⟩
    rw [List.length_map, h3.len] at hl2
    have s2 : Same H H2 := sm1.trans sm2
    refine ⟨_, rfl, _, rfl, D1, D2, _, _, rfl, rfl, sm2 _ _ hd1, hd2, (by rw [List.length_map, List.length_map, hl1, hl2, sizeLine_eq]; omega), fun l hl => ?_⟩
    have sl : Same H2 (upd H2 l (.lst (as1.map V.ref ++ as2.map V.ref))) := same_new hl
    have s3 : Same H (upd H2 l (.lst (as1.map V.ref ++ as2.map V.ref))) := s2.trans sl
    have hlr : (as1 ++ as2).length = (Mx.raw p).length := by
      unfold Mx.raw
      rw [List.length_append, List.length_append, List.length_map, List.length_map, List.length_range, List.length_range, hl1, hl2]
    have hmv : ∀ (i : Nat) (b : Addr) (m : Sx61.Move), (as1 ++ as2)[i]? = some b → (Mx.raw p)[i]? = some m → MvB Mv Co Go p m R (upd H2 l (.lst (as1.map V.ref ++ as2.map V.ref))) b := by
      intro i b m hb hm
      unfold Mx.raw at hm
      rcases Nat.lt_or_ge i as1.length with z | z
      · rw [List.getElem?_append_left z] at hb
        rw [List.getElem?_append_left (by rw [List.length_map, List.length_range]; omega), List.getElem?_map, List.getElem?_range (by omega)] at hm
        cases hm
        exact (he1 i b hb).keep (Keep.of (sm2.trans sl))
      · rw [List.getElem?_append_right z] at hb
        have z2 : i - as1.length < as2.length := (List.getElem?_eq_some_iff.mp hb).1
        rw [List.getElem?_append_right (by rw [List.length_map, List.length_range]; omega), List.length_map, List.length_range, List.getElem?_map, List.getElem?_range (by omega)] at hm
        cases hm
        rw [← hl1]
        exact (he2 _ b hb).keep (Keep.of sl)
    refine ⟨l, as1 ++ as2, (Mx.raw p).map (Mx.mi p), rfl, SqL.of (by rw [upd_same, List.map_append]), (by rw [List.length_map, hlr]), ?_, T.mv, T.vt, ?_, ?_⟩
    · intro i b kk hb hk
      rw [List.getElem?_map] at hk
      cases e : (Mx.raw p)[i]? with
      | none => rw [e] at hk; cases hk
      | some m =>
        rw [e] at hk
        cases hk
        obtain ⟨dx, t, e2, tA⟩ := (hmv i b m hb e).all (Keep.refl _) (kR.trans (Keep.of s3))
        cases m with
        | come j =>
          obtain ⟨c, hc, dc, pa, ca, q1, q2, q3⟩ := tA
          have em : p.minuteOf (.come j) = c.minute := by
            show ((p.comings[j]?).map fun g => g.minute).getD 0 = _
            rw [hc]
            rfl
          refine ⟨dx, _, t, Co, dc, _, e2, f3_3, q1, ?_, T.co.cl, T.co.nm⟩
          show _ = some (V.int ((p.minuteOf (.come j) : Nat) : Int))
          rw [em]
          exact f4_1 (by decide +kernel) (by decide +kernel) (by decide +kernel)
        | go j =>
          obtain ⟨g, hg, dg, pa, q1, q2⟩ := tA
          have em : p.minuteOf (.go j) = g.minute := by
            show ((p.goings[j]?).map fun g => g.minute).getD 0 = _
            rw [hg]
            rfl
          refine ⟨dx, _, t, Go, dg, _, e2, f3_3, q1, ?_, T.go, T.gm⟩
          show _ = some (V.int ((p.minuteOf (.go j) : Nat) : Int))
          rw [em]
          exact f3_1 (by decide +kernel) (by decide +kernel)
    · rcases tb with tb | ⟨c', t1, t2⟩
      · exact .inl (s3 _ _ tb)
      · exact .inr ⟨c', s3 _ _ t1, s3 _ _ t2⟩
    · intro H4 ps D p1 p2 p3 hD kp tb4 hD4
      have kp2 : Keep (upd H2 l (.lst (as1.map V.ref ++ as2.map V.ref))) H4 := fun b o e hn => kp b o e fun z => by
        subst z
        have tb3 : TabM b (upd H2 l (.lst (as1.map V.ref ++ as2.map V.ref))) := by
          rcases tb with tb | ⟨c', t1, t2⟩
          · exact .inl (s3 _ _ tb)
          · exact .inr ⟨c', s3 _ _ t1, s3 _ _ t2⟩
        rcases tb3 with q | ⟨_, q, _⟩
        · rw [e] at q
          cases q
          exact hn _ rfl
        · rw [e] at q
          cases q
          exact hn _ rfl
      obtain ⟨qs, e1, e2, e3⟩ := Mx.moves_with (p := p) hlr p2 p3
      refine k H4 D (ps.map Prod.snd) (fun b o e hb => kp b o (s3 b o e) hb) tb4 (s3.free hD) (by rw [hD4, List.map_map]; rfl) ?_
      rw [← e1, ← e2]
      refine ⟨by rw [List.length_map, List.length_map], fun i a m ha hm => ?_⟩
      rw [List.getElem?_map] at ha hm
      cases eq : qs[i]? with
      | none => rw [eq] at ha; cases ha
      | some q =>
        rw [eq] at ha hm
        cases ha
        cases hm
        obtain ⟨j, hj, ej⟩ := List.getElem_of_mem (e3 q (List.mem_of_getElem? eq))
        rw [List.length_zip] at hj
        rw [List.getElem_zip] at ej
        have := hmv j q.2 q.1 (by rw [← ej]; exact List.getElem?_eq_getElem (by omega)) (by rw [← ej]; exact List.getElem?_eq_getElem (by omega))
        exact this.keep kp2
end
end Pf
namespace Pf
open PySem PySem.Spec PyProof.Rows L2
theorem cut_take' {A : Type} (l : List A) (a b : Nat) : (l.drop (min a l.length)).take (min b l.length - min a l.length) = (l.drop a).take (b - a) := by
  by_cases h : a < l.length
  · rw [Nat.min_eq_left (Nat.le_of_lt h)]
    by_cases h2 : b ≤ l.length
    · rw [Nat.min_eq_left h2]
    · rw [Nat.min_eq_right (by omega), List.take_of_length_le (by rw [List.length_drop]; omega), List.take_of_length_le (by rw [List.length_drop]; omega)]
  · have e1 : min a l.length = l.length := Nat.min_eq_right (by omega)
    have e2 : l.drop a = [] := List.drop_eq_nil_of_le (by omega)
    rw [e1, e2, List.drop_length, List.take_nil, List.take_nil]
theorem cut_v (l : List V) (a b : Nat) {z y : Int} (hz : z = Int.ofNat a) (hy : y = Int.ofNat b) : cutV l (some z) (some y) = (l.drop a).take (b - a) := by
  subst hz hy
  unfold cutV
  have e1 : HT.sIx l.length 0 (some (Int.ofNat a)) = min a l.length := HT.sIx_nat _ _ _
  have e2 : HT.sIx l.length l.length (some (Int.ofNat b)) = min b l.length := HT.sIx_nat _ _ _
  rw [e1, e2, cut_take']
theorem iv_cut (l : List Int) (a n : Nat) : ((Iv l).drop a).take n = Iv ((l.drop a).take n) := by
  unfold Iv
  rw [List.map_take, List.map_drop]
def CallA (C : Addr) (c : List (List Int)) (b : Nat) (H : Hp) (x : Addr) : Prop := ∃ (p : Int) (nums : List Int) (xs : List (List Int)) (dx na ra : Addr) (ras : List Addr), c = (p :: nums) :: xs ∧
  H x = some (.ins C dx (f4 "number" (.int p) "numbers" (.ref na) "rows" (.ref ra) "behind" (.int (Int.ofNat b)))) ∧ H na = some (.lst (Iv nums)) ∧ H ra = some (.lst (ras.map V.ref)) ∧ Each (fun _ r row => H r = some (.lst (Iv row))) ras xs
theorem CallA.mono {C : Addr} {c : List (List Int)} {b : Nat} {H H' : Hp} {x : Addr} (k : Keep H H') (h : CallA C c b H x) : CallA C c b H' x :=
  let ⟨p, nums, xs, dx, na, ra, ras, h0, h1, h2, h3, h4⟩ := h; ⟨p, nums, xs, dx, na, ra, ras, h0, k.ins h1, k.lst h2, k.lst h3, h4.mono fun _ _ _ q => k.lst q⟩
def NewP (H H' : Hp) : Hp := fun b => if H b = none then H' b else none
theorem newP_get {H H' : Hp} {b : Addr} {o : HO} (h : H b = none) (e : H' b = some o) : NewP H H' b = some o := by
  unfold NewP
  rw [if_pos h]
  exact e
theorem newP_same (H H' : Hp) : Same (NewP H H') H' := fun b o e => by
  unfold NewP at e
  split at e
  · exact e
  · cases e
theorem newP_free {H H' : Hp} {b : Addr} {o : HO} (e : NewP H H' b = some o) : H b = none := by
  unfold NewP at e
  split at e
  · assumption
  · cases e
structure TxR (K : Frag) (mg : Str → Option Value) (Ca shp : Addr) (sx : List V) : Prop where
  cl : Cls K Ca
  n1 : NoAttr K Ca "number"
  n2 : NoAttr K Ca "numbers"
  n3 : NoAttr K Ca "rows"
  n4 : NoAttr K Ca "behind"
  mgC : mg "Call" = some (.ref Ca)
  gS : mg "SHAPES" = some (.ref shp)
  sq : ∀ H, SqT K H shp sx
  at_ : ∀ (p : Int) (n k : Nat), PySx61.shape p = some (n, k) → ∃ a, atI sx p = some (.ref a) ∧ ∀ H, SqT K H a [.int (Int.ofNat n), .int (Int.ofNat k)]
  range : mg "range" = none
  len : mg "len" = none
def spRead (K : Frag) (Ca : Addr) : Sp := fun vs H Q _ => ∃ (ca : Addr) (ns : List Int) (a b : Nat) (c : List (List Int)), vs = [.ref ca, .int (Int.ofNat a)] ∧ SqL K H ca (Iv ns) ∧ ns.length ≤ 100000 ∧ PyFlat.call PySx61.shape (ns.drop a) = some (c, ns.drop b) ∧ b ≤ ns.length ∧
  ∀ (H' : Hp) (x : Addr), Same H H' → CallA Ca c b (NewP H H') x → Q (.ref x) H'
section
variable {P : Program} {w : World} {K : Frag} {mg : Str → Option Value} {base : Heap}
theorem shape_small {p : Int} {n k : Nat} (h : PySx61.shape p = some (n, k)) : k ≤ 2 := by
  unfold PySx61.shape at h
  repeat' split at h
  all_goals first
    | (cases h; decide)
    | cases h
theorem scRead : FnScope ["calls", "start", "shape", "at", "numbers", "rows", "turn", "first"] ["calls", "start"] (defScope sRead) := ⟨rfl, rfl, rfl, by decide +kernel, rfl, by decide +kernel, by decide +kernel⟩
theorem ok_read {f Ca shp fI : Addr} {sx : List V} {fd fdI : FuncData} (F : Fun K "read_call" "read_call" sRead f fd) (T : TxR K mg Ca shp sx)
    (M : Mk K Ca fI) (FI : Fun K "__init__" "Call.__init__" sCaI fI fdI) (bI : Binds K fdI ["self", "number", "numbers", "rows", "behind"] []) : FnOk P w K mg base CX0 3 f fd ["calls", "start"] (spRead K Ca) := by
  have GI : FnOk P w K mg base CX0 1 fI fdI ["self", "number", "numbers", "rows", "behind"] (spI4 Ca "number" "numbers" "rows" "behind") := ok_caI FI T.cl T.n1 T.n2 T.n3 T.n4
  refine F.ok scRead (fun vs H Q E h => ?_) (fun cdv A outer s H vs Q E hr h => ?_)
  · obtain ⟨ca, ns, a, b, c, rfl, _⟩ := h
    rfl
  · obtain ⟨ca, ns, a, b, c, rfl, hS, hl, hc, hb, kk⟩ := h
    refine ⟨_, pss_cons (ps_set (i := 2) scRead.nd rfl (Or.inl rfl) (pe_ix ix_tup (pe_glob (v := .ref shp) rfl T.gS rfl) (pe_ix ix_list (pv 0) (pv 1) (fun _ _ => rfl)) (fun _ _ => rfl)))
      (pss_cons (ps_set (i := 3) scRead.nd rfl (Or.inl rfl) (pe_op op_add (pe_op op_add (pv 1) pe_int) (pe_ix ix_tup (pv 2) pe_int (fun _ _ => rfl))))
      (pss_cons (ps_set (i := 4) scRead.nd rfl (Or.inl rfl) (pe_slice sl_list (pv 0) (po_some (pe_op op_add (pv 1) pe_int)) (po_some (pv 3))))
      (pss_cons (ps_set (i := 5) scRead.nd rfl (Or.inl rfl) (pe_lst pa_nil))
      (pss_cons (ps_for PassesOwn.never rfl (pi_range1 rfl T.range (pa_cons (pe_ix ix_tup (pv 2) pe_int (fun _ _ => rfl)) pa_nil)) (pg_name (i := 6) scRead.nd rfl (Or.inl rfl))
        (pss_cons (ps_set (i := 7) scRead.nd rfl (Or.inl rfl) (pe_op op_add (pv 3) pe_int))
        (pss_cons (ps_set (i := 3) scRead.nd rfl (Or.inl rfl) (pe_op op_add (pv 7) (pe_ix ix_list (pv 0) (pv 3) (fun _ _ => rfl))))
        (pss_one (ps_expr (pe_bm PySem.F.plainAttrs_list PySem.F.slot_list_append PySem.F.type_list_append mt_append (pv 5) (pa_cons (pe_slice sl_list (pv 0) (po_some (pv 7)) (po_some (pv 3))) pa_nil)))))))
      (pss_one (ps_ret (pe_make M GI hr rfl T.mgC bI .nil pass0 (pa_cons (pe_ix ix_list (pv 0) (pv 1) (fun _ _ => rfl)) (pa_cons (pv 4) (pa_cons (pv 5) (pa_cons (pv 3) pa_nil))))))))))), ?_⟩
    obtain ⟨p, n, k, xs, c1, c2, c3, c4, c5⟩ := Mx.call_at hc
    obtain ⟨sa, e1, e2⟩ := T.at_ p n k c2
    have hal : a < ns.length := (List.getElem?_eq_some_iff.mp c1).1
    refine ⟨_, rfl, _, rfl, ca, _, _, _, rfl, rfl, hS, atI_nat (iv_at c1), shp, _, _, _, rfl, rfl, T.sq _, e1, ?_⟩
    refine ⟨_, rfl, _, _, rfl, rfl, _, rfl, sa, _, _, _, rfl, rfl, e2 _, at_of (j := 0) rfl rfl, _, _, rfl, rfl, ?_⟩
    have ea : Int.ofNat a + 1 + Int.ofNat n = Int.ofNat (a + 1 + n) := by
      show (a : Int) + 1 + (n : Int) = ((a + 1 + n : Nat) : Int)
      omega
    have ea1 : Int.ofNat a + 1 = Int.ofNat (a + 1) := rfl
    refine ⟨_, rfl, _, rfl, _, _, rfl, rfl, _, rfl, _, rfl, _, rfl, ca, _, rfl, hS, fun na hna => ?_⟩
    have ecut : cutV (Iv ns) (some (Int.ofNat a + 1)) (some (Int.ofNat a + 1 + Int.ofNat n)) = Iv ((ns.drop (a + 1)).take n) := by
      rw [cut_v (Iv ns) (a + 1) (a + 1 + n) ea1 ea, Nat.add_sub_cancel_left, iv_cut]
    have s1 : Same H (upd H na (.lst (cutV (Iv ns) (some (Int.ofNat a + 1)) (some (Int.ofNat a + 1 + Int.ofNat n))))) := same_new hna
    have hna1 : upd H na (.lst (cutV (Iv ns) (some (Int.ofNat a + 1)) (some (Int.ofNat a + 1 + Int.ofNat n)))) na = some (.lst (Iv ((ns.drop (a + 1)).take n))) := by rw [upd_same, ecut]
    generalize upd H na (.lst (cutV (Iv ns) (some (Int.ofNat a + 1)) (some (Int.ofNat a + 1 + Int.ofNat n)))) = H1 at s1 hna1 ⊢
    refine ⟨Nat.zero_le _, fun ra hra => ?_⟩
    have s2 : Same H1 (upd H1 ra (.lst [])) := same_new hra
    have hk2 : k ≤ 2 := shape_small c2
    refine ⟨_, rfl, sa, _, _, _, rfl, rfl, e2 _, at_of (j := 1) rfl rfl, _, rfl, (by show -(2 ^ 62 : Int) ≤ (k : Int); omega), (by show (k : Int) < 2 ^ 62; omega), ?_⟩
    refine for_range (lo := 0) (n := k) (fun j σ H' => ∃ (at_ : Nat) (z : Int) (done rest : List (List Int)) (v6 v7 : Option V) (ras : List Addr), z = Int.ofNat at_ ∧ σ = [some (.ref ca), some (.int (Int.ofNat a)), some (.ref sa), some (.int z), some (.ref na), some (.ref ra), v6, v7] ∧ Same H1 H' ∧ xs = done ++ rest ∧ done.length = j ∧ at_ ≤ ns.length ∧
      PyFlat.rows (k - j) (ns.drop at_) = some (rest, ns.drop b) ∧ H' ra = some (.lst (ras.map V.ref)) ∧ Each (fun _ r row => H' r = some (.lst (Iv row)) ∧ H r = none) ras done ∧ ra ∉ ras)
      ⟨a + 1 + n, _, [], xs, none, none, [], ea, rfl, s2, rfl, rfl, c3, c5, upd_same, Each.nil, (by simp)⟩ ?_ ?_
    · rintro j σ H' hj ⟨at_, z, done, rest, v6, v7, ras, hz, rfl, sm, hx, hdl, hal2, hrw, hral, hE, hnr⟩
      have ekj : k - j = (k - (j + 1)) + 1 := by omega
      rw [ekj] at hrw
      obtain ⟨m, x, ys, rfl, m1, m2, m3, m4⟩ := Mx.rows_at hrw
      have hSq : SqL K H' ca (Iv ns) := sm.seq (s1.seq hS)
      refine ⟨_, rfl, _, _, rfl, rfl, ?_⟩
      refine ⟨_, rfl, _, rfl, _, rfl, ca, _, _, _, rfl, rfl, hSq, at_of (j := at_) hz (iv_at m1), _, _, rfl, rfl, ?_⟩
      have ez1 : z + 1 = Int.ofNat (at_ + 1) := by rw [hz]; rfl
      have ez2 : z + 1 + (m : Int) = Int.ofNat (at_ + 1 + m) := by
        rw [hz]
        show (at_ : Int) + 1 + (m : Int) = ((at_ + 1 + m : Nat) : Int)
        omega
      refine ⟨_, rfl, .inl ⟨rfl, _, SqL.of hral⟩, _, rfl, _, rfl, _, rfl, _, rfl, _, rfl, ca, _, rfl, hSq, fun r hr1 => ?_⟩
      have er : cutV (Iv ns) (some (z + 1)) (some (z + 1 + (m : Int))) = Iv x := by
        rw [cut_v (Iv ns) (at_ + 1) (at_ + 1 + m) ez1 ez2, Nat.add_sub_cancel_left, iv_cut, m3]
      have hrar : ra ≠ r := ne_of_none hral hr1
      refine ⟨ra, _, _, rfl, rfl, (by rw [upd_ne hrar]; exact hral), ?_, ?_⟩
      · rw [List.length_map, hE.len, hdl, sizeLine_eq]
        omega
      refine ⟨at_ + 1 + m, _, done ++ [x], ys, _, _, ras ++ [r], ez2, rfl, ?_, (by rw [hx, List.append_assoc]; rfl), (by rw [List.length_append, hdl]; rfl), m2, m4, (by rw [upd_same, List.map_append]; rfl), ?_, ?_⟩
      · intro y o e
        have e3 := sm y o e
        rw [upd_ne (ne_of_none e hra), upd_ne (ne_of_none e3 hr1)]
        exact e3
      · refine Each.snoc (hE.monoM fun i y row hy _ q => ⟨by
          rw [upd_ne (fun e => hnr (by rw [← e]; exact List.mem_of_getElem? hy)), upd_ne (ne_of_none q.1 hr1)]
          exact q.1, q.2⟩) ⟨by rw [upd_ne hrar.symm, upd_same, er], (s1.trans sm).free hr1⟩
      · simp only [List.mem_append, List.mem_singleton, not_or]
        exact ⟨hnr, hrar⟩
    · rintro σ H' ⟨at_, z, done, rest, v6, v7, ras, hz, rfl, sm, hx, hdl, hal2, hrw, hral, hE, hnr⟩
      rw [Nat.sub_self] at hrw
      have hr0 : some (([] : List (List Int)), ns.drop at_) = some (rest, ns.drop b) := hrw
      obtain ⟨er1, er2⟩ := Prod.mk.inj (Option.some.inj hr0)
      subst er1
      have eab : at_ = b := by
        have := congrArg List.length er2
        rw [List.length_drop, List.length_drop] at this
        omega
      subst eab
      rw [List.append_nil] at hx
      subst hx
      have hSq : SqL K H' ca (Iv ns) := sm.seq (s1.seq hS)
      refine ⟨_, rfl, _, rfl, ca, _, _, _, rfl, rfl, hSq, atI_nat (iv_at c1), _, rfl, _, rfl, _, rfl, fun x dx nx ndx nex => ?_⟩
      refine ⟨x, dx, _, _, _, _, rfl, upd_same, fun H2 f1 f2 => ⟨rfl, ?_⟩⟩
      have s3 : Same H' H2 := Same.made nx ndx f2
      subst hz
      have s13 := s1.trans sm
      exact kk H2 x (s13.trans s3) ⟨p, _, xs, dx, na, ra, ras, c4, newP_get (s13.free nx) f1, newP_get hna (s3 _ _ (sm _ _ hna1)), newP_get (s1.free hra) (s3 _ _ hral), hE.mono fun _ _ _ q => newP_get q.2 (s3 _ _ q.1)⟩
def spReads (K : Frag) (Ca : Addr) : Sp := fun vs H Q _ => ∃ (ca : Addr) (ns : List Int) (cs : List (List (List Int))), vs = [.ref ca] ∧ SqL K H ca (Iv ns) ∧ ns.length ≤ 100000 ∧ PyFlat.calls PySx61.shape ns.length ns = some cs ∧ cs.length ≤ 100 ∧
  ∀ (H' : Hp) (D : Addr) (as : List Addr), Same H H' → NewP H H' D = some (.lst (as.map V.ref)) → Each (fun _ x c => ∃ b, CallA Ca c b (NewP H H') x) as cs → Q (.ref D) H'
theorem scReads : FnScope ["calls", "told", "at", "call"] ["calls"] (defScope sReads) := ⟨rfl, rfl, rfl, by decide +kernel, rfl, by decide +kernel, by decide +kernel⟩
theorem ok_reads {f Ca shp fI fR : Addr} {sx : List V} {fd fdI fdR : FuncData} (F : Fun K "read_calls" "read_calls" sReads f fd) (T : TxR K mg Ca shp sx)
    (M : Mk K Ca fI) (FI : Fun K "__init__" "Call.__init__" sCaI fI fdI) (bI : Binds K fdI ["self", "number", "numbers", "rows", "behind"] [])
    (FR : Fun K "read_call" "read_call" sRead fR fdR) (bR : Binds K fdR ["calls", "start"] []) (mR : mg "read_call" = some (.ref fR)) : FnOk P w K mg base CX0 4 f fd ["calls"] (spReads K Ca) := by
  have GR : FnOk P w K mg base CX0 3 fR fdR ["calls", "start"] (spRead K Ca) := ok_read FR T M FI bI
  refine F.ok scReads (fun vs H Q E h => ?_) (fun cdv A outer s H vs Q E hr h => ?_)
  · obtain ⟨ca, ns, cs, rfl, _⟩ := h
    rfl
  · obtain ⟨ca, ns, cs, rfl, hS, hl, hc, hcl, kk⟩ := h
    refine ⟨_, pss_cons (ps_set (i := 1) scReads.nd rfl (Or.inl rfl) (pe_lst pa_nil))
      (pss_cons (ps_set (i := 2) scReads.nd rfl (Or.inl rfl) pe_int)
      (pss_cons (ps_while PassesOwn.never (pt_cmpR op_lt (pv 2) (pe_callB call_len_seq (by rfl) T.len PySem.boot_len (pa_cons (pv 0) pa_nil)) (nomark _))
        (pss_cons (ps_set (i := 3) scReads.nd rfl (Or.inl rfl) (pe_call GR hr rfl mR FR.kp bR .nil pass0 (pa_cons (pv 0) (pa_cons (pv 2) pa_nil))))
        (pss_cons (ps_expr (pe_bm PySem.F.plainAttrs_list PySem.F.slot_list_append PySem.F.type_list_append mt_append (pv 1) (pa_cons (pv 3) pa_nil)))
        (pss_one (ps_set (i := 2) scReads.nd rfl (Or.inl rfl) (pe_fld (pv 3) rfl))))))
      (pss_one (ps_ret (pv 1))))), ?_⟩
    refine ⟨Nat.zero_le _, fun D hD => ?_⟩
    have s1 : Same H (upd H D (.lst [])) := same_new hD
    refine while_by (fun σ H' => ∃ (at_ f : Nat) (done rest : List (List (List Int))) (v3 : Option V) (as : List Addr), σ = [some (.ref ca), some (.ref D), some (.int (Int.ofNat at_)), v3] ∧ Same H H' ∧ cs = done ++ rest ∧ at_ ≤ ns.length ∧ PyFlat.calls PySx61.shape f (ns.drop at_) = some rest ∧
      H' D = some (.lst (as.map V.ref)) ∧ Each (fun _ x c => ∃ b R, CallA Ca c b R x ∧ Same R H' ∧ ∀ y o, R y = some o → H y = none ∧ y ≠ D) as done) (fun σ _ => match σ with | [_, _, some (.int z), _] => ns.length - z.toNat | _ => 0)
      ⟨0, ns.length, [], cs, none, [], rfl, s1, rfl, Nat.zero_le _, (by rw [List.drop_zero]; exact hc), upd_same, Each.nil⟩ ?_ ?_
    · rintro σ H' ⟨at_, f, done, rest, v3, as, rfl, sm, hcs, hat, hrest, hDl, hE⟩
      refine ⟨_, rfl, _, rfl, ca, _, rfl, .inl (sm.seq hS), _, _, rfl, rfl, _, rfl, ?_⟩
      by_cases c : at_ < ns.length
      · refine iteY (decide_eq_true (show Int.ofNat at_ < (((Iv ns).length : Nat) : Int) by rw [iv_len]; exact Int.ofNat_lt.mpr c)) ?_
        obtain ⟨g, b, c0, ds, rfl, q1, q2, q3, q4⟩ := Mx.calls_at c hrest
        refine ⟨_, rfl, _, rfl, ca, ns, at_, b, c0, rfl, sm.seq hS, hl, q1, q3, fun H2 x s2 hx => ?_⟩
        refine ⟨_, rfl, .inl ⟨rfl, _, SqL.of (s2 _ _ hDl)⟩, _, rfl, D, _, _, rfl, rfl, s2 _ _ hDl, ?_, ?_⟩
        · rw [List.length_map, hE.len, sizeLine_eq]
          have : done.length ≤ cs.length := by rw [hcs, List.length_append]; omega
          omega
        obtain ⟨p, nums, xs, dx, na, ra, ras, h0, h1, h2, h3, h4⟩ := id hx
        have h1' := newP_same _ _ _ _ h1
        have hxD : x ≠ D := ne_of h1' (s2 _ _ hDl) (by intro z; cases z)
        refine ⟨_, rfl, x, Ca, dx, _, _, rfl, (by rw [upd_ne hxD]; exact h1'), T.cl, T.n4, f4_4, ⟨b, g, done ++ [c0], ds, _, as ++ [x], rfl, ?_, (by rw [hcs, List.append_assoc]; rfl), q3, q4, (by rw [upd_same, List.map_append]; rfl), ?_⟩, ?_⟩
        · intro y o e
          rw [upd_ne (ne_of_none e hD)]
          exact s2 _ _ (sm _ _ e)
        · have nzD : ∀ z o, NewP H' H2 z = some o → z ≠ D := fun z o e zD => by
            have := newP_free e
            rw [zD, hDl] at this
            cases this
          refine Each.snoc (hE.mono fun _ y c ⟨b, R, q, sR, nR⟩ => ⟨b, R, q, fun z o e => (by rw [upd_ne (nR z o e).2]; exact s2 _ _ (sR _ _ e)), nR⟩) ⟨b, NewP H' H2, hx, fun z o e => (by rw [upd_ne (nzD z o e)]; exact newP_same _ _ _ _ e), fun z o e => ⟨sm.free (newP_free e), nzD z o e⟩⟩
        · show ns.length - (Int.ofNat b).toNat < ns.length - (Int.ofNat at_).toNat
          show ns.length - b < ns.length - at_
          omega
      · refine iteN (decide_eq_false (show ¬ Int.ofNat at_ < (((Iv ns).length : Nat) : Int) by rw [iv_len]; exact fun z => c (Int.ofNat_lt.mp z))) ?_
        have := Mx.calls_end (by omega) hrest
        subst this
        rw [List.append_nil] at hcs
        subst hcs
        refine ⟨_, rfl, ?_⟩
        exact kk H' D as sm (newP_get hD hDl) (hE.mono fun _ y c ⟨b, R, q, sR, nR⟩ => ⟨b, q.mono (Keep.of fun z o e => newP_get (nR z o e).1 (sR z o e))⟩)
    · rintro σ H' Q1 Q2 hQ ⟨v, e1, v2, e2, q, ys, e3, e4, i, j, e5, e6, k, e7, e8⟩
      exact ⟨v, e1, v2, e2, q, ys, e3, e4, i, j, e5, e6, k, e7, hQ _ _ e8⟩
end
end Pf
namespace Pf
open PySem PySem.Spec PyProof.Rows L2
abbrev sLens : Stmt := top 33
abbrev sCosts : Stmt := top 34
abbrev sWith : Stmt := top 35
abbrev sOnTrk : Stmt := top 36
abbrev sPlI : Stmt := inClass (top 37) 0
abbrev sBegins : Stmt := inClass (top 37) 1
abbrev sCome : Stmt := inClass (top 37) 2
abbrev sGo : Stmt := inClass (top 37) 3
abbrev sUndo : Stmt := inClass (top 37) 4
abbrev sTry : Stmt := inClass (top 37) 5
abbrev sStands : Stmt := inClass (top 37) 6
abbrev sBest : Stmt := inClass (top 37) 7
abbrev sFewest : Stmt := inClass (top 37) 8
abbrev sForced : Stmt := inClass (top 37) 9
abbrev sAlready : Stmt := inClass (top 37) 10
abbrev sForAll : Stmt := inClass (top 37) 11
abbrev sCostOf : Stmt := inClass (top 37) 12
abbrev sAllWays : Stmt := inClass (top 37) 13
abbrev sCheap : Stmt := inClass (top 37) 14
structure TxH (K : Frag) (mg : Str → Option Value) : Prop where
  all : mg "all" = none
  any : mg "any" = none
  len : mg "len" = none
  gLONG : ∃ u, mg "LONGEST" = some (.int 100 u)
  gDEAR : ∃ u, mg "DEAREST" = some (.int 1000 u)
def spLens : Sp := fun vs H Q _ => ∃ (a : Addr) (l : List Nat), vs = [.ref a] ∧ H a = some (.lst (Nv l)) ∧ l.length ≤ 1000 ∧ ∀ H' : Hp, Same H H' → Q (.bl (l.all fun n => decide (1 ≤ n) && decide (n ≤ 100))) H'
def spCosts : Sp := fun vs H Q _ => ∃ (a : Addr) (l : List Nat), vs = [.ref a] ∧ H a = some (.lst (Nv l)) ∧ l.length ≤ 1000 ∧ ∀ H' : Hp, Same H H' → Q (.bl (l.all fun n => decide (n ≤ 1001))) H'
def rowsOut (rows : List (List Nat)) : List Int := rows.flatMap fun r => (r.length : Int) :: r.map fun (n : Nat) => (n : Int)
def spWith : Sp := fun vs H Q _ => ∃ (a : Addr) (z : Int) (as : List Addr) (rows : List (List Nat)), vs = [.int z, .ref a] ∧ H a = some (.lst (as.map V.ref)) ∧ Each (fun _ r row => H r = some (.lst (Nv row))) as rows ∧ (rowsOut rows).length ≤ 100000 ∧
  ∀ (H' : Hp) (r : Addr), Same H H' → H r = none → H' r = some (.lst (Iv (z :: rowsOut rows))) → Q (.ref r) H'
section
variable {P : Program} {w : World} {K : Frag} {mg : Str → Option Value} {base : Heap}
theorem scLens : FnScope ["numbers", "number"] ["numbers"] (defScope sLens) := ⟨rfl, rfl, rfl, by decide +kernel, rfl, by decide +kernel, by decide +kernel⟩
theorem ok_lens {f : Addr} {fd : FuncData} (F : Fun K "are_lengths" "are_lengths" sLens f fd) (T : TxH K mg) : FnOk P w K mg base CX0 1 f fd ["numbers"] spLens := by
  obtain ⟨u1, g1⟩ := T.gLONG
  refine F.ok scLens (fun vs H Q E h => ?_) (fun cdv A outer s H vs Q E hr h => ?_)
  · obtain ⟨a, l, rfl, _⟩ := h
    rfl
  · obtain ⟨a, l, rfl, h1, hz, k⟩ := h
    refine ⟨_, pss_one (ps_ret (pe_callB (cr_all rfl) (by rfl) T.all boot_all (pa_cons (pe_lc (own := [("number", 1)]) (te := tChain (rI0 fun i j => .bl (decide (i ≤ j))) (rI0 fun i j => .bl (decide (i ≤ j))) (tC (.int 1)) (tVar 1) (tC (.int 100))) rfl scLens.nd (pi_list (pv 0)) (blkOk_by (by rfl)) (fun _ _ _ _ _ => by exact pg_name (i := 1) scLens.nd rfl (Or.inl rfl) (.inr rfl)) (fun _ _ _ _ _ => by exact pts_nil)
      (fun _ _ _ _ _ => by exact pe_chain op_le op_le pe_int (pv 1) (pe_glob (v := .int 100) rfl g1 ⟨_, rfl⟩))) pa_nil))), ?_⟩
    refine ⟨_, rfl, a, rfl, ⟨_, SqL.of h1⟩, fun D hD => ?_⟩
    have sD : ∀ xs, Same H (upd H D (.lst xs)) := fun xs => same_new hD
    refine lc_list (K := K) (a := a) (xs := Nv l) (fun i H' => H' = upd H D (.lst (((l.take i).map fun n => decide (1 ≤ n) && decide (n ≤ 100)).map V.bl))) rfl (fun i H' _ e => by subst e; exact SqL.of (sD _ _ _ h1)) ?_ ?_
    · intro i x H' hx e
      subst e
      obtain ⟨n, hn, rfl⟩ := nv_inv hx
      refine ⟨rfl, yes_then ?_⟩
      have fin : ∀ b, b = (decide (1 ≤ n) && decide (n ≤ 100)) → ∃ acc, (upd H D (.lst (((l.take i).map fun n => decide (1 ≤ n) && decide (n ≤ 100)).map V.bl))) D = some (.lst acc) ∧ acc.length < sizeLine ∧ upd (upd H D (.lst (((l.take i).map fun n => decide (1 ≤ n) && decide (n ≤ 100)).map V.bl))) D (.lst (acc ++ [V.bl b])) = upd H D (.lst (((l.take (i + 1)).map fun n => decide (1 ≤ n) && decide (n ≤ 100)).map V.bl)) := by
        intro b hb
        refine ⟨_, upd_same, ?_, ?_⟩
        · rw [List.length_map, List.length_map, List.length_take, sizeLine_eq]
          omega
        · rw [upd_upd, Mx.take_snoc hn, List.map_append, List.map_append, hb]
          rfl
      refine ⟨_, rfl, _, _, rfl, rfl, _, rfl, ?_⟩
      by_cases c1 : 1 ≤ n
      · refine iteY (decide_eq_true (show (1 : Int) ≤ Int.ofNat n from Int.ofNat_le.mpr c1)) ?_
        refine ⟨_, _, rfl, rfl, fin _ ?_⟩
        rw [decide_eq_true c1, Bool.true_and]
        exact decide_eq_decide.mpr (show Int.ofNat n ≤ Int.ofNat 100 ↔ n ≤ 100 from Int.ofNat_le)
      · refine iteN (decide_eq_false (show ¬ (1 : Int) ≤ Int.ofNat n from fun z => c1 (Int.ofNat_le.mp z))) ?_
        exact fin _ (by rw [decide_eq_false c1]; rfl)
    · intro H' e
      subst e
      rw [nv_len, List.take_length]
      refine ⟨D, _, rfl, SqL.of upd_same, ?_⟩
      have q := k _ (sD (((l.map fun n => decide (1 ≤ n) && decide (n ≤ 100)).map V.bl)))
      rw [List.all_map]
      exact q
theorem scCosts : FnScope ["numbers", "number"] ["numbers"] (defScope sCosts) := ⟨rfl, rfl, rfl, by decide +kernel, rfl, by decide +kernel, by decide +kernel⟩
theorem ok_costs {f : Addr} {fd : FuncData} (F : Fun K "are_costs" "are_costs" sCosts f fd) (T : TxH K mg) : FnOk P w K mg base CX0 1 f fd ["numbers"] spCosts := by
  obtain ⟨u1, g1⟩ := T.gDEAR
  refine F.ok scCosts (fun vs H Q E h => ?_) (fun cdv A outer s H vs Q E hr h => ?_)
  · obtain ⟨a, l, rfl, _⟩ := h
    rfl
  · obtain ⟨a, l, rfl, h1, hz, k⟩ := h
    refine ⟨_, pss_one (ps_ret (pe_callB (cr_all rfl) (by rfl) T.all boot_all (pa_cons (pe_lc (own := [("number", 1)]) (te := tOp (rI0 fun i j => .bl (decide (i ≤ j))) (tVar 1) (tOp (rI0 fun i j => .int (i + j)) (tC (.int 1000)) (tC (.int 1)))) rfl scCosts.nd (pi_list (pv 0)) (blkOk_by (by rfl)) (fun _ _ _ _ _ => by exact pg_name (i := 1) scCosts.nd rfl (Or.inl rfl) (.inr rfl)) (fun _ _ _ _ _ => by exact pts_nil)
      (fun _ _ _ _ _ => by exact pe_cmpR op_le (pv 1) (pe_op op_add (pe_glob (v := .int 1000) rfl g1 ⟨_, rfl⟩) pe_int) (nomark _))) pa_nil))), ?_⟩
    refine ⟨_, rfl, a, rfl, ⟨_, SqL.of h1⟩, fun D hD => ?_⟩
    have sD : ∀ xs, Same H (upd H D (.lst xs)) := fun xs => same_new hD
    refine lc_list (K := K) (a := a) (xs := Nv l) (fun i H' => H' = upd H D (.lst (((l.take i).map fun n => decide (n ≤ 1001)).map V.bl))) rfl (fun i H' _ e => by subst e; exact SqL.of (sD _ _ _ h1)) ?_ ?_
    · intro i x H' hx e
      subst e
      obtain ⟨n, hn, rfl⟩ := nv_inv hx
      refine ⟨rfl, yes_then ?_⟩
      refine ⟨_, rfl, _, _, rfl, rfl, _, _, rfl, rfl, _, upd_same, ?_, ?_⟩
      · rw [List.length_map, List.length_map, List.length_take, sizeLine_eq]
        omega
      · have e2 : decide (Int.ofNat n ≤ (1000 : Int) + 1) = decide (n ≤ 1001) := decide_eq_decide.mpr (show Int.ofNat n ≤ Int.ofNat 1001 ↔ n ≤ 1001 from Int.ofNat_le)
        show upd (upd H D _) D (.lst (_ ++ [V.bl (decide (Int.ofNat n ≤ (1000 : Int) + 1))])) = _
        rw [upd_upd, Mx.take_snoc hn, List.map_append, List.map_append, e2]
        rfl
    · intro H' e
      subst e
      rw [nv_len, List.take_length]
      refine ⟨D, _, rfl, SqL.of upd_same, ?_⟩
      have q := k _ (sD (((l.map fun n => decide (n ≤ 1001)).map V.bl)))
      rw [List.all_map]
      exact q
theorem scWith : FnScope ["number", "rows", "told", "row"] ["number", "rows"] (defScope sWith) := ⟨rfl, rfl, rfl, by decide +kernel, rfl, by decide +kernel, by decide +kernel⟩
theorem ok_with {f : Addr} {fd : FuncData} (F : Fun K "with_lists" "with_lists" sWith f fd) (T : TxH K mg) : FnOk P w K mg base CX0 1 f fd ["number", "rows"] spWith := by
  refine F.ok scWith (fun vs H Q E h => ?_) (fun cdv A outer s H vs Q E hr h => ?_)
  · obtain ⟨a, z, as, rows, rfl, _⟩ := h
    rfl
  · obtain ⟨a, z, as, rows, rfl, h1, h2, hz, k⟩ := h
    refine ⟨_, pss_cons (ps_set (i := 2) scWith.nd rfl (Or.inl rfl) (pe_lst (pa_cons (pv 0) pa_nil)))
      (pss_cons (ps_for PassesOwn.never rfl (pi_list (pv 1)) (pg_name (i := 3) scWith.nd rfl (Or.inl rfl))
        (pss_cons (ps_expr (pe_bm PySem.F.plainAttrs_list PySem.F.slot_list_append PySem.F.type_list_append mt_append (pv 2) (pa_cons (pe_callB call_len_seq (by rfl) T.len PySem.boot_len (pa_cons (pv 3) pa_nil)) pa_nil)))
        (pss_one (ps_expr (pe_bm PySem.F.plainAttrs_list PySem.F.slot_list_extend PySem.F.type_list_extend mt_extend (pv 2) (pa_cons (pv 3) pa_nil))))))
      (pss_one (ps_ret (pv 2)))), ?_⟩
    refine ⟨_, rfl, z1, fun D hD => ?_⟩
    have sD : ∀ xs, Same H (upd H D (.lst xs)) := fun xs => same_new hD
    have lenT : ∀ i, (rowsOut (rows.take i)).length ≤ (rowsOut rows).length := by
      intro i
      unfold rowsOut
      conv => rhs; rw [← List.take_append_drop i rows]
      rw [List.flatMap_append, List.length_append]
      omega
    refine ⟨_, rfl, a, rfl, ⟨_, SqL.of (sD _ _ _ h1)⟩, for_list (K := K) (a := a) (xs := as.map V.ref) (fun i σ H' => ∃ v3 : Option V, σ = [some (.int z), some (.ref a), some (.ref D), v3] ∧ H' = upd H D (.lst (Iv (z :: rowsOut (rows.take i)))))
      ⟨none, rfl, rfl⟩ (fun i σ H' _ ⟨_, _, e⟩ => by subst e; exact SqL.of (sD _ _ _ h1)) ?_ ?_⟩
    · rintro i v σ H' hv ⟨v3, rfl, rfl⟩
      obtain ⟨r, hr1, rfl⟩ := ref_inv hv
      obtain ⟨row, hrow, hrr⟩ := h2.of hr1
      have hDr : r ≠ D := ne_of_none hrr hD
      have et : rowsOut (rows.take (i + 1)) = rowsOut (rows.take i) ++ ((row.length : Int) :: row.map fun (n : Nat) => (n : Int)) := by
        unfold rowsOut
        rw [Mx.take_snoc hrow, List.flatMap_append, List.flatMap_cons, List.flatMap_nil, List.append_nil]
      have hlen := lenT (i + 1)
      rw [et, List.length_append, List.length_cons, List.length_map] at hlen
      refine ⟨_, rfl, .inl ⟨rfl, _, SqL.of upd_same⟩, _, rfl, r, _, rfl, .inl (SqL.of (sD _ _ _ hrr)), D, _, _, rfl, rfl, upd_same, ?_, ?_⟩
      · rw [iv_len, List.length_cons, sizeLine_eq]
        omega
      rw [upd_upd]
      refine ⟨_, rfl, .inl ⟨rfl, _, SqL.of upd_same⟩, _, rfl, D, r, _, _, rfl, rfl, upd_same, sD _ _ _ hrr, ?_, ?_⟩
      · rw [List.length_append, iv_len, List.length_cons, nv_len, sizeLine_eq]
        show rowsOut (rows.take i) |>.length |> (· + 1 + 1 + row.length ≤ 16777216)
        omega
      refine ⟨_, rfl, ?_⟩
      rw [upd_upd, et]
      congr 2
      show Iv (z :: rowsOut (rows.take i)) ++ [V.int ((Nv row).length : Nat)] ++ Nv row = _
      rw [nv_len]
      unfold Iv Nv
      rw [List.map_cons, List.map_cons, List.map_append, List.map_cons, List.map_map]
      simp
    · rintro σ H' ⟨v3, rfl, rfl⟩
      refine ⟨_, rfl, ?_⟩
      rw [List.length_map, h2.len, List.take_length]
      exact k _ D (sD _) hD upd_same
end
end Pf
namespace Pf
open PySem PySem.Spec PyProof.Rows L2
section
variable {n1 n2 n3 n4 : Str} {v1 v2 v3 v4 v : V}
theorem f4_list (a : ¬ n1 = n2) (b : ¬ n1 = n3) (c : ¬ n1 = n4) (d : ¬ n2 = n3) (e : ¬ n2 = n4) (f : ¬ n3 = n4) : f4 n1 v1 n2 v2 n3 v3 n4 v4 = [(n1, v1), (n2, v2), (n3, v3), (n4, v4)] := by
  unfold f4
  simp only [putF, if_neg a, if_neg b, if_neg c, if_neg d, if_neg e, if_neg f]
end
abbrev plF (tr le co go : Addr) : List (Str × V) := f4 "tracks" (.ref tr) "lengths" (.ref le) "coming" (.ref co) "going" (.ref go)
theorem pl_list (tr le co go : Addr) : plF tr le co go = [(("tracks" : Str), V.ref tr), (("lengths" : Str), V.ref le), (("coming" : Str), V.ref co), (("going" : Str), V.ref go)] := f4_list (by decide +kernel) (by decide +kernel) (by decide +kernel) (by decide +kernel) (by decide +kernel) (by decide +kernel)
theorem pl_put1 (tr le co go x : Addr) : putF "tracks" (.ref x) (plF tr le co go) = plF x le co go := by
  rw [pl_list, pl_list]
  simp only [putF, if_pos]
theorem pl_put2 (tr le co go x : Addr) : putF "lengths" (.ref x) (plF tr le co go) = plF tr x co go := by
  rw [pl_list, pl_list]
  simp only [putF, if_pos, if_neg (show ¬ ("tracks" : Str) = "lengths" by decide +kernel)]
theorem pl_put3 (tr le co go x : Addr) : putF "coming" (.ref x) (plF tr le co go) = plF tr le x go := by
  rw [pl_list, pl_list]
  simp only [putF, if_pos, if_neg (show ¬ ("tracks" : Str) = "coming" by decide +kernel), if_neg (show ¬ ("lengths" : Str) = "coming" by decide +kernel)]
theorem pl_put4 (tr le co go x : Addr) : putF "going" (.ref x) (plF tr le co go) = plF tr le co x := by
  rw [pl_list, pl_list]
  simp only [putF, if_pos, if_neg (show ¬ ("tracks" : Str) = "going" by decide +kernel), if_neg (show ¬ ("lengths" : Str) = "going" by decide +kernel), if_neg (show ¬ ("coming" : Str) = "going" by decide +kernel)]
structure Cs where
  pl : Addr
  co : Addr
  go : Addr
  mv : Addr
  st : Addr
  tab : Addr
def PlanA (cs : Cs) (R H : Hp) (p le co go : Addr) (P : Sx61.Plan) : Prop := ∃ (dx tr : Addr) (coAs goAs : List Addr), H p = some (.ins cs.pl dx (plF tr le co go)) ∧ H le = some (.lst (Nv P.lengths)) ∧ H co = some (.lst (coAs.map V.ref)) ∧ H go = some (.lst (goAs.map V.ref)) ∧
  (le ≠ co ∧ le ≠ go ∧ co ≠ go) ∧ Same R H ∧ (R p = none ∧ R le = none ∧ R co = none ∧ R go = none) ∧ TrksA P.tracks R tr ∧ Each (fun k a c => ComA cs.co (P.first k) c R a) coAs P.comings ∧ Each (fun _ a g => GoA cs.go g R a) goAs P.goings ∧ Mx.PlanOk P
structure Aft (R H : Hp) (p le co go : Addr) (R' H' : Hp) (le' co' go' : Addr) : Prop where
  sub : Same R R'
  kp : ∀ b o, H b = some o → (∀ ps, o ≠ .tbl ps) → b ≠ p → b ≠ le → b ≠ co → b ≠ go → H' b = some o
  nm : ∀ b, b = le' ∨ b = co' ∨ b = go' → b = le ∨ b = co ∨ b = go ∨ H b = none
  nr : ∀ b o, R' b = some o → R b = some o ∨ H b = none
def Ends1 (cs : Cs) (R H : Hp) (p le co go : Addr) (P : Sx61.Plan) (X : Sx61.Call) (Q : VK) : Prop := ∀ (H' R' : Hp) (le' co' go' r : Addr), Aft R H p le co go R' H' le' co' go' → PlanA cs R' H' p le' co' go' (Sx61.step P X).1 → TabM cs.tab H' → H r = none →
  H' r = some (.lst (Iv (Sx61Neutral.told (Sx61.step P X).2))) → Q (.ref r) H'
theorem TabM.same {tab : Addr} {H H' : Hp} (s : Same H H') (t : TabM tab H) : TabM tab H' := by
  rcases t with t | ⟨c, t1, t2⟩
  · exact .inl (s _ _ t)
  · exact .inr ⟨c, s _ _ t1, s _ _ t2⟩
theorem TabM.kp {tab : Addr} {H H' : Hp} (t : TabM tab H) (k : ∀ b o, H b = some o → (∀ xs, o ≠ .lst xs) → (∀ C d f, o ≠ .ins C d f) → H' b = some o) : TabM tab H' := by
  rcases t with t | ⟨c, t1, t2⟩
  · exact .inl (k _ _ t (fun _ z => by cases z) (fun _ _ _ z => by cases z))
  · exact .inr ⟨c, k _ _ t1 (fun _ z => by cases z) (fun _ _ _ z => by cases z), k _ _ t2 (fun _ z => by cases z) (fun _ _ _ z => by cases z)⟩
theorem Ends1.stay {cs : Cs} {R H : Hp} {p le co go : Addr} {P : Sx61.Plan} {X : Sx61.Call} {Q : VK} (k : Ends1 cs R H p le co go P X Q) (hP : PlanA cs R H p le co go P) (ht : TabM cs.tab H) (e : (Sx61.step P X).1 = P) {H1 : Hp} {r : Addr} {xs : List V} (sm : Same H H1) (hr : H1 r = none)
    (hx : xs = Iv (Sx61Neutral.told (Sx61.step P X).2)) : Q (.ref r) (upd H1 r (.lst xs)) := by
  subst hx
  have s2 : Same H (upd H1 r (.lst (Iv (Sx61Neutral.told (Sx61.step P X).2)))) := sm.trans (same_new hr)
  refine k _ R le co go r ⟨Same.refl _, fun b o e _ _ _ _ _ => s2 b o e, fun b hb => ?_, fun b o e => .inl e⟩ ?_ (TabM.same s2 ht) (sm.free hr) upd_same
  · rcases hb with z | z | z
    · exact .inl z
    · exact .inr (.inl z)
    · exact .inr (.inr (.inl z))
  · rw [e]
    obtain ⟨dx, tr, coAs, goAs, h1, h2, h3, h4, h5, h6, h7⟩ := hP
    exact ⟨dx, tr, coAs, goAs, s2 _ _ h1, s2 _ _ h2, s2 _ _ h3, s2 _ _ h4, h5, h6.trans s2, h7⟩
structure TxP (K : Frag) (mg : Str → Option Value) (C : Addr) : Prop where
  cl : Cls K C
  nt : NoAttr K C "tracks"
  nl : NoAttr K C "lengths"
  nc : NoAttr K C "coming"
  ng : NoAttr K C "going"
  h : TxH K mg
  range : mg "range" = none
  gTR : ∃ u, mg "MOST_TRACKS" = some (.int 4 u)
  gPA : ∃ u, mg "MOST_PARTS" = some (.int 4 u)
  gCO : ∃ u, mg "MOST_COMING" = some (.int 6 u)
  gGO : ∃ u, mg "MOST_GOING" = some (.int 12 u)
  gLA : ∃ u, mg "LATEST" = some (.int 10000 u)
  gWR : ∃ u, mg "WRONG" = some (.int (-1) u)
  gNT : ∃ u, mg "NOT_THERE" = some (.int (-2) u)
  gGA : ∃ u, mg "GOES_ALREADY" = some (.int (-3) u)
  gTM : ∃ u, mg "TOO_MANY" = some (.int (-5) u)
  gNW : ∃ u, mg "NO_WAY" = some (.int (-6) u)
def spPlI (C : Addr) : Sp := fun vs H Q _ => ∃ (p dx : Addr), vs = [.ref p] ∧ H p = some (.ins C dx []) ∧
  ∀ (H' : Hp) (tr le co go : Addr), H' p = some (.ins C dx (plF tr le co go)) → H' tr = some (.lst []) → H' le = some (.lst []) → H' co = some (.lst []) → H' go = some (.lst []) → tr ≠ le → tr ≠ co → tr ≠ go → le ≠ co → le ≠ go → co ≠ go →
    H tr = none → H le = none → H co = none → H go = none → (∀ b o, H b = some o → b ≠ p → H' b = some o) → Q .non H'
def spUndo (cs : Cs) : Sp := fun vs H Q _ => ∃ (p le co go : Addr) (R : Hp) (P : Sx61.Plan), vs = [.ref p] ∧ PlanA cs R H p le co go P ∧ TabM cs.tab H ∧ Ends1 cs R H p le co go P .undo Q
section
variable {P : Program} {w : World} {K : Frag} {mg : Str → Option Value} {base : Heap}
theorem scPlI : FnScope ["self"] ["self"] (defScope sPlI) := ⟨rfl, rfl, rfl, by decide +kernel, rfl, by decide +kernel, by decide +kernel⟩
theorem ok_plI {f C : Addr} {fd : FuncData} (F : Fun K "__init__" "Plan.__init__" sPlI f fd) (T : TxP K mg C) : FnOk P w K mg base CX0 1 f fd ["self"] (spPlI C) := by
  refine F.ok scPlI (fun vs H Q E h => ?_) (fun cdv A outer s H vs Q E hr h => ?_)
  · obtain ⟨p, dx, rfl, _⟩ := h
    rfl
  · obtain ⟨p, dx, rfl, hp, k⟩ := h
    refine ⟨_, pss_cons (ps_fld (pv 0) (pe_lst pa_nil) rfl) (pss_cons (ps_fld (pv 0) (pe_lst pa_nil) rfl) (pss_cons (ps_fld (pv 0) (pe_lst pa_nil) rfl) (pss_one (ps_fld (pv 0) (pe_lst pa_nil) rfl)))), ?_⟩
    refine ⟨Nat.zero_le _, fun tr h1 => ?_⟩
    have n1 : p ≠ tr := ne_of_none hp h1
    refine ⟨_, rfl, p, C, dx, [], rfl, (by rw [upd_ne n1]; exact hp), T.cl, T.nt, (by show 0 < 1000; decide), ?_⟩
    refine ⟨Nat.zero_le _, fun le h2 => ?_⟩
    have n2 : p ≠ le := ne_of_none upd_same h2
    refine ⟨_, rfl, p, C, dx, _, rfl, (by rw [upd_ne n2]; exact upd_same), T.cl, T.nl, (by show 1 < 1000; decide), ?_⟩
    refine ⟨Nat.zero_le _, fun co h3 => ?_⟩
    have n3 : p ≠ co := ne_of_none upd_same h3
    refine ⟨_, rfl, p, C, dx, _, rfl, (by rw [upd_ne n3]; exact upd_same), T.cl, T.nc, (Nat.lt_of_le_of_lt (length_putF _ _ _) (by show 2 < 1000; decide)), ?_⟩
    refine ⟨Nat.zero_le _, fun go h4 => ?_⟩
    have n4 : p ≠ go := ne_of_none upd_same h4
    refine ⟨_, rfl, p, C, dx, _, rfl, (by rw [upd_ne n4]; exact upd_same), T.cl, T.ng, (Nat.lt_of_le_of_lt (length_putF _ _ _) (Nat.lt_of_le_of_lt (Nat.succ_le_succ (length_putF _ _ _)) (by show 3 < 1000; decide))), ?_⟩
    have a1 : ∀ b : Addr, b ≠ p → b ≠ tr → b ≠ le → b ≠ co → b ≠ go → ∀ X1 X2 X3 X4 X5 X6 X7 X8, upd (upd (upd (upd (upd (upd (upd (upd H tr X1) p X2) le X3) p X4) co X5) p X6) go X7) p X8 b = H b := by
      intro b b1 b2 b3 b4 b5 X1 X2 X3 X4 X5 X6 X7 X8
      rw [upd_ne b1, upd_ne b5, upd_ne b1, upd_ne b4, upd_ne b1, upd_ne b3, upd_ne b1, upd_ne b2]
    have m1 : tr ≠ le := fun z => by rw [← z, upd_ne n1.symm, upd_same] at h2; cases h2
    have m2 : tr ≠ co := fun z => by rw [← z, upd_ne n1.symm, upd_ne m1, upd_ne n1.symm, upd_same] at h3; cases h3
    have m3 : tr ≠ go := fun z => by rw [← z, upd_ne n1.symm, upd_ne m2, upd_ne n1.symm, upd_ne m1, upd_ne n1.symm, upd_same] at h4; cases h4
    have m4 : le ≠ co := fun z => by rw [← z, upd_ne n2.symm, upd_same] at h3; cases h3
    have m5 : le ≠ go := fun z => by rw [← z, upd_ne n2.symm, upd_ne m4, upd_ne n2.symm, upd_same] at h4; cases h4
    have m6 : co ≠ go := fun z => by rw [← z, upd_ne n3.symm, upd_same] at h4; cases h4
    refine k _ tr le co go upd_same ?_ ?_ ?_ ?_ m1 m2 m3 m4 m5 m6 h1 ?_ ?_ ?_ fun b o e hb => ?_
    · rw [upd_ne n1.symm, upd_ne m3, upd_ne n1.symm, upd_ne m2, upd_ne n1.symm, upd_ne m1, upd_ne n1.symm, upd_same]
    · rw [upd_ne n2.symm, upd_ne m5, upd_ne n2.symm, upd_ne m4, upd_ne n2.symm, upd_same]
    · rw [upd_ne n3.symm, upd_ne m6, upd_ne n3.symm, upd_same]
    · rw [upd_ne n4.symm, upd_same]
    · rw [upd_ne n2.symm, upd_ne m1.symm] at h2; exact h2
    · rw [upd_ne n3.symm, upd_ne m4.symm, upd_ne n3.symm, upd_ne m2.symm] at h3; exact h3
    · rw [upd_ne n4.symm, upd_ne m6.symm, upd_ne n4.symm, upd_ne m5.symm, upd_ne n4.symm, upd_ne m3.symm] at h4; exact h4
    · have b2 : b ≠ tr := ne_of_none e h1
      have b3 : b ≠ le := fun z => by subst z; rw [upd_ne hb, upd_ne b2, e] at h2; cases h2
      have b4 : b ≠ co := fun z => by subst z; rw [upd_ne hb, upd_ne b3, upd_ne hb, upd_ne b2, e] at h3; cases h3
      have b5 : b ≠ go := fun z => by subst z; rw [upd_ne hb, upd_ne b4, upd_ne hb, upd_ne b3, upd_ne hb, upd_ne b2, e] at h4; cases h4
      rw [a1 b hb b2 b3 b4 b5]
      exact e
theorem scUndo : FnScope ["self"] ["self"] (defScope sUndo) := ⟨rfl, rfl, rfl, by decide +kernel, rfl, by decide +kernel, by decide +kernel⟩
theorem ok_undo {f : Addr} {cs : Cs} {fd : FuncData} (F : Fun K "undo" "Plan.undo" sUndo f fd) (T : TxP K mg cs.pl) : FnOk P w K mg base CX0 1 f fd ["self"] (spUndo cs) := by
  obtain ⟨u2, g2⟩ := T.gNT
  refine F.ok scUndo (fun vs H Q E h => ?_) (fun cdv A outer s H vs Q E hr h => ?_)
  · obtain ⟨p, le, co, go, R, Pl, rfl, _⟩ := h
    rfl
  · obtain ⟨p, le, co, go, R, Pl, rfl, hP, ht, k⟩ := h
    refine ⟨_, pss_cons (ps_if (pt_cmpR op_eq (pe_callB call_len_seq (by rfl) T.h.len PySem.boot_len (pa_cons (pe_fld (pv 0) rfl) pa_nil)) pe_int (nomark _)) (pss_one (ps_ret (pe_lst (pa_cons (pe_glob (v := .int (-2)) rfl g2 ⟨_, rfl⟩) pa_nil)))) pss_nil)
      (pss_cons (ps_expr (pe_bm0 PySem.F.plainAttrs_list PySem.F.slot_list_pop PySem.F.type_list_pop mt_pop (pe_fld (pv 0) rfl)))
      (pss_one (ps_ret (pe_lst (pa_cons (pe_callB call_len_seq (by rfl) T.h.len PySem.boot_len (pa_cons (pe_fld (pv 0) rfl) pa_nil)) pa_nil))))), ?_⟩
    have hP' := hP
    obtain ⟨dx, tr, coAs, goAs, h1, h2, h3, h4, ⟨m1, m2, m3⟩, h6, ⟨r1, r2, r3, r4⟩, hT, hC, hG, hok⟩ := hP'
    refine ⟨_, rfl, p, cs.pl, dx, _, _, rfl, h1, T.cl, T.ng, f4_4, go, _, rfl, .inl (SqL.of h4), rfl, _, rfl, ?_⟩
    by_cases c : Pl.goings = []
    · have e0 : goAs = [] := by
        have := hG.len
        rw [c] at this
        exact List.eq_nil_of_length_eq_zero this
      refine iteY (by rw [e0]; rfl) ?_
      refine ⟨z1, fun r hr1 => ?_⟩
      have es : Sx61.step Pl .undo = (Pl, Sx61.ok (-2)) := if_pos c
      exact k.stay hP ht (by rw [es]) (Same.refl _) hr1 (by rw [es]; rfl)
    · have es : Sx61.step Pl .undo = ({ Pl with goings := Pl.goings.dropLast }, Sx61.ok (Sx61.num (Pl.goings.length - 1))) := if_neg c
      have hne : goAs.length ≠ 0 := by
        rw [hG.len]
        exact fun z => c (List.eq_nil_of_length_eq_zero z)
      refine iteN (decide_eq_false (fun z => hne ?_)) ?_
      · have := V.int.inj z
        rw [List.length_map] at this
        omega
      have hlast : (goAs.map V.ref)[(goAs.map V.ref).length - 1]? = some (V.ref (goAs.getD (goAs.length - 1) 0)) := by
        rw [List.length_map, List.getElem?_map, List.getD_eq_getElem?_getD, List.getElem?_eq_getElem (by omega)]
        rfl
      refine ⟨_, rfl, p, cs.pl, dx, _, _, rfl, h1, T.cl, T.ng, f4_4, .inl ⟨rfl, _, SqL.of h4⟩, go, _, _, rfl, rfl, h4, hlast, ?_⟩
      have npg : p ≠ go := ne_of h1 h4 (by intro z; cases z)
      have ekey : ∀ b : Addr, b ≠ go → upd H go (.lst (goAs.map V.ref).dropLast) b = H b := fun b hb => upd_ne hb
      refine ⟨_, rfl, p, cs.pl, dx, _, _, rfl, (by rw [ekey p npg]; exact h1), T.cl, T.ng, f4_4, go, _, rfl, .inl (SqL.of upd_same), z1, fun r hr1 => ?_⟩
      have hrg : r ≠ go := fun z => by rw [z, upd_same] at hr1; cases hr1
      have hrH : H r = none := by rw [ekey r hrg] at hr1; exact hr1
      have k := k
      unfold Ends1 at k
      rw [es] at k
      have kp : ∀ b o, H b = some o → b ≠ go → upd (upd H go (.lst (goAs.map V.ref).dropLast)) r (.lst [V.int (((goAs.map V.ref).dropLast).length : Nat)]) b = some o := fun b o e hb => by
        rw [upd_ne (ne_of_none e hrH), ekey b hb]
        exact e
      have hgo' : upd (upd H go (.lst (goAs.map V.ref).dropLast)) r (.lst [V.int (((goAs.map V.ref).dropLast).length : Nat)]) go = some (.lst (goAs.dropLast.map V.ref)) := by
        rw [upd_ne hrg.symm, upd_same, List.map_dropLast]
      refine k _ R le co go r ⟨Same.refl _, fun b o e _ _ _ _ b4 => kp b o e b4, fun b hb => ?_, fun b o e => .inl e⟩ ⟨dx, tr, coAs, goAs.dropLast, kp _ _ h1 npg, kp _ _ h2 m2, kp _ _ h3 m3, hgo', ⟨m1, m2, m3⟩, fun b o e => kp b o (h6 b o e) (fun z => by rw [z, r4] at e; cases e), ⟨r1, r2, r3, r4⟩, hT, hC, hG.dropLast, ?_⟩ ?_ hrH ?_
      · rcases hb with z | z | z
        · exact .inl z
        · exact .inr (.inl z)
        · exact .inr (.inr (.inl z))
      · have := hok.step .undo
        rw [es] at this
        exact this
      · exact TabM.kp ht fun b o e n1 n2 => kp b o e fun z => n1 _ (by rw [z, h4] at e; cases e; rfl)
      · rw [upd_same]
        congr 2
        rw [List.length_dropLast, List.length_map, hG.len]
        rfl
end
end Pf
namespace Pf
open PySem PySem.Spec PyProof.Rows L2
def spBegins (cs : Cs) : Sp := fun vs H Q _ => ∃ (p le co go na : Addr) (R : Hp) (P : Sx61.Plan) (ts : List Sx61.Track), vs = [.ref p, .ref na] ∧ PlanA cs R H p le co go P ∧ TabM cs.tab H ∧ R na = some (.lst (Nv (ts.flatMap Mx.row3))) ∧ ts.length ≤ 9 ∧ Ends1 cs R H p le co go P (.begins ts) Q
def More (R H : Hp) (l : List Addr) : Hp := fun b => (R b).or (if b ∈ l then H b else none)
theorem more_old {R H : Hp} {l : List Addr} : Same R (More R H l) := fun b o e => by
  unfold More
  rw [e]
  rfl
theorem more_new {R H : Hp} {l : List Addr} {b : Addr} {o : HO} (hR : R b = none) (hb : b ∈ l) (e : H b = some o) : More R H l b = some o := by
  unfold More
  rw [hR, if_pos hb]
  exact e
theorem more_inv {R H : Hp} {l : List Addr} {b : Addr} {o : HO} (e : More R H l b = some o) : R b = some o ∨ (b ∈ l ∧ H b = some o) := by
  unfold More at e
  cases h : R b with
  | some u =>
    rw [h] at e
    exact .inl e
  | none =>
    rw [h] at e
    by_cases hb : b ∈ l
    · rw [if_pos hb] at e
      exact .inr ⟨hb, e⟩
    · rw [if_neg hb] at e
      cases e
theorem more_none {R H : Hp} {l : List Addr} {b : Addr} (hR : R b = none) (hb : b ∉ l) : More R H l b = none := by
  unfold More
  rw [hR, if_neg hb]
  rfl
theorem rg3 : ∀ m : Nat, m < 10 → RgC 0 ((3 * m : Nat) : Int) 3 m := by
  intro m hm
  have : m = 0 ∨ m = 1 ∨ m = 2 ∨ m = 3 ∨ m = 4 ∨ m = 5 ∨ m = 6 ∨ m = 7 ∨ m = 8 ∨ m = 9 := by omega
  rcases this with rfl | rfl | rfl | rfl | rfl | rfl | rfl | rfl | rfl | rfl <;> exact ⟨by decide, by decide, by decide, by decide⟩
section
variable {P : Program} {w : World} {K : Frag} {mg : Str → Option Value} {base : Heap}
theorem scBegins : FnScope ["self", "numbers", "tracks", "at", "track"] ["self", "numbers"] (defScope sBegins) := ⟨rfl, rfl, rfl, by decide +kernel, rfl, by decide +kernel, by decide +kernel⟩
theorem ok_begins {f fL : Addr} {cs : Cs} {fd fdL : FuncData} (F : Fun K "begins" "Plan.begins" sBegins f fd) (T : TxP K mg cs.pl)
    (FL : Fun K "are_lengths" "are_lengths" sLens fL fdL) (bL : Binds K fdL ["numbers"] []) (mL : mg "are_lengths" = some (.ref fL)) : FnOk P w K mg base CX0 2 f fd ["self", "numbers"] (spBegins cs) := by
  have GL : FnOk P w K mg base CX0 1 fL fdL ["numbers"] spLens := ok_lens FL T.h
  obtain ⟨u1, g1⟩ := T.gWR
  obtain ⟨u4, g4⟩ := T.gTR
  refine F.ok scBegins (fun vs H Q E h => ?_) (fun cdv A outer s H vs Q E hr h => ?_)
  · obtain ⟨p, le, co, go, na, R, Pl, ts, rfl, _⟩ := h
    rfl
  · obtain ⟨p, le, co, go, na, R, Pl, ts, rfl, hP, ht, hna, htl, k⟩ := h
    refine ⟨_, pss_cons (ps_setLc (i := 2) (own := [("at", 3)]) (te := tSl (rSlL K) (tVar 1) (tPart (tVar 3)) (tPart (tOp (rI0 fun i j => .int (i + j)) (tVar 3) (tC (.int 3))))) rfl scBegins.nd rfl rfl (sw_true rfl rfl rfl rfl)
        (pi_range3 rfl T.range (pa_cons pe_int (pa_cons (pe_callB call_len_seq (by rfl) T.h.len PySem.boot_len (pa_cons (pv 1) pa_nil)) (pa_cons pe_int pa_nil)))) (blkOk_by (by rfl)) (fun _ _ _ _ _ => by exact pg_name (i := 3) scBegins.nd rfl (Or.inl rfl) (.inr rfl)) (fun _ _ _ _ _ => by exact pts_nil)
        (fun _ _ _ _ _ => by exact pe_slice sl_list (pv 1) (po_some (pv 3)) (po_some (pe_op op_add (pv 3) pe_int))))
      (pss_cons (ps_if (PW.pt (pw_or (pt_cmpR op_gt (pe_callB call_len_seq (by rfl) T.h.len PySem.boot_len (pa_cons (pv 2) pa_nil)) (pe_glob (v := .int 4) rfl g4 ⟨_, rfl⟩) (nomark _)) (pw_or1 (pt_not (pt_val (pe_call GL hr rfl mL FL.kp bL .nil pass0
          (pa_cons (pe_lc (own := [("track", 4)]) (te := tOp (rIxL K) (tVar 4) (tC (.int 0))) rfl scBegins.nd (pi_list (pv 2)) (blkOk_by (by rfl)) (fun _ _ _ _ _ => by exact pg_name (i := 4) scBegins.nd rfl (Or.inl rfl) (.inr rfl)) (fun _ _ _ _ _ => by exact pts_nil)
            (fun _ _ _ _ _ => by exact pe_ix ix_list (pv 4) pe_int (fun _ _ => rfl))) pa_nil)))))))
          (pss_one (ps_ret (pe_lst (pa_cons (pe_glob (v := .int (-1)) rfl g1 ⟨_, rfl⟩) pa_nil)))) pss_nil)
      (pss_cons (ps_fld (pv 0) (pv 2) rfl) (pss_cons (ps_fld (pv 0) (pe_lst pa_nil) rfl) (pss_cons (ps_fld (pv 0) (pe_lst pa_nil) rfl) (pss_cons (ps_fld (pv 0) (pe_lst pa_nil) rfl)
      (pss_one (ps_ret (pe_lst (pa_cons (pe_callB call_len_seq (by rfl) T.h.len PySem.boot_len (pa_cons (pv 2) pa_nil)) pa_nil))))))))), ?_⟩
    have hP' := hP
    obtain ⟨dx, tr, coAs, goAs, h1, h2, h3, h4, ⟨m1, m2, m3⟩, h6, ⟨r1, r2, r3, r4⟩, hT, hC, hG, hok⟩ := hP'
    have hna' := h6 _ _ hna
    have hfl : (Nv (ts.flatMap Mx.row3)).length = 3 * ts.length := by rw [nv_len, Mx.flat3_len]
    refine ⟨_, rfl, na, _, rfl, .inl (SqL.of hna'), 0, _, 3, ts.length, rfl, ?_, fun D hD => ?_⟩
    · rw [hfl]
      exact rg3 _ (by omega)
    refine lc_rangeC (lo := 0) (c := 3) (n := ts.length) (fun i H' => Same H H' ∧ ∃ as : List Addr, as.length = i ∧ H' D = some (.lst (as.map V.ref)) ∧ D ∉ as ∧ ∀ (j : Nat) (a : Addr), as[j]? = some a → ∃ t, ts[j]? = some t ∧ H' a = some (.lst (Nv (Mx.row3 t))) ∧ H a = none) ⟨same_new hD, [], rfl, upd_same, (by simp), fun j a h => (by simp at h)⟩ ?_ ?_
    · rintro i H' hi ⟨sm, as, hl, hd, hnd, he⟩
      refine ⟨rfl, yes_then ?_⟩
      refine ⟨_, rfl, _, rfl, _, rfl, _, rfl, _, _, rfl, rfl, _, rfl, na, _, rfl, SqL.of (sm _ _ hna'), fun q hq => ?_⟩
      obtain ⟨t, hti⟩ : ∃ t, ts[i]? = some t := ⟨_, List.getElem?_eq_getElem hi⟩
      have ez : (0 : Int) + ((i : Nat) : Int) * 3 = Int.ofNat (3 * i) := by
        show (0 : Int) + (i : Int) * 3 = ((3 * i : Nat) : Int)
        omega
      have ey : (0 : Int) + ((i : Nat) : Int) * 3 + 3 = Int.ofNat (3 * i + 3) := by
        show (0 : Int) + (i : Int) * 3 + 3 = ((3 * i + 3 : Nat) : Int)
        omega
      have ec : cutV (Nv (ts.flatMap Mx.row3)) (some ((0 : Int) + ((i : Nat) : Int) * 3)) (some ((0 : Int) + ((i : Nat) : Int) * 3 + 3)) = Nv (Mx.row3 t) := by
        rw [cut_v _ (3 * i) (3 * i + 3) ez ey, Nat.add_sub_cancel_left, nv_drop, nv_take, Mx.flat3_at hti]
      have hDq : D ≠ q := ne_of_none hd hq
      refine ⟨_, (by rw [upd_ne hDq]; exact hd), ?_, ?_, as ++ [q], (by rw [List.length_append, hl]; rfl), (by rw [upd_same, List.map_append]; rfl), ?_, fun j a hj => ?_⟩
      · rw [List.length_map, hl, sizeLine_eq]
        omega
      · intro b o e
        have e2 := sm b o e
        rw [upd_ne (ne_of_none e hD), upd_ne (ne_of_none e2 hq)]
        exact e2
      · simp only [List.mem_append, List.mem_singleton, not_or]
        exact ⟨hnd, hDq⟩
      · rcases Nat.lt_or_ge j as.length with z | z
        · rw [List.getElem?_append_left z] at hj
          obtain ⟨t', e1, e2, e3⟩ := he j a hj
          refine ⟨t', e1, ?_, e3⟩
          rw [upd_ne (fun y => hnd (by rw [← y]; exact List.mem_of_getElem? hj)), upd_ne (ne_of_none e2 hq)]
          exact e2
        · rw [List.getElem?_append_right z] at hj
          have ej : j - as.length = 0 := by
            rcases Nat.eq_zero_or_pos (j - as.length) with y | y
            · exact y
            · rw [List.getElem?_eq_none (by show 1 ≤ _; omega)] at hj; cases hj
          rw [ej] at hj
          cases hj
          have ej : j = i := by omega
          subst ej
          refine ⟨t, hti, ?_, sm.free hq⟩
          rw [upd_ne hDq.symm, upd_same, ec]
    rintro H1 ⟨sm, as, hl, hd, hnd, he⟩
    have hE : Each (fun _ a t => H1 a = some (.lst (Nv (Mx.row3 t))) ∧ H a = none) as ts := ⟨hl, fun i a t h1 h2 => by
      obtain ⟨t', e1, e2⟩ := he i a h1
      rw [h2] at e1
      cases e1
      exact e2⟩
    have es := Mx.step_begins Pl ts
    refine ⟨_, rfl, D, _, rfl, .inl (SqL.of hd), _, _, rfl, rfl, _, rfl, ?_⟩
    have wrong : (4 < ts.length ∨ (ts.all fun x => decide (1 ≤ x.long) && decide (x.long ≤ 100)) = false) → ∀ (H2 : Hp) (r : Addr), Same H H2 → H2 r = none → Q (.ref r) (upd H2 r (.lst [.int (-1)])) := by
      intro c H2 r s2 hr1
      rw [if_pos c] at es
      exact k.stay hP ht (by rw [es]) s2 hr1 (by rw [es]; rfl)
    by_cases c4 : 4 < ts.length
    · refine iteY (decide_eq_true (show (4 : Int) < (((as.map V.ref).length : Nat) : Int) by rw [List.length_map, hl]; omega)) ?_
      refine iteT ?_
      refine ⟨z1, fun r hr1 => ?_⟩
      exact wrong (.inl c4) H1 r sm hr1
    · refine iteN (decide_eq_false (show ¬ (4 : Int) < (((as.map V.ref).length : Nat) : Int) by rw [List.length_map, hl]; omega)) ?_
      refine ⟨_, rfl, D, rfl, ⟨_, SqL.of hd⟩, fun D2 hD2 => ?_⟩
      have sD2 : ∀ xs, Same H1 (upd H1 D2 (.lst xs)) := fun xs => same_new hD2
      refine lc_list (K := K) (a := D) (xs := as.map V.ref) (fun i H' => H' = upd H1 D2 (.lst (Nv ((ts.take i).map fun t => t.long)))) rfl (fun i H' _ e => by subst e; exact SqL.of (sD2 _ _ _ hd)) ?_ ?_
      · intro i x H' hx e
        subst e
        obtain ⟨a, ha, rfl⟩ := ref_inv hx
        obtain ⟨t, hti, hta, _⟩ := hE.of ha
        refine ⟨rfl, yes_then ?_⟩
        refine ⟨_, rfl, a, _, _, V.int (Int.ofNat t.long), rfl, rfl, SqL.of (sD2 _ _ _ hta), at_of (j := 0) rfl rfl, _, upd_same, ?_, ?_⟩
        · rw [nv_len, List.length_map, List.length_take, sizeLine_eq]
          omega
        · rw [upd_upd, Mx.take_snoc hti, List.map_append, nv_app]
          rfl
      · intro H' e
        subst e
        rw [List.length_map, hl, List.take_length]
        refine ⟨D2, _, rfl, upd_same, (by rw [List.length_map]; omega), fun H2 sm2 => ⟨_, rfl, ?_⟩⟩
        have s2 : Same H H2 := (sm.trans (sD2 _)).trans sm2
        have s12 : Same H1 H2 := (sD2 _).trans sm2
        rw [List.all_map]
        cases call : ts.all ((fun n => decide (1 ≤ n) && decide (n ≤ 100)) ∘ fun t => t.long) with
        | false =>
          refine iteT ?_
          refine ⟨z1, fun r hr1 => ?_⟩
          exact wrong (.inr call) H2 r s2 hr1
        | true =>
          refine iteF ?_
          have call' : (ts.all fun x => decide (1 ≤ x.long) && decide (x.long ≤ 100)) = true := call
          rw [if_neg (fun z => by rcases z with z | z; exact c4 z; rw [call'] at z; cases z)] at es
          refine ⟨_, rfl, _, rfl, p, cs.pl, dx, _, rfl, s2 _ _ h1, T.cl, T.nt, (by rw [pl_list]; show 4 < 1000; decide), ?_⟩
          refine ⟨Nat.zero_le _, fun le' hle => ?_⟩
          have np1 : p ≠ le' := ne_of_none upd_same hle
          refine ⟨_, rfl, p, cs.pl, dx, _, rfl, (by rw [upd_ne np1]; exact upd_same), T.cl, T.nl, (by rw [pl_put1, pl_list]; show 4 < 1000; decide), ?_⟩
          refine ⟨Nat.zero_le _, fun co' hco => ?_⟩
          have np2 : p ≠ co' := ne_of_none upd_same hco
          refine ⟨_, rfl, p, cs.pl, dx, _, rfl, (by rw [upd_ne np2]; exact upd_same), T.cl, T.nc, (by rw [pl_put1, pl_put2, pl_list]; show 4 < 1000; decide), ?_⟩
          refine ⟨Nat.zero_le _, fun go' hgo => ?_⟩
          have np3 : p ≠ go' := ne_of_none upd_same hgo
          refine ⟨_, rfl, p, cs.pl, dx, _, rfl, (by rw [upd_ne np3]; exact upd_same), T.cl, T.ng, (by rw [pl_put1, pl_put2, pl_put3, pl_list]; show 4 < 1000; decide), ?_⟩
          have l1 : H2 le' = none := by rw [upd_ne np1.symm] at hle; exact hle
          have mlc : le' ≠ co' := fun z => by rw [← z, upd_ne np1.symm, upd_same] at hco; cases hco
          have l2 : H2 co' = none := by rw [upd_ne np2.symm, upd_ne mlc.symm, upd_ne np2.symm] at hco; exact hco
          have mlg : le' ≠ go' := fun z => by rw [← z, upd_ne np1.symm, upd_ne mlc, upd_ne np1.symm, upd_same] at hgo; cases hgo
          have mcg : co' ≠ go' := fun z => by rw [← z, upd_ne np2.symm, upd_same] at hgo; cases hgo
          have l3 : H2 go' = none := by rw [upd_ne np3.symm, upd_ne mcg.symm, upd_ne np3.symm, upd_ne mlg.symm, upd_ne np3.symm] at hgo; exact hgo
          have hpp : putF "going" (V.ref go') (putF "coming" (V.ref co') (putF "lengths" (V.ref le') (putF "tracks" (V.ref D) (plF tr le co go)))) = plF D le' co' go' := by rw [pl_put1, pl_put2, pl_put3, pl_put4]
          have oth : ∀ b : Addr, b ≠ p → b ≠ le' → b ≠ co' → b ≠ go' → ∀ X1 X2 X3 X4 X5 X6 X7, upd (upd (upd (upd (upd (upd (upd H2 p X1) le' X2) p X3) co' X4) p X5) go' X6) p X7 b = H2 b := by
            intro b b1 b2 b3 b4 X1 X2 X3 X4 X5 X6 X7
            rw [upd_ne b1, upd_ne b4, upd_ne b1, upd_ne b3, upd_ne b1, upd_ne b2, upd_ne b1]
          have hdp : D ≠ p := (ne_of_none h1 hD).symm
          have hd2 : H2 D = some (.lst (as.map V.ref)) := s12 _ _ hd
          have nD : D ≠ le' ∧ D ≠ co' ∧ D ≠ go' := ⟨ne_of_none hd2 l1, ne_of_none hd2 l2, ne_of_none hd2 l3⟩
          refine ⟨_, rfl, D, _, rfl, .inl (SqL.of (by rw [oth D hdp nD.1 nD.2.1 nD.2.2]; exact hd2)), z1, fun r hr1 => ?_⟩
          generalize hHf : upd (upd (upd (upd (upd (upd (upd H2 p (.ins cs.pl dx (putF "tracks" (V.ref D) (plF tr le co go)))) le' (.lst [])) p (.ins cs.pl dx (putF "lengths" (V.ref le') (putF "tracks" (V.ref D) (plF tr le co go))))) co' (.lst [])) p (.ins cs.pl dx (putF "coming" (V.ref co') (putF "lengths" (V.ref le') (putF "tracks" (V.ref D) (plF tr le co go)))))) go' (.lst []))
            p (.ins cs.pl dx (putF "going" (V.ref go') (putF "coming" (V.ref co') (putF "lengths" (V.ref le') (putF "tracks" (V.ref D) (plF tr le co go)))))) = Hf at hr1 ⊢
          have f1 : Hf p = some (.ins cs.pl dx (plF D le' co' go')) := by rw [← hHf, upd_same, hpp]
          have f2 : Hf le' = some (.lst []) := by rw [← hHf, upd_ne np1.symm, upd_ne mlg, upd_ne np1.symm, upd_ne mlc, upd_ne np1.symm, upd_same]
          have f3 : Hf co' = some (.lst []) := by rw [← hHf, upd_ne np2.symm, upd_ne mcg, upd_ne np2.symm, upd_same]
          have f4' : Hf go' = some (.lst []) := by rw [← hHf, upd_ne np3.symm, upd_same]
          have f5 : ∀ b o, H2 b = some o → b ≠ p → Hf b = some o := fun b o e hb => by
            rw [← hHf, oth b hb (ne_of_none e l1) (ne_of_none e l2) (ne_of_none e l3)]
            exact e
          have hrp : r ≠ p := fun z => by rw [z, f1] at hr1; cases hr1
          have hrH2 : H2 r = none := by
            cases e : H2 r with
            | none => rfl
            | some o => rw [f5 r o e hrp] at hr1; cases hr1
          have sr : ∀ xs, Same Hf (upd Hf r (.lst xs)) := fun xs => same_new hr1
          have asF : ∀ a ∈ as, H a = none ∧ ∃ o, H2 a = some o := fun a ha => by
            obtain ⟨j, hj, e⟩ := List.getElem_of_mem ha
            obtain ⟨t, _, e2, e3⟩ := he j a (by rw [List.getElem?_eq_getElem hj, e])
            exact ⟨e3, _, s12 _ _ e2⟩
          have nin : ∀ b, H2 b = none → b ∉ D :: as := fun b hb hm => by
            rcases List.mem_cons.mp hm with z | z
            · rw [z, hd2] at hb; cases hb
            · obtain ⟨_, o, e⟩ := asF b z
              rw [hb] at e; cases e
          have hpn : p ∉ D :: as := fun hm => by
            rcases List.mem_cons.mp hm with z | z
            · exact hdp z.symm
            · rw [(asF p z).1] at h1; cases h1
          have k := k
          unfold Ends1 at k
          rw [es] at k
          refine k _ (More R H2 (D :: as)) le' co' go' r ⟨more_old, fun b o e _ hb _ _ _ => sr _ _ _ (f5 b o (s2 _ _ e) hb), fun b hb => ?_, fun b o e => ?_⟩
            ⟨dx, D, [], [], sr _ _ _ f1, sr _ _ _ f2, sr _ _ _ f3, sr _ _ _ f4', ⟨mlc, mlg, mcg⟩, fun b o e => ?_, ⟨more_none r1 hpn, more_none (h6.free (s2.free l1)) (nin _ l1), more_none (h6.free (s2.free l2)) (nin _ l2), more_none (h6.free (s2.free l3)) (nin _ l3)⟩, ⟨as, more_new (h6.free hD) (.head _) hd2, hE.monoM fun i a t ha _ q => more_new (h6.free q.2) (.tail _ (List.mem_of_getElem? ha)) (s12 _ _ q.1)⟩, Each.nil, Each.nil, ?_⟩ ?_ (s2.free hrH2) ?_
          · rcases hb with z | z | z
            · rw [z]; exact .inr (.inr (.inr (s2.free l1)))
            · rw [z]; exact .inr (.inr (.inr (s2.free l2)))
            · rw [z]; exact .inr (.inr (.inr (s2.free l3)))
          · rcases more_inv e with z | ⟨z, _⟩
            · exact .inl z
            · refine .inr ?_
              rcases List.mem_cons.mp z with y | y
              · rw [y]; exact hD
              · exact (asF b y).1
          · rcases more_inv e with z | ⟨z, y⟩
            · exact sr _ _ _ (f5 b o (s2 _ _ (h6 _ _ z)) (fun q => by rw [q, r1] at z; cases z))
            · exact sr _ _ _ (f5 b o y (fun q => hpn (by rw [← q]; exact z)))
          · have := hok.step (.begins ts)
            rw [es] at this
            exact this
          · exact TabM.kp ht fun b o e _ n2 => sr _ _ _ (f5 b o (s2 _ _ e) (fun z => n2 _ _ _ (by rw [z, h1] at e; cases e; rfl)))
          · rw [upd_same, List.length_map, hl]
            rfl
end
end Pf
namespace Pf
open PySem PySem.Spec PyProof.Rows L2
def spCome (cs : Cs) : Sp := fun vs H Q _ => ∃ (p le co go la ca : Addr) (R : Hp) (P : Sx61.Plan) (m : Nat) (b : Bool) (ms ks : List Nat), vs = [.ref p, .int (Int.ofNat m), .int (Int.ofNat (Mx.b2n b)), .ref la, .ref ca] ∧ PlanA cs R H p le co go P ∧ TabM cs.tab H ∧
  R la = some (.lst (Nv ms)) ∧ R ca = some (.lst (Nv ks)) ∧ ms.length + ks.length ≤ 26 ∧ Ends1 cs R H p le co go P (.come ⟨m, b, ms, ks.map Mx.costN⟩) Q
structure TxC (K : Frag) (mg : Str → Option Value) (cs : Cs) : Prop where
  p : TxP K mg cs.pl
  co : TxCo K cs.co
  mgC : mg "Coming" = some (.ref cs.co)
  list : mg "list" = none
section
variable {P : Program} {w : World} {K : Frag} {mg : Str → Option Value} {base : Heap}
theorem upto_nv (f n : Nat) : (upto (Int.ofNat f) (Int.ofNat f + (n : Nat))).map V.int = Nv ((List.range n).map fun i => f + i) := by
  unfold upto Nv
  have e : (Int.ofNat f + (n : Nat) - Int.ofNat f).toNat = n := by
    show ((f : Int) + (n : Int) - (f : Int)).toNat = n
    omega
  rw [e, List.map_map, List.map_map]
  exact List.map_congr_left fun i _ => rfl
theorem told_lists (v : Int) (l : List (List Nat)) : Sx61Neutral.told ⟨v, l⟩ = v :: rowsOut l := rfl
theorem first_snoc {p : Sx61.Plan} {c : Sx61.Coming} {k : Nat} (h : k ≤ p.comings.length) : ({ p with comings := p.comings ++ [c] } : Sx61.Plan).first k = p.first k := by
  unfold Sx61.Plan.first
  rw [List.take_append_of_le_length h]
theorem costs_back (ks : List Nat) : (ks.map Mx.costN).map costOut = ks := by
  rw [List.map_map]
  conv => rhs; rw [← List.map_id ks]
  exact List.map_congr_left fun k _ => costOut_in k
theorem scCome : FnScope ["self", "minute", "side", "lengths", "costs", "first", "parts"] ["self", "minute", "side", "lengths", "costs"] (defScope sCome) := ⟨rfl, rfl, rfl, by decide +kernel, rfl, by decide +kernel, by decide +kernel⟩
theorem ok_come {f fL fC fW fI : Addr} {cs : Cs} {fd fdL fdC fdW fdI : FuncData} (F : Fun K "come" "Plan.come" sCome f fd) (T : TxC K mg cs)
    (FL : Fun K "are_lengths" "are_lengths" sLens fL fdL) (bL : Binds K fdL ["numbers"] []) (mL : mg "are_lengths" = some (.ref fL))
    (FC : Fun K "are_costs" "are_costs" sCosts fC fdC) (bC : Binds K fdC ["numbers"] []) (mC : mg "are_costs" = some (.ref fC))
    (FW : Fun K "with_lists" "with_lists" sWith fW fdW) (bW : Binds K fdW ["number", "rows"] []) (mW : mg "with_lists" = some (.ref fW))
    (M : Mk K cs.co fI) (FI : Fun K "__init__" "Coming.__init__" sCoI fI fdI) (bI : Binds K fdI ["self", "minute", "side", "parts", "costs"] []) : FnOk P w K mg base CX0 3 f fd ["self", "minute", "side", "lengths", "costs"] (spCome cs) := by
  have GL : FnOk P w K mg base CX0 1 fL fdL ["numbers"] spLens := ok_lens FL T.p.h
  have GC : FnOk P w K mg base CX0 1 fC fdC ["numbers"] spCosts := ok_costs FC T.p.h
  have GW : FnOk P w K mg base CX0 1 fW fdW ["number", "rows"] spWith := ok_with FW T.p.h
  have GI : FnOk P w K mg base CX0 1 fI fdI ["self", "minute", "side", "parts", "costs"] (spI4 cs.co "minute" "side" "parts" "costs") := ok_coI FI T.co.cl T.co.nm T.co.ns T.co.np T.co.nc
  obtain ⟨u1, g1⟩ := T.p.gWR
  obtain ⟨u2, g2⟩ := T.p.gLA
  obtain ⟨u3, g3⟩ := T.p.gPA
  obtain ⟨u4, g4⟩ := T.p.gCO
  obtain ⟨u5, g5⟩ := T.p.gTM
  refine F.ok scCome (fun vs H Q E h => ?_) (fun cdv A outer s H vs Q E hr h => ?_)
  · obtain ⟨p, le, co, go, la, ca, R, Pl, m, b, ms, ks, rfl, _⟩ := h
    rfl
  · obtain ⟨p, le, co, go, la, ca, R, Pl, m, b, ms, ks, rfl, hP, ht, hla, hca, hlen, k⟩ := h
    have hr1 := hr.mono (show 1 ≤ 2 by decide)
    refine ⟨_, pss_cons (ps_if (PW.pt (pw_or (pt_cmpR op_gt (pv 1) (pe_glob (v := .int 10000) rfl g2 ⟨_, rfl⟩) (nomark _)) (pw_or (pt_not (pt_chain op_le op_le pe_int (pe_callB call_len_seq (by rfl) T.p.h.len PySem.boot_len (pa_cons (pv 3) pa_nil)) (pe_glob (v := .int 4) rfl g3 ⟨_, rfl⟩))) (pw_or1 (pt_not (pt_val (pe_call GL hr1 rfl mL FL.kp bL .nil pass0 (pa_cons (pv 3) pa_nil))))))))
          (pss_one (ps_ret (pe_lst (pa_cons (pe_glob (v := .int (-1)) rfl g1 ⟨_, rfl⟩) pa_nil)))) pss_nil)
      (pss_cons (ps_if (PW.pt (pw_or (pt_cmpR op_ne (pe_callB call_len_seq (by rfl) T.p.h.len PySem.boot_len (pa_cons (pv 4) pa_nil)) (pe_callB call_len_seq (by rfl) T.p.h.len PySem.boot_len (pa_cons (pe_fld (pv 0) rfl) pa_nil)) (nomark _)) (pw_or1 (pt_not (pt_val (pe_call GC hr1 rfl mC FC.kp bC .nil pass0 (pa_cons (pv 4) pa_nil)))))))
          (pss_one (ps_ret (pe_lst (pa_cons (pe_glob (v := .int (-1)) rfl g1 ⟨_, rfl⟩) pa_nil)))) pss_nil)
      (pss_cons (ps_if (pt_cmpR op_eq (pe_callB call_len_seq (by rfl) T.p.h.len PySem.boot_len (pa_cons (pe_fld (pv 0) rfl) pa_nil)) (pe_glob (v := .int 6) rfl g4 ⟨_, rfl⟩) (nomark _)) (pss_one (ps_ret (pe_lst (pa_cons (pe_glob (v := .int (-5)) rfl g5 ⟨_, rfl⟩) pa_nil)))) pss_nil)
      (pss_cons (ps_set (i := 5) scCome.nd rfl (Or.inl rfl) (pe_callB call_len_seq (by rfl) T.p.h.len PySem.boot_len (pa_cons (pe_fld (pv 0) rfl) pa_nil)))
      (pss_cons (ps_set (i := 6) scCome.nd rfl (Or.inl rfl) (pe_callTy (call_list_rng rfl) (by rfl) T.list PyProof.Rows.boot_list (pa_cons (pe_callTy call_range2V (by rfl) T.p.range boot_range (pa_cons (pv 5) (pa_cons (pe_op op_add (pv 5) (pe_callB call_len_seq (by rfl) T.p.h.len PySem.boot_len (pa_cons (pv 3) pa_nil))) pa_nil))) pa_nil)))
      (pss_cons (ps_expr (pe_bm PySem.F.plainAttrs_list PySem.F.slot_list_extend PySem.F.type_list_extend mt_extend (pe_fld (pv 0) rfl) (pa_cons (pv 3) pa_nil)))
      (pss_cons (ps_expr (pe_bm PySem.F.plainAttrs_list PySem.F.slot_list_append PySem.F.type_list_append mt_append (pe_fld (pv 0) rfl) (pa_cons (pe_make M GI hr rfl T.mgC bI .nil pass0 (pa_cons (pv 1) (pa_cons (pv 2) (pa_cons (pv 6) (pa_cons (pv 4) pa_nil))))) pa_nil)))
      (pss_one (ps_ret (pe_call GW hr1 rfl mW FW.kp bW .nil pass0 (pa_cons (pe_op op_sub (pe_callB call_len_seq (by rfl) T.p.h.len PySem.boot_len (pa_cons (pe_fld (pv 0) rfl) pa_nil)) pe_int) (pa_cons (pe_lst (pa_cons (pv 6) pa_nil)) pa_nil))))))))))), ?_⟩
    have hP' := hP
    obtain ⟨dx, tr, coAs, goAs, h1, h2, h3, h4, ⟨m1, m2, m3⟩, h6, ⟨r1, r2, r3, r4⟩, hT, hC, hG, hok⟩ := hP'
    obtain ⟨tas, ht1, ht2⟩ := id hT
    have es := Mx.step_come Pl m b ms ks
    have stay : ∀ (z : Int), Sx61.step Pl (.come ⟨m, b, ms, ks.map Mx.costN⟩) = (Pl, Sx61.ok z) → ∀ (H1 : Hp) (r : Addr), Same H H1 → H1 r = none → Q (.ref r) (upd H1 r (.lst [.int z])) := by
      intro z e H1 r s1 hr2
      exact k.stay hP ht (by rw [e]) s1 hr2 (by rw [e]; rfl)
    have hla' := h6 _ _ hla
    have hca' := h6 _ _ hca
    refine ⟨_, rfl, _, _, rfl, rfl, _, rfl, ?_⟩
    by_cases c1 : 10000 < m
    · rw [if_pos c1] at es
      refine iteY (decide_eq_true (show (10000 : Int) < Int.ofNat m from Int.ofNat_lt.mpr c1)) (iteT ?_)
      exact ⟨z1, fun r hr2 => stay _ es H r (Same.refl _) hr2⟩
    rw [if_neg c1] at es
    refine iteN (decide_eq_false (show ¬ (10000 : Int) < Int.ofNat m from fun z => c1 (Int.ofNat_lt.mp z))) ?_
    refine ⟨_, rfl, la, _, rfl, .inl (SqL.of hla'), _, _, rfl, rfl, _, rfl, ?_⟩
    by_cases c2 : 1 ≤ ms.length
    case neg =>
      rw [if_pos c2] at es
      refine iteN (decide_eq_false (show ¬ (1 : Int) ≤ (((Nv ms).length : Nat) : Int) by rw [nv_len]; omega)) ?_
      refine ⟨_, rfl, iteY rfl (iteT ?_)⟩
      exact ⟨z1, fun r hr2 => stay _ es H r (Same.refl _) hr2⟩
    rw [if_neg (not_not_intro c2)] at es
    refine iteY (decide_eq_true (show (1 : Int) ≤ (((Nv ms).length : Nat) : Int) by rw [nv_len]; omega)) ?_
    refine ⟨_, _, rfl, rfl, _, rfl, ?_⟩
    by_cases c3 : ms.length ≤ 4
    case neg =>
      rw [if_pos c3] at es
      refine iteY (by rw [decide_eq_false (show ¬ (((Nv ms).length : Nat) : Int) ≤ 4 by rw [nv_len]; omega)]; rfl) (iteT ?_)
      exact ⟨z1, fun r hr2 => stay _ es H r (Same.refl _) hr2⟩
    rw [if_neg (not_not_intro c3)] at es
    refine iteN (by rw [decide_eq_true (show (((Nv ms).length : Nat) : Int) ≤ 4 by rw [nv_len]; omega)]; rfl) ?_
    refine ⟨_, rfl, la, ms, rfl, hla', (by omega), fun H1 s1 => ⟨_, rfl, ?_⟩⟩
    cases c4 : ms.all fun n => decide (1 ≤ n) && decide (n ≤ 100) with
    | false =>
      rw [if_pos c4] at es
      refine iteY rfl ?_
      exact ⟨z1, fun r hr2 => stay _ es H1 r s1 hr2⟩
    | true =>
    rw [if_neg (by rw [c4]; simp)] at es
    refine iteN rfl ?_
    refine ⟨_, rfl, ca, _, rfl, .inl (SqL.of (s1 _ _ hca')), _, rfl, p, cs.pl, dx, _, _, rfl, s1 _ _ h1, T.p.cl, T.p.nt, f4_1 (by decide +kernel) (by decide +kernel) (by decide +kernel), tr, _, rfl, .inl (SqL.of (s1 _ _ (h6 _ _ ht1))), rfl, _, rfl, ?_⟩
    have etl : (tas.map V.ref).length = Pl.tracks.length := by rw [List.length_map, ht2.len]
    by_cases c5 : ks.length = Pl.tracks.length
    case neg =>
      rw [if_pos c5] at es
      refine iteY (by rw [decide_eq_false (fun z => c5 (by have := V.int.inj z; rw [nv_len, etl] at this; omega))]; rfl) (iteT ?_)
      exact ⟨z1, fun r hr2 => stay _ es H1 r s1 hr2⟩
    rw [if_neg (not_not_intro c5)] at es
    refine iteN (by rw [decide_eq_true (show V.int (((Nv ks).length : Nat) : Int) = V.int (((tas.map V.ref).length : Nat) : Int) by rw [nv_len, etl, c5])]; rfl) ?_
    refine ⟨_, rfl, ca, ks, rfl, s1 _ _ hca', (by omega), fun H2 s12 => ⟨_, rfl, ?_⟩⟩
    have s2 : Same H H2 := s1.trans s12
    cases c6 : ks.all fun n => decide (n ≤ 1001) with
    | false =>
      rw [if_pos c6] at es
      refine iteY rfl ?_
      exact ⟨z1, fun r hr2 => stay _ es H2 r s2 hr2⟩
    | true =>
    rw [if_neg (by rw [c6]; simp)] at es
    refine iteN rfl ?_
    refine ⟨_, rfl, p, cs.pl, dx, _, _, rfl, s2 _ _ h1, T.p.cl, T.p.nc, f4_3 (by decide +kernel), co, _, rfl, .inl (SqL.of (s2 _ _ h3)), rfl, _, rfl, ?_⟩
    have ecl : (coAs.map V.ref).length = Pl.comings.length := by rw [List.length_map, hC.len]
    have hc6 := hok.coms
    by_cases c7 : 6 ≤ Pl.comings.length
    · rw [if_pos c7] at es
      refine iteY (decide_eq_true (show V.int (((coAs.map V.ref).length : Nat) : Int) = V.int 6 by rw [ecl]; congr 1; omega)) ?_
      exact ⟨z1, fun r hr2 => stay _ es H2 r s2 hr2⟩
    rw [if_neg c7] at es
    refine iteN (decide_eq_false (fun z => c7 (by have := V.int.inj z; rw [ecl] at this; omega))) ?_
    refine ⟨_, rfl, p, cs.pl, dx, _, _, rfl, s2 _ _ h1, T.p.cl, T.p.nl, f4_2 (by decide +kernel) (by decide +kernel), le, _, rfl, .inl (SqL.of (s2 _ _ h2)), ?_⟩
    have hll := hok.lens
    refine ⟨_, rfl, _, rfl, _, rfl, la, _, rfl, .inl (SqL.of (s2 _ _ hla')), _, _, rfl, rfl, _, _, rfl, fun q hq => ?_⟩
    refine ⟨q, _, _, rfl, upd_same, ⟨(by rw [nv_len]; omega), (by rw [nv_len]; omega), (by rw [nv_len, nv_len]; omega), (by rw [nv_len, nv_len]; omega)⟩, (by rw [nv_len, nv_len]; omega), fun pa hpa => ?_⟩
    have eup : (upto (((Nv Pl.lengths).length : Nat) : Int) ((((Nv Pl.lengths).length : Nat) : Int) + (((Nv ms).length : Nat) : Int))).map V.int = Nv ((List.range ms.length).map fun i => Pl.lengths.length + i) := by
      rw [nv_len, nv_len]
      exact upto_nv _ _
    have s3 : Same H2 (upd (upd H2 q (.rng (((Nv Pl.lengths).length : Nat) : Int) ((((Nv Pl.lengths).length : Nat) : Int) + (((Nv ms).length : Nat) : Int)))) pa (.lst ((upto (((Nv Pl.lengths).length : Nat) : Int) ((((Nv Pl.lengths).length : Nat) : Int) + (((Nv ms).length : Nat) : Int))).map V.int))) := (same_new hq).trans (same_new hpa)
    have hpa2 : upd (upd H2 q (.rng (((Nv Pl.lengths).length : Nat) : Int) ((((Nv Pl.lengths).length : Nat) : Int) + (((Nv ms).length : Nat) : Int)))) pa (.lst ((upto (((Nv Pl.lengths).length : Nat) : Int) ((((Nv Pl.lengths).length : Nat) : Int) + (((Nv ms).length : Nat) : Int))).map V.int)) pa = some (.lst (Nv ((List.range ms.length).map fun i => Pl.lengths.length + i))) := by rw [upd_same, eup]
    have hpaH : H pa = none := (s2.trans (same_new hq)).free hpa
    generalize upd (upd H2 q (.rng (((Nv Pl.lengths).length : Nat) : Int) ((((Nv Pl.lengths).length : Nat) : Int) + (((Nv ms).length : Nat) : Int)))) pa (.lst ((upto (((Nv Pl.lengths).length : Nat) : Int) ((((Nv Pl.lengths).length : Nat) : Int) + (((Nv ms).length : Nat) : Int))).map V.int)) = Ha at s3 hpa2 ⊢
    have sa : Same H Ha := s2.trans s3
    have npl : p ≠ le := ne_of h1 h2 (by intro z; cases z)
    have npc : p ≠ co := ne_of h1 h3 (by intro z; cases z)
    have npg : p ≠ go := ne_of h1 h4 (by intro z; cases z)
    have nla : la ≠ le := fun z => by rw [z, r2] at hla; cases hla
    refine ⟨_, rfl, p, cs.pl, dx, _, _, rfl, sa _ _ h1, T.p.cl, T.p.nl, f4_2 (by decide +kernel) (by decide +kernel), .inl ⟨rfl, _, SqL.of (sa _ _ h2)⟩, _, rfl, le, la, _, _, rfl, rfl, sa _ _ h2, sa _ _ hla', (by rw [nv_len, nv_len, sizeLine_eq]; omega), ?_⟩
    have oB : ∀ b o, Ha b = some o → b ≠ le → upd Ha le (.lst (Nv Pl.lengths ++ Nv ms)) b = some o := fun b o e hb => by rw [upd_ne hb]; exact e
    have hBle : upd Ha le (.lst (Nv Pl.lengths ++ Nv ms)) le = some (.lst (Nv (Pl.lengths ++ ms))) := by rw [upd_same, nv_app]
    have fB : ∀ b, upd Ha le (.lst (Nv Pl.lengths ++ Nv ms)) b = none → Ha b = none := fun b e => by
      cases z : Ha b with
      | none => rfl
      | some o => rw [oB b o z (fun y => by rw [y, hBle] at e; cases e)] at e; cases e
    generalize upd Ha le (.lst (Nv Pl.lengths ++ Nv ms)) = Hb at oB hBle fB ⊢
    have npa : pa ≠ le := fun z => by rw [z, h2] at hpaH; cases hpaH
    refine ⟨_, rfl, p, cs.pl, dx, _, _, rfl, oB _ _ (sa _ _ h1) npl, T.p.cl, T.p.nc, f4_3 (by decide +kernel), .inl ⟨rfl, _, SqL.of (oB _ _ (sa _ _ h3) m1.symm)⟩, _, rfl, _, rfl, _, rfl, _, rfl, fun x dx' nx ndx nex => ?_⟩
    refine ⟨x, dx', _, _, _, _, rfl, upd_same, fun Hc e1 e2 => ⟨rfl, ?_⟩⟩
    have sc : Same Hb Hc := Same.made nx ndx e2
    have hxa : Ha x = none := fB x nx
    have hxH : H x = none := sa.free hxa
    have hcoC : Hc co = some (.lst (coAs.map V.ref)) := sc _ _ (oB _ _ (sa _ _ h3) m1.symm)
    refine ⟨co, _, _, rfl, rfl, hcoC, (by rw [ecl, sizeLine_eq]; omega), ?_⟩
    have oD : ∀ b o, Hc b = some o → b ≠ co → upd Hc co (.lst (coAs.map V.ref ++ [V.ref x])) b = some o := fun b o e hb => by rw [upd_ne hb]; exact e
    have hDco : upd Hc co (.lst (coAs.map V.ref ++ [V.ref x])) co = some (.lst ((coAs ++ [x]).map V.ref)) := by rw [upd_same, List.map_append]; rfl
    have fD : ∀ b, upd Hc co (.lst (coAs.map V.ref ++ [V.ref x])) b = none → Hc b = none := fun b e => by
      cases z : Hc b with
      | none => rfl
      | some o => rw [oD b o z (fun y => by rw [y, hDco] at e; cases e)] at e; cases e
    generalize upd Hc co (.lst (coAs.map V.ref ++ [V.ref x])) = Hd at oD hDco fD ⊢
    have kD : ∀ b o, H b = some o → b ≠ le → b ≠ co → Hd b = some o := fun b o e hb1 hb2 => oD _ _ (sc _ _ (oB _ _ (sa _ _ e) hb1)) hb2
    have npa2 : pa ≠ co := fun z => by rw [z, h3] at hpaH; cases hpaH
    have hpaD : Hd pa = some (.lst (Nv ((List.range ms.length).map fun i => Pl.lengths.length + i))) := oD _ _ (sc _ _ (oB _ _ hpa2 npa)) npa2
    have nxc : x ≠ co := fun z => by rw [z, h3] at hxH; cases hxH
    have hxD : Hd x = some (.ins cs.co dx' (f4 "minute" (V.int (Int.ofNat m)) "side" (V.int (Int.ofNat (Mx.b2n b))) "parts" (V.ref pa) "costs" (V.ref ca))) := oD _ _ e1 nxc
    have hleD : Hd le = some (.lst (Nv (Pl.lengths ++ ms))) := oD _ _ (sc _ _ hBle) m1
    have hpD : Hd p = some (.ins cs.pl dx (plF tr le co go)) := kD _ _ h1 npl npc
    refine ⟨_, rfl, p, cs.pl, dx, _, _, rfl, hpD, T.p.cl, T.p.nc, f4_3 (by decide +kernel), co, _, rfl, .inl (SqL.of hDco), _, _, rfl, rfl, _, rfl, z1, fun q2 hq2 => ?_⟩
    refine ⟨q2, _, [pa], [(List.range ms.length).map fun i => Pl.lengths.length + i], rfl, upd_same, ⟨rfl, fun i a row ha hrow => ?_⟩, ?_, fun Hf r sf hr2 hrf => ?_⟩
    · cases i with
      | zero =>
        cases ha
        cases hrow
        exact same_new hq2 _ _ hpaD
      | succ i => simp at ha
    · unfold rowsOut
      rw [List.flatMap_cons, List.flatMap_nil, List.append_nil, List.length_cons, List.length_map, List.length_map, List.length_range]
      omega
    have sF : Same Hd Hf := (same_new hq2).trans sf
    have kF : ∀ b o, H b = some o → b ≠ le → b ≠ co → Hf b = some o := fun b o e hb1 hb2 => sF _ _ (kD b o e hb1 hb2)
    have hHr : H r = none := by
      cases z : H r with
      | none => rfl
      | some o =>
        have hd1 : Hd r = none := (same_new hq2).free hr2
        by_cases y1 : r = le
        · rw [y1, hleD] at hd1; cases hd1
        · by_cases y2 : r = co
          · rw [y2, hDco] at hd1; cases hd1
          · rw [kD r o z y1 y2] at hd1; cases hd1
    have k := k
    unfold Ends1 at k
    rw [es] at k
    have hpn : ∀ b o, H b = some o → b ∉ [pa, x] := fun b o e hm => by
      rcases List.mem_cons.mp hm with z | z
      · rw [z, hpaH] at e; cases e
      · rw [List.mem_singleton.mp z, hxH] at e; cases e
    refine k Hf (More R Hf [pa, x]) le co go r ⟨more_old, fun b o e _ _ b2 b3 _ => kF b o e b2 b3, fun b hb => ?_, fun b o e => ?_⟩
      ⟨dx, tr, coAs ++ [x], goAs, sF _ _ hpD, ?_, sF _ _ hDco, kF _ _ h4 m2.symm m3.symm, ⟨m1, m2, m3⟩, fun b o e => ?_, ⟨more_none r1 (hpn _ _ h1), more_none r2 (hpn _ _ h2), more_none r3 (hpn _ _ h3), more_none r4 (hpn _ _ h4)⟩, hT.mono (Keep.of more_old), ?_, hG.mono fun _ _ _ q => q.mono (Keep.of more_old), ?_⟩ ?_ hHr ?_
    · rcases hb with z | z | z
      · exact .inl z
      · exact .inr (.inl z)
      · exact .inr (.inr (.inl z))
    · rcases more_inv e with z | ⟨z, _⟩
      · exact .inl z
      · refine .inr ?_
        rcases List.mem_cons.mp z with y | y
        · rw [y]; exact hpaH
        · rw [List.mem_singleton.mp y]; exact hxH
    · rw [Mx.lengths_snoc]
      exact sF _ _ hleD
    · rcases more_inv e with z | ⟨_, z⟩
      · exact kF b o (h6 _ _ z) (fun y => by rw [y, r2] at z; cases z) (fun y => by rw [y, r3] at z; cases z)
      · exact z
    · refine Each.snoc (hC.monoM fun i a c ha hc q => ?_) ?_
      · rw [first_snoc (Nat.le_of_lt (List.getElem?_eq_some_iff.mp hc).1)]
        exact q.mono (Keep.of more_old)
      · rw [first_snoc (Nat.le_refl _), ← Mx.lengths_len]
        refine ⟨dx', pa, ca, more_new (h6.free hxH) (.tail _ (.head _)) (sF _ _ hxD), more_new (h6.free hpaH) (.head _) (sF _ _ hpaD), ?_⟩
        rw [costs_back]
        exact more_old _ _ hca
    · have := hok.step (.come ⟨m, b, ms, ks.map Mx.costN⟩)
      rw [es] at this
      exact this
    · exact TabM.kp ht fun b o e n1 _ => kF b o e (fun z => n1 _ (by rw [z, h2] at e; cases e; rfl)) (fun z => n1 _ (by rw [z, h3] at e; cases e; rfl))
    · rw [told_lists]
      have ev : (((((coAs ++ [x]).map V.ref).length : Nat) : Int) - 1) = Sx61.num Pl.comings.length := by
        rw [List.length_map, List.length_append, hC.len]
        show ((Pl.comings.length + 1 : Nat) : Int) - 1 = (Pl.comings.length : Int)
        omega
      rw [← ev]
      exact hrf
end
end Pf
namespace Pf
open PySem PySem.Spec PyProof.Rows L2
theorem once_len (l : List Int) : ∀ acc : List Int, (l.foldl step_dedup acc).length ≤ acc.length + l.length ∧ ((l.foldl step_dedup acc).length = acc.length + l.length ↔ l.Nodup ∧ ∀ x ∈ l, x ∉ acc) := by
  induction l with
  | nil => intro acc; exact ⟨by simp, by simp⟩
  | cons a l ih =>
    intro acc
    rw [List.foldl_cons]
    by_cases h : acc.any (· == a) = true
    · rw [show step_dedup acc a = acc from by unfold step_dedup; rw [if_pos h]]
      obtain ⟨y, hy, e⟩ := List.any_eq_true.mp h
      have e : y = a := eq_of_beq e
      subst e
      obtain ⟨i1, _⟩ := ih acc
      refine ⟨by rw [List.length_cons]; omega, ⟨fun z => ?_, fun z => absurd hy (z.2 y (.head _))⟩⟩
      rw [List.length_cons] at z
      omega
    · rw [show step_dedup acc a = acc ++ [a] from by unfold step_dedup; rw [if_neg h]]
      have ha : a ∉ acc := fun z => h (List.any_eq_true.mpr ⟨a, z, by simp⟩)
      obtain ⟨i1, i2⟩ := ih (acc ++ [a])
      rw [List.length_append] at i1 i2
      refine ⟨by rw [List.length_cons]; simp only [List.length_singleton] at i1; omega, ?_⟩
      rw [List.length_cons]
      have e : acc.length + [a].length + l.length = acc.length + (l.length + 1) := by simp only [List.length_singleton]; omega
      rw [e] at i2
      refine i2.trans ⟨fun ⟨z1, z2⟩ => ⟨List.nodup_cons.mpr ⟨fun y => z2 a y (by simp), z1⟩, fun x hx => ?_⟩, fun ⟨z1, z2⟩ => ⟨(List.nodup_cons.mp z1).2, fun x hx => ?_⟩⟩
      · rcases List.mem_cons.mp hx with y | y
        · rw [y]; exact ha
        · exact fun q => z2 x y (List.mem_append.mpr (.inl q))
      · intro q
        rcases List.mem_append.mp q with y | y
        · exact z2 x (.tail _ hx) y
        · rw [List.mem_singleton.mp y] at hx
          exact (List.nodup_cons.mp z1).1 hx
theorem ofNat_nodup {l : List Nat} : (l.map Int.ofNat).Nodup ↔ l.Nodup := by
  rw [List.nodup_iff_pairwise_ne, List.pairwise_map, List.nodup_iff_pairwise_ne]
  constructor
  · exact fun h => h.imp fun q e => q (by rw [e])
  · exact fun h => h.imp fun q e => q (Int.ofNat.inj e)
theorem once_nv (l : List Nat) : (oncePy (l.map Int.ofNat)).length = l.length ↔ l.Nodup := by
  have := (once_len (l.map Int.ofNat) []).2
  rw [List.length_nil, Nat.zero_add, List.length_map] at this
  unfold oncePy
  rw [this, ofNat_nodup]
  exact ⟨fun z => z.1, fun z => ⟨z, fun _ _ y => by cases y⟩⟩
theorem once_le (l : List Nat) : (oncePy (l.map Int.ofNat)).length ≤ l.length := by
  have := (once_len (l.map Int.ofNat) []).1
  rw [List.length_nil, Nat.zero_add, List.length_map] at this
  exact this
def spAlr (cs : Cs) : Sp := fun vs H Q _ => ∃ (p le co go : Addr) (R : Hp) (P : Sx61.Plan) (i : Nat), vs = [.ref p, .int (Int.ofNat i)] ∧ PlanA cs R H p le co go P ∧ ∀ H' : Hp, Same H H' → Q (.bl (P.goings.any fun h => h.parts.contains i)) H'
structure TxG (K : Frag) (mg : Str → Option Value) (cs : Cs) : Prop where
  p : TxP K mg cs.pl
  go : Cls K cs.go
  gm : NoAttr K cs.go "minute"
  gs : NoAttr K cs.go "side"
  gp : NoAttr K cs.go "parts"
  mgG : mg "Going" = some (.ref cs.go)
  set : mg "set" = none
  max : mg "max" = none
section
variable {P : Program} {w : World} {K : Frag} {mg : Str → Option Value} {base : Heap}
theorem PlanA.same {cs : Cs} {R H H' : Hp} {p le co go : Addr} {Pl : Sx61.Plan} (s : Same H H') (h : PlanA cs R H p le co go Pl) : PlanA cs R H' p le co go Pl := by
  obtain ⟨dx, tr, coAs, goAs, h1, h2, h3, h4, h5, h6, h7⟩ := h
  exact ⟨dx, tr, coAs, goAs, s _ _ h1, s _ _ h2, s _ _ h3, s _ _ h4, h5, h6.trans s, h7⟩
theorem scAlr : FnScope ["self", "part", "train"] ["self", "part"] (defScope sAlready) := ⟨rfl, rfl, rfl, by decide +kernel, rfl, by decide +kernel, by decide +kernel⟩
theorem ok_alr {f : Addr} {cs : Cs} {fd : FuncData} (F : Fun K "goes_already" "Plan.goes_already" sAlready f fd) (T : TxG K mg cs) : FnOk P w K mg base CX0 1 f fd ["self", "part"] (spAlr cs) := by
  refine F.ok scAlr (fun vs H Q E h => ?_) (fun cdv A outer s H vs Q E hr h => ?_)
  · obtain ⟨p, le, co, go, R, Pl, i, rfl, _⟩ := h
    rfl
  · obtain ⟨p, le, co, go, R, Pl, i0, rfl, hP, k⟩ := h
    obtain ⟨dx, tr, coAs, goAs, h1, h2, h3, h4, ⟨m1, m2, m3⟩, h6, ⟨r1, r2, r3, r4⟩, hT, hC, hG, hok⟩ := hP
    refine ⟨_, pss_one (ps_ret (pe_callB (cr_any rfl) (by rfl) T.p.h.any boot_any (pa_cons (pe_lc (own := [("train", 2)]) (te := tOp (rIn K false) (tVar 1) (tFld K (tVar 2) "parts")) rfl scAlr.nd (pi_list (pe_fld (pv 0) rfl)) (blkOk_by (by rfl)) (fun _ _ _ _ _ => by exact pg_name (i := 2) scAlr.nd rfl (Or.inl rfl) (.inr rfl)) (fun _ _ _ _ _ => by exact pts_nil)
      (fun _ _ _ _ _ => by exact pe_cmpR op_in_seq (pv 1) (pe_fld (pv 2) rfl) rfl)) pa_nil))), ?_⟩
    refine ⟨_, rfl, p, cs.pl, dx, _, _, rfl, h1, T.p.cl, T.p.ng, f4_4, go, rfl, ⟨_, SqL.of h4⟩, fun D hD => ?_⟩
    have sD : ∀ xs, Same H (upd H D (.lst xs)) := fun xs => same_new hD
    refine lc_list (K := K) (a := go) (xs := goAs.map V.ref) (fun i H' => H' = upd H D (.lst (((Pl.goings.take i).map fun h => h.parts.contains i0).map V.bl))) rfl (fun i H' _ e => by subst e; exact SqL.of (sD _ _ _ h4)) ?_ ?_
    · intro i x H' hx e
      subst e
      obtain ⟨a, ha, rfl⟩ := ref_inv hx
      obtain ⟨g, hg, dg, pa, q1, q2⟩ := hG.of ha
      have q1' := sD (((Pl.goings.take i).map fun h => h.parts.contains i0).map V.bl) _ _ (h6 _ _ q1)
      have q2' := sD (((Pl.goings.take i).map fun h => h.parts.contains i0).map V.bl) _ _ (h6 _ _ q2)
      refine ⟨rfl, yes_then ?_⟩
      refine ⟨_, rfl, _, rfl, a, cs.go, dg, _, _, rfl, q1', T.go, T.gp, f3_3, pa, _, rfl, .inl (SqL.of q2'), rfl, nv_flat _, _, upd_same, ?_, ?_⟩
      · rw [List.length_map, List.length_map, List.length_take, sizeLine_eq]
        have := hok.goes
        omega
      · show upd (upd H D _) D (.lst (_ ++ [V.bl (inV (V.int (Int.ofNat i0)) (Nv g.parts))])) = _
        rw [inV_nv, upd_upd, Mx.take_snoc hg, List.map_append, List.map_append]
        rfl
    · intro H' e
      subst e
      rw [List.length_map, hG.len, List.take_length]
      refine ⟨D, _, rfl, SqL.of upd_same, ?_⟩
      have q := k _ (sD ((Pl.goings.map fun h => h.parts.contains i0).map V.bl))
      rw [List.any_map]
      exact q
def spGo (cs : Cs) : Sp := fun vs H Q _ => ∃ (p le co go pa : Addr) (R : Hp) (P : Sx61.Plan) (m : Nat) (b : Bool) (ms : List Nat), vs = [.ref p, .int (Int.ofNat m), .int (Int.ofNat (Mx.b2n b)), .ref pa] ∧ PlanA cs R H p le co go P ∧ TabM cs.tab H ∧
  R pa = some (.lst (Nv ms)) ∧ ms.length ≤ 27 ∧ Ends1 cs R H p le co go P (.go ⟨m, b, ms⟩) Q
theorem scGo : FnScope ["self", "minute", "side", "parts", "part"] ["self", "minute", "side", "parts"] (defScope sGo) := ⟨rfl, rfl, rfl, by decide +kernel, rfl, by decide +kernel, by decide +kernel⟩
theorem ok_go {f fA fI : Addr} {cs : Cs} {fd fdA fdI : FuncData} (F : Fun K "go" "Plan.go" sGo f fd) (T : TxG K mg cs)
    (FA : Fun K "goes_already" "Plan.goes_already" sAlready fA fdA) (bA : Binds K fdA ["self", "part"] []) (mA : Meth K cs.pl "goes_already" fA)
    (M : Mk K cs.go fI) (FI : Fun K "__init__" "Going.__init__" sGoI fI fdI) (bI : Binds K fdI ["self", "minute", "side", "parts"] []) : FnOk P w K mg base CX0 3 f fd ["self", "minute", "side", "parts"] (spGo cs) := by
  have GA : FnOk P w K mg base CX0 1 fA fdA ["self", "part"] (spAlr cs) := ok_alr FA T
  have GI : FnOk P w K mg base CX0 1 fI fdI ["self", "minute", "side", "parts"] (spI3 cs.go "minute" "side" "parts") := ok_goI FI T.go T.gm T.gs T.gp
  obtain ⟨u1, g1⟩ := T.p.gWR
  obtain ⟨u2, g2⟩ := T.p.gLA
  obtain ⟨u3, g3⟩ := T.p.gNT
  obtain ⟨u4, g4⟩ := T.p.gGO
  obtain ⟨u5, g5⟩ := T.p.gTM
  obtain ⟨u6, g6⟩ := T.p.gGA
  refine F.ok scGo (fun vs H Q E h => ?_) (fun cdv A outer s H vs Q E hr h => ?_)
  · obtain ⟨p, le, co, go, pa, R, Pl, m, b, ms, rfl, _⟩ := h
    rfl
  · obtain ⟨p, le, co, go, pa, R, Pl, m, b, ms, rfl, hP, ht, hpa, hlen, k⟩ := h
    have hr1 := hr.mono (show 1 ≤ 2 by decide)
    refine ⟨_, pss_cons (ps_if (PW.pt (pw_or (pt_cmpR op_gt (pv 1) (pe_glob (v := .int 10000) rfl g2 ⟨_, rfl⟩) (nomark _)) (pw_or (pt_cmpR op_eq (pe_callB call_len_seq (by rfl) T.p.h.len PySem.boot_len (pa_cons (pv 3) pa_nil)) pe_int (nomark _))
          (pw_or1 (pt_cmpR op_ne (pe_callB call_len_setP (by rfl) T.p.h.len PySem.boot_len (pa_cons (pe_callTy (call_set_ints rfl) (by rfl) T.set PyProof.Rows.boot_set (pa_cons (pv 3) pa_nil)) pa_nil)) (pe_callB call_len_seq (by rfl) T.p.h.len PySem.boot_len (pa_cons (pv 3) pa_nil)) (nomark _))))))
          (pss_one (ps_ret (pe_lst (pa_cons (pe_glob (v := .int (-1)) rfl g1 ⟨_, rfl⟩) pa_nil)))) pss_nil)
      (pss_cons (ps_if (pt_cmpR op_ge (pe_callB (cr_max rfl) (by rfl) T.max boot_max (pa_cons (pv 3) pa_nil)) (pe_callB call_len_seq (by rfl) T.p.h.len PySem.boot_len (pa_cons (pe_fld (pv 0) rfl) pa_nil)) (nomark _)) (pss_one (ps_ret (pe_lst (pa_cons (pe_glob (v := .int (-2)) rfl g3 ⟨_, rfl⟩) pa_nil)))) pss_nil)
      (pss_cons (ps_if (pt_cmpR op_eq (pe_callB call_len_seq (by rfl) T.p.h.len PySem.boot_len (pa_cons (pe_fld (pv 0) rfl) pa_nil)) (pe_glob (v := .int 12) rfl g4 ⟨_, rfl⟩) (nomark _)) (pss_one (ps_ret (pe_lst (pa_cons (pe_glob (v := .int (-5)) rfl g5 ⟨_, rfl⟩) pa_nil)))) pss_nil)
      (pss_cons (ps_if (pt_val (pe_callB (cr_any rfl) (by rfl) T.p.h.any boot_any (pa_cons (pe_lc (own := [("part", 4)]) (te := tMeth cs.pl "goes_already" (spAlr cs) [] E0 (tVar 0) (tCons (tVar 4) tNil)) rfl scGo.nd (pi_list (pv 3)) (blkOk_by (by rfl)) (fun _ _ _ _ _ => by exact pg_name (i := 4) scGo.nd rfl (Or.inl rfl) (.inr rfl)) (fun _ _ _ _ _ => by exact pts_nil)
          (fun _ _ _ _ _ => by exact pe_meth (pv 0) T.p.cl mA GA hr1 bA .nil pass0 (pa_cons (pv 4) pa_nil))) pa_nil))) (pss_one (ps_ret (pe_lst (pa_cons (pe_glob (v := .int (-3)) rfl g6 ⟨_, rfl⟩) pa_nil)))) pss_nil)
      (pss_cons (ps_expr (pe_bm PySem.F.plainAttrs_list PySem.F.slot_list_append PySem.F.type_list_append mt_append (pe_fld (pv 0) rfl) (pa_cons (pe_make M GI hr rfl T.mgG bI .nil pass0 (pa_cons (pv 1) (pa_cons (pv 2) (pa_cons (pv 3) pa_nil)))) pa_nil)))
      (pss_one (ps_ret (pe_lst (pa_cons (pe_op op_sub (pe_callB call_len_seq (by rfl) T.p.h.len PySem.boot_len (pa_cons (pe_fld (pv 0) rfl) pa_nil)) pe_int) pa_nil)))))))), ?_⟩
    have hP' := hP
    obtain ⟨dx, tr, coAs, goAs, h1, h2, h3, h4, ⟨m1, m2, m3⟩, h6, ⟨r1, r2, r3, r4⟩, hT, hC, hG, hok⟩ := hP'
    have es := Mx.step_go Pl m b ms
    have stay : ∀ (z : Int), Sx61.step Pl (.go ⟨m, b, ms⟩) = (Pl, Sx61.ok z) → ∀ (H1 : Hp) (r : Addr), Same H H1 → H1 r = none → Q (.ref r) (upd H1 r (.lst [.int z])) := by
      intro z e H1 r s1 hr2
      exact k.stay hP ht (by rw [e]) s1 hr2 (by rw [e]; rfl)
    have hpa' := h6 _ _ hpa
    have hints : ∀ {H1 : Hp}, Same H H1 → SqL K H1 pa ((ms.map Int.ofNat).map V.int) := fun {H1} s1 => SqL.of (by rw [show (ms.map Int.ofNat).map V.int = Nv ms from nv_iv ms]; exact s1 _ _ hpa')
    refine ⟨_, rfl, _, _, rfl, rfl, _, rfl, ?_⟩
    by_cases c1 : 10000 < m
    · rw [if_pos c1] at es
      refine iteY (decide_eq_true (show (10000 : Int) < Int.ofNat m from Int.ofNat_lt.mpr c1)) (iteT ?_)
      exact ⟨z1, fun r hr2 => stay _ es H r (Same.refl _) hr2⟩
    rw [if_neg c1] at es
    refine iteN (decide_eq_false (show ¬ (10000 : Int) < Int.ofNat m from fun z => c1 (Int.ofNat_lt.mp z))) ?_
    refine ⟨_, rfl, pa, _, rfl, .inl (SqL.of hpa'), rfl, _, rfl, ?_⟩
    by_cases c2 : ms = []
    · rw [if_pos c2] at es
      refine iteY (by subst c2; rfl) (iteT ?_)
      exact ⟨z1, fun r hr2 => stay _ es H r (Same.refl _) hr2⟩
    rw [if_neg c2] at es
    have c2' : 0 < ms.length := List.length_pos_iff.mpr c2
    refine iteN (decide_eq_false (fun z => by have := V.int.inj z; rw [nv_len] at this; omega)) ?_
    refine ⟨_, rfl, pa, ms.map Int.ofNat, rfl, hints (Same.refl _), (by rw [List.length_map]; omega), fun sl hsl => ?_⟩
    have s1 : Same H (upd H sl (.set (fun k => (oncePy (ms.map Int.ofNat)).any (· == k)) (oncePy (ms.map Int.ofNat)).length)) := same_new hsl
    refine ⟨sl, _, _, rfl, upd_same, (by have := once_le ms; omega), _, rfl, pa, _, rfl, .inl (SqL.of (s1 _ _ hpa')), rfl, _, rfl, ?_⟩
    generalize upd H sl (.set (fun k => (oncePy (ms.map Int.ofNat)).any (· == k)) (oncePy (ms.map Int.ofNat)).length) = H1 at s1 ⊢
    by_cases c3 : ms.Nodup
    case neg =>
      rw [if_pos c3] at es
      refine iteY (by rw [decide_eq_false (fun z => c3 ((once_nv ms).mp (by have := V.int.inj z; rw [nv_len] at this; omega)))]; rfl) ?_
      exact ⟨z1, fun r hr2 => stay _ es H1 r s1 hr2⟩
    rw [if_neg (not_not_intro c3)] at es
    refine iteN (by rw [decide_eq_true (show V.int (((oncePy (ms.map Int.ofNat)).length : Nat) : Int) = V.int (((Nv ms).length : Nat) : Int) by rw [nv_len, (once_nv ms).mpr c3])]; rfl) ?_
    refine ⟨_, rfl, pa, ms.map Int.ofNat, rfl, hints s1, (by rw [List.length_map]; exact c2'), fun mx hmx hle => ?_⟩
    refine ⟨_, rfl, p, cs.pl, dx, _, _, rfl, s1 _ _ h1, T.p.cl, T.p.nl, f4_2 (by decide +kernel) (by decide +kernel), le, _, rfl, .inl (SqL.of (s1 _ _ h2)), _, _, rfl, rfl, _, rfl, ?_⟩
    obtain ⟨mn, hmn, rfl⟩ := List.mem_map.mp hmx
    by_cases c4 : ∀ i ∈ ms, i < Pl.lengths.length
    case neg =>
      rw [if_pos c4] at es
      refine iteY (decide_eq_true ?_) ?_
      · show (((Nv Pl.lengths).length : Nat) : Int) ≤ Int.ofNat mn
        rw [nv_len]
        refine Int.ofNat_le.mpr (Nat.le_of_not_lt fun z => c4 fun i hi => ?_)
        have := hle (Int.ofNat i) (List.mem_map.mpr ⟨i, hi, rfl⟩)
        have : i ≤ mn := Int.ofNat_le.mp this
        omega
      exact ⟨z1, fun r hr2 => stay _ es H1 r s1 hr2⟩
    rw [if_neg (not_not_intro c4)] at es
    refine iteN (decide_eq_false ?_) ?_
    · show ¬ (((Nv Pl.lengths).length : Nat) : Int) ≤ Int.ofNat mn
      rw [nv_len]
      intro z
      have : Pl.lengths.length ≤ mn := Int.ofNat_le.mp z
      have := c4 mn hmn
      omega
    refine ⟨_, rfl, p, cs.pl, dx, _, _, rfl, s1 _ _ h1, T.p.cl, T.p.ng, f4_4, go, _, rfl, .inl (SqL.of (s1 _ _ h4)), rfl, _, rfl, ?_⟩
    have egl : (goAs.map V.ref).length = Pl.goings.length := by rw [List.length_map, hG.len]
    have hg12 := hok.goes
    by_cases c5 : 12 ≤ Pl.goings.length
    · rw [if_pos c5] at es
      refine iteY (decide_eq_true (show V.int (((goAs.map V.ref).length : Nat) : Int) = V.int 12 by rw [egl]; congr 1; omega)) ?_
      exact ⟨z1, fun r hr2 => stay _ es H1 r s1 hr2⟩
    rw [if_neg c5] at es
    refine iteN (decide_eq_false (fun z => c5 (by have := V.int.inj z; rw [egl] at this; omega))) ?_
    refine ⟨_, rfl, pa, rfl, ⟨_, SqL.of (s1 _ _ hpa')⟩, fun D hD => ?_⟩
    refine lc_list (K := K) (a := pa) (xs := Nv ms) (fun i H' => Same H1 H' ∧ H' D = some (.lst (((ms.take i).map fun i => Pl.goings.any fun h => h.parts.contains i).map V.bl))) ⟨same_new hD, upd_same⟩ (fun i H' _ e => SqL.of (e.1 _ _ (s1 _ _ hpa'))) ?_ ?_
    · rintro i v H' hv ⟨sm, hDl⟩
      obtain ⟨n, hn, rfl⟩ := nv_inv hv
      refine ⟨rfl, yes_then ?_⟩
      refine ⟨_, rfl, p, dx, _, rfl, sm _ _ (s1 _ _ h1), f4_n (by decide +kernel), _, rfl, p, le, co, go, R, Pl, n, rfl, hP.same (s1.trans sm), fun H2 s2 => ?_⟩
      refine ⟨_, s2 _ _ hDl, ?_, fun y o e => ?_, ?_⟩
      · rw [List.length_map, List.length_map, List.length_take, sizeLine_eq]
        omega
      · rw [upd_ne (ne_of_none e hD)]
        exact s2 _ _ (sm _ _ e)
      · rw [upd_same, Mx.take_snoc hn, List.map_append, List.map_append]
        rfl
    rintro H2 ⟨s12, hDl⟩
    have s2 : Same H H2 := s1.trans s12
    rw [nv_len, List.take_length] at hDl
    refine ⟨D, _, rfl, SqL.of hDl, _, rfl, ?_⟩
    rw [List.any_map]
    cases c6 : ms.any (id ∘ fun i => Pl.goings.any fun h => h.parts.contains i) with
    | true =>
      rw [if_pos (show (ms.any fun i => Pl.goings.any fun h => h.parts.contains i) = true from c6)] at es
      refine iteT ?_
      exact ⟨z1, fun r hr2 => stay _ es H2 r s2 hr2⟩
    | false =>
    rw [if_neg (show ¬ (ms.any fun i => Pl.goings.any fun h => h.parts.contains i) = true from fun z => by
      have c6' : (ms.any fun i => Pl.goings.any fun h => h.parts.contains i) = false := c6
      rw [c6'] at z; cases z)] at es
    refine iteF ?_
    have npg : p ≠ go := ne_of h1 h4 (by intro z; cases z)
    refine ⟨_, rfl, p, cs.pl, dx, _, _, rfl, s2 _ _ h1, T.p.cl, T.p.ng, f4_4, .inl ⟨rfl, _, SqL.of (s2 _ _ h4)⟩, _, rfl, _, rfl, _, rfl, fun x dx' nx ndx nex => ?_⟩
    refine ⟨x, dx', _, _, _, rfl, upd_same, fun Hc e1 e2 => ⟨rfl, ?_⟩⟩
    have sc : Same H2 Hc := Same.made nx ndx e2
    have hxH : H x = none := s2.free nx
    have hgoC : Hc go = some (.lst (goAs.map V.ref)) := sc _ _ (s2 _ _ h4)
    refine ⟨go, _, _, rfl, rfl, hgoC, (by rw [egl, sizeLine_eq]; omega), ?_⟩
    have oD : ∀ b o, Hc b = some o → b ≠ go → upd Hc go (.lst (goAs.map V.ref ++ [V.ref x])) b = some o := fun b o e hb => by rw [upd_ne hb]; exact e
    have hDgo : upd Hc go (.lst (goAs.map V.ref ++ [V.ref x])) go = some (.lst ((goAs ++ [x]).map V.ref)) := by rw [upd_same, List.map_append]; rfl
    generalize upd Hc go (.lst (goAs.map V.ref ++ [V.ref x])) = Hd at oD hDgo ⊢
    have kD : ∀ b o, H b = some o → b ≠ go → Hd b = some o := fun b o e hb => oD _ _ (sc _ _ (s2 _ _ e)) hb
    have nxg : x ≠ go := fun z => by rw [z, h4] at hxH; cases hxH
    have hxD : Hd x = some (.ins cs.go dx' (f3 "minute" (V.int (Int.ofNat m)) "side" (V.int (Int.ofNat (Mx.b2n b))) "parts" (V.ref pa))) := oD _ _ e1 nxg
    refine ⟨_, rfl, p, cs.pl, dx, _, _, rfl, kD _ _ h1 npg, T.p.cl, T.p.ng, f4_4, go, _, rfl, .inl (SqL.of hDgo), _, _, rfl, rfl, z1, fun r hr2 => ?_⟩
    have sF : ∀ xs, Same Hd (upd Hd r (.lst xs)) := fun xs => same_new hr2
    have hHr : H r = none := by
      cases z : H r with
      | none => rfl
      | some o =>
        by_cases y1 : r = go
        · rw [y1, hDgo] at hr2; cases hr2
        · rw [kD r o z y1] at hr2; cases hr2
    have k := k
    unfold Ends1 at k
    rw [es] at k
    have hpn : ∀ b o, H b = some o → b ∉ [x] := fun b o e hm => by rw [List.mem_singleton.mp hm, hxH] at e; cases e
    refine k _ (More R Hd [x]) le co go r ⟨more_old, fun b o e _ _ _ _ b4 => sF _ _ _ (kD b o e b4), fun b hb => ?_, fun b o e => ?_⟩
      ⟨dx, tr, coAs, goAs ++ [x], sF _ _ _ (kD _ _ h1 npg), sF _ _ _ (kD _ _ h2 m2), sF _ _ _ (kD _ _ h3 m3), sF _ _ _ hDgo, ⟨m1, m2, m3⟩, fun b o e => ?_, ⟨more_none r1 (hpn _ _ h1), more_none r2 (hpn _ _ h2), more_none r3 (hpn _ _ h3), more_none r4 (hpn _ _ h4)⟩, hT.mono (Keep.of more_old), hC.mono fun _ _ _ q => q.mono (Keep.of more_old), ?_, ?_⟩ ?_ hHr ?_
    · rcases hb with z | z | z
      · exact .inl z
      · exact .inr (.inl z)
      · exact .inr (.inr (.inl z))
    · rcases more_inv e with z | ⟨z, _⟩
      · exact .inl z
      · exact .inr (by rw [List.mem_singleton.mp z]; exact hxH)
    · rcases more_inv e with z | ⟨_, z⟩
      · exact sF _ _ _ (kD b o (h6 _ _ z) (fun y => by rw [y, r4] at z; cases z))
      · exact sF _ _ _ z
    · refine Each.snoc (hG.mono fun _ _ _ q => q.mono (Keep.of more_old)) ⟨dx', pa, more_new (h6.free hxH) (.head _) hxD, more_old _ _ hpa⟩
    · have := hok.step (.go ⟨m, b, ms⟩)
      rw [es] at this
      exact this
    · exact TabM.kp ht fun b o e n1 _ => sF _ _ _ (kD b o e (fun z => n1 _ (by rw [z, h4] at e; cases e; rfl)))
    · rw [upd_same]
      have ev : (((((goAs ++ [x]).map V.ref).length : Nat) : Int) - 1) = Sx61.num Pl.goings.length := by
        rw [List.length_map, List.length_append, hG.len]
        show ((Pl.goings.length + 1 : Nat) : Int) - 1 = (Pl.goings.length : Int)
        omega
      show some (HO.lst [V.int (((((goAs ++ [x]).map V.ref).length : Nat) : Int) - 1)]) = _
      rw [ev]
      rfl
end
end Pf
namespace Pf
open PySem PySem.Spec PyProof.Rows L2
def PlanV (cs : Cs) (R : Hp) (p tr le co go : Addr) (coAs goAs : List Addr) (P : Sx61.Plan) : Prop := (∃ dx : Addr, R p = some (.ins cs.pl dx (plF tr le co go))) ∧ R le = some (.lst (Nv P.lengths)) ∧ R co = some (.lst (coAs.map V.ref)) ∧ R go = some (.lst (goAs.map V.ref)) ∧
  TrksA P.tracks R tr ∧ Each (fun k a c => ComA cs.co (P.first k) c R a) coAs P.comings ∧ Each (fun _ a g => GoA cs.go g R a) goAs P.goings ∧ Mx.PlanOk P
theorem PlanV.mono {cs : Cs} {R R' : Hp} {p tr le co go : Addr} {coAs goAs : List Addr} {P : Sx61.Plan} (k : Keep R R') (h : PlanV cs R p tr le co go coAs goAs P) : PlanV cs R' p tr le co go coAs goAs P := by
  obtain ⟨⟨dx, h1⟩, h2, h3, h4, h5, h6, h7, h8⟩ := h
  exact ⟨⟨dx, k.ins h1⟩, k.lst h2, k.lst h3, k.lst h4, h5.mono k, h6.mono fun _ _ _ q => q.mono k, h7.mono fun _ _ _ q => q.mono k, h8⟩
theorem PlanA.view {cs : Cs} {R H : Hp} {p le co go : Addr} {P : Sx61.Plan} (h : PlanA cs R H p le co go P) : ∃ tr coAs goAs, PlanV cs H p tr le co go coAs goAs P := by
  obtain ⟨dx, tr, coAs, goAs, h1, h2, h3, h4, h5, h6, h7, hT, hC, hG, hok⟩ := h
  exact ⟨tr, coAs, goAs, ⟨dx, h1⟩, h2, h3, h4, hT.mono (Keep.of h6), hC.mono fun _ _ _ q => q.mono (Keep.of h6), hG.mono fun _ _ _ q => q.mono (Keep.of h6), hok⟩
def StV (tr le : Addr) (P : Sx61.Plan) (H : Hp) : Prop := TrksA P.tracks H tr ∧ H le = some (.lst (Nv P.lengths)) ∧ Mx.PlanOk P
theorem StV.mono {tr le : Addr} {P : Sx61.Plan} {H H' : Hp} (k : Keep H H') (h : StV tr le P H) : StV tr le P H' := ⟨h.1.mono k, k.lst h.2.1, h.2.2⟩
theorem PlanV.st {cs : Cs} {R : Hp} {p tr le co go : Addr} {coAs goAs : List Addr} {P : Sx61.Plan} (h : PlanV cs R p tr le co go coAs goAs P) : StV tr le P R := ⟨h.2.2.2.2.1, h.2.1, h.2.2.2.2.2.2.2⟩
def spDo (cs : Cs) : Sp := fun vs H Q _ => ∃ (a ma ch tr le ro : Addr) (P : Sx61.Plan) (trs : List Nat) (s : Sx61.Stand) (m : Sx61.Move), vs = [.ref a, .ref ma, .ref ch] ∧ StV tr le P H ∧ StaA cs.st tr le ro s H a ∧ MvA cs.mv cs.co cs.go P m H ma ∧
  H ch = some (.lst (Nv trs)) ∧ Sx61.rowOk P trs = true ∧ m ∈ P.moves ∧ (∃ done, Mx.StandOk P done s) ∧
  ∀ (H' : Hp) (r : Addr), (∀ b o, H b = some o → b ≠ ro → H' b = some o) → StaA cs.st tr le ro (afterS s (P.does trs s m)) H' a → H' r = some (.lst (outV (P.does trs s m))) → Q (.ref r) H'
structure TxD (K : Frag) (mg : Str → Option Value) (cs : Cs) : Prop where
  p : TxP K mg cs.pl
  s : TxS K mg cs.st cs.co cs.go
  mv : Cls K cs.mv
  vk : NoAttr K cs.mv "kind"
  vn : NoAttr K cs.mv "number"
  vt : NoAttr K cs.mv "train"
  gCOMES : ∃ u, mg "COMES" = some (.int 0 u)
theorem nodup_short : ∀ {n : Nat} {l : List Nat}, l.Nodup → (∀ i ∈ l, i < n) → l.length ≤ n
  | 0, l, _, hl => by
    cases l with
    | nil => exact Nat.le_refl _
    | cons x l => exact absurd (hl x (.head _)) (Nat.not_lt_zero _)
  | n + 1, l, h, hl => by
    by_cases c : n ∈ l
    · have e1 := List.length_erase_of_mem c
      have e2 := nodup_short (n := n) (l := l.erase n) (h.erase n) fun i hi => by
        have h1 := (List.Nodup.mem_erase_iff h).mp hi
        have h2 := hl i h1.2
        have h3 := h1.1
        omega
      omega
    · have e2 := nodup_short (n := n) h fun i hi => by
        have h2 := hl i hi
        have h3 : i ≠ n := fun z => c (by rw [← z]; exact hi)
        omega
      omega
theorem rowOk_len {P : Sx61.Plan} {trs : List Nat} (h : Sx61.rowOk P trs = true) : trs.length = P.comings.length ∧ ∀ t ∈ trs, t < P.tracks.length := by
  unfold Sx61.rowOk at h
  rw [Bool.and_eq_true, List.all_eq_true] at h
  exact ⟨by simpa using h.1, fun t ht => of_decide_eq_true (h.2 t ht)⟩
theorem planOk_lens {P : Sx61.Plan} (h : Mx.PlanOk P) : P.lengths.length ≤ 24 := h.lens
section
variable {P : Program} {w : World} {K : Frag} {mg : Str → Option Value} {base : Heap}
theorem scDo : FnScope ["self", "move", "chosen"] ["self", "move", "chosen"] (defScope sDo) := ⟨rfl, rfl, rfl, by decide +kernel, rfl, by decide +kernel, by decide +kernel⟩
theorem ok_do {f fB fT : Addr} {cs : Cs} {fd fdB fdT : FuncData} (F : Fun K "do_move" "Standing.do_move" sDo f fd) (T : TxD K mg cs)
    (GB : FnOk P w K mg base CX0 2 fB fdB ["self", "train", "track"] (spBring cs.st cs.co)) (bB : Binds K fdB ["self", "train", "track"] []) (mB : Meth K cs.st "bring" fB)
    (GT : FnOk P w K mg base CX0 2 fT fdT ["self", "train"] (spTake cs.st cs.go)) (bT : Binds K fdT ["self", "train"] []) (mT : Meth K cs.st "take" fT) : FnOk P w K mg base CX0 3 f fd ["self", "move", "chosen"] (spDo cs) := by
  obtain ⟨u0, g0⟩ := T.gCOMES
  refine F.ok scDo (fun vs H Q E h => ?_) (fun cdv A outer s H vs Q E hr h => ?_)
  · obtain ⟨a, ma, ch, tr, le, ro, Pl, trs, s, m, rfl, _⟩ := h
    rfl
  · obtain ⟨a, ma, ch, tr, le, ro, Pl, trs, st, m, rfl, ⟨hT, h2, hok⟩, hS, ⟨dm, ta, hm, hA⟩, hch, hro, hmm, ⟨done, hso⟩, k⟩ := h
    refine ⟨_, pss_cons (ps_if (pt_cmpR op_eq (pe_fld (pv 1) rfl) (pe_glob (v := .int 0) rfl g0 ⟨_, rfl⟩) (nomark _))
        (pss_one (ps_ret (pe_meth (pv 0) T.s.st.cl mB GB hr bB .nil pass0 (pa_cons (pe_fld (pv 1) rfl) (pa_cons (pe_ix ix_list (pv 2) (pe_fld (pv 1) rfl) (fun _ _ => rfl)) pa_nil))))) pss_nil)
      (pss_one (ps_ret (pe_meth (pv 0) T.s.st.cl mT GT hr bT .nil pass0 (pa_cons (pe_fld (pv 1) rfl) pa_nil)))), ?_⟩
    have hS' := hS
    obtain ⟨ds, ras, s1, s2, s3, s4⟩ := hS'
    obtain ⟨tl, tt⟩ := rowOk_len hro
    have hrow : ∀ r ∈ st, r.Nodup ∧ ∀ i ∈ r, i < Pl.lengths.length := fun r hr1 => ⟨(hso.row r hr1).1, fun i hi => by
      obtain ⟨k', _, hk⟩ := (hso.row r hr1).2 i hi
      exact Mx.partsOf_lt hk⟩
    have hl24 := planOk_lens hok
    have hrl : ∀ r ∈ st, r.length ≤ 500 := fun r hr1 => by
      have := nodup_short (hrow r hr1).1 (hrow r hr1).2
      omega
    refine ⟨_, rfl, ma, cs.mv, dm, _, _, rfl, hm, T.mv, T.vk, f3_1 (by decide +kernel) (by decide +kernel), rfl, _, rfl, ?_⟩
    cases m with
    | come n =>
      refine iteY rfl ?_
      have hn := Mx.come_mem hmm
      obtain ⟨c, hc, hcA⟩ := hA
      obtain ⟨t, ht⟩ : ∃ t, trs[n]? = some t := ⟨_, List.getElem?_eq_getElem (by rw [tl]; exact hn)⟩
      have htl := tt t (List.mem_of_getElem? ht)
      have hcm := hok.com c (List.mem_of_getElem? hc)
      refine ⟨_, rfl, a, ds, _, rfl, s1, f3_n (by decide +kernel), _, rfl, ma, cs.mv, dm, _, _, rfl, hm, T.mv, T.vt, f3_3, _, rfl, _, rfl, ma, cs.mv, dm, _, _, rfl, hm, T.mv, T.vn, f3_2 (by decide +kernel), ch, _, _, _, rfl, rfl, SqL.of hch, atI_nat (nv_at ht), ?_⟩
      exact ⟨a, tr, le, ro, ta, Pl, trs, st, n, t, c, rfl, hS, hT, h2, hcA, hc, by rw [List.getD_eq_getElem?_getD, ht]; rfl, htl, hso.len, hcm.2.2.2.1, hcm.2.2.1, ⟨fun r hr1 => ⟨hrl r hr1, (hrow r hr1).2⟩⟩, k⟩
    | go n =>
      refine iteN rfl ?_
      have hn := Mx.go_mem hmm
      obtain ⟨g, hg, hgA⟩ := hA
      have hgm := hok.go g (List.mem_of_getElem? hg)
      refine ⟨_, rfl, a, ds, _, rfl, s1, f3_n (by decide +kernel), _, rfl, ma, cs.mv, dm, _, _, rfl, hm, T.mv, T.vt, f3_3, ?_⟩
      have hgl := nodup_short hgm.2.2.1 hgm.2.2.2
      exact ⟨a, tr, le, ro, ta, Pl, trs, st, n, g, rfl, hS, hT, hgA, hg, hgm.2.1, by omega, hso.len, fun r hr1 => ⟨(hrow r hr1).1, hrl r hr1⟩, k⟩
def obst : Except (Sx61.Move × Sx61.Why) Sx61.Stand → List (List Nat)
  | .error e => [Sx61.moveOut e.1, [e.2.kind, e.2.what]]
  | .ok _ => []
end
end Pf
namespace Pf
open PySem PySem.Spec PyProof.Rows L2
def spFirst (cs : Cs) : Sp := fun vs H Q _ => ∃ (a D ch tr le ro : Addr) (mvAs : List Addr) (R : Hp) (P : Sx61.Plan) (trs : List Nat) (ms : List Sx61.Move), vs = [.ref a, .ref D, .ref ch] ∧ Same R H ∧ R ro = none ∧ StV tr le P R ∧ StaA cs.st tr le ro (Sx61.nothing P) H a ∧
  R D = some (.lst (mvAs.map V.ref)) ∧ Each (fun _ a m => MvA cs.mv cs.co cs.go P m R a) mvAs ms ∧ R ch = some (.lst (Nv trs)) ∧ Sx61.rowOk P trs = true ∧ ms.Nodup ∧ (∀ m ∈ ms, m ∈ P.moves) ∧
  ∀ (H' : Hp) (r : Addr) (as : List Addr), (∀ b o, H b = some o → b ≠ ro → H' b = some o) → H' r = some (.lst (as.map V.ref)) → Each (fun _ a row => H' a = some (.lst (Nv row))) as (obst (Mx.fin P trs (Sx61.nothing P) ms)) → (∀ t, Mx.fin P trs (Sx61.nothing P) ms = .ok t → StaA cs.st tr le ro t H' a) → Q (.ref r) H'
section
variable {P : Program} {w : World} {K : Frag} {mg : Str → Option Value} {base : Heap}
theorem scFirst : FnScope ["self", "moves", "chosen", "move", "hindered"] ["self", "moves", "chosen"] (defScope sFirst) := ⟨rfl, rfl, rfl, by decide +kernel, rfl, by decide +kernel, by decide +kernel⟩
theorem moveOut_eq (m : Sx61.Move) : Sx61.moveOut m = [kindOf m, numOfM m] := by cases m <;> rfl
theorem ok_first {f fM : Addr} {cs : Cs} {fd fdM : FuncData} (F : Fun K "first_obstacle" "Standing.first_obstacle" sFirst f fd) (T : TxD K mg cs)
    (GM : FnOk P w K mg base CX0 3 fM fdM ["self", "move", "chosen"] (spDo cs)) (bM : Binds K fdM ["self", "move", "chosen"] []) (mM : Meth K cs.st "do_move" fM) : FnOk P w K mg base CX0 4 f fd ["self", "moves", "chosen"] (spFirst cs) := by
  refine F.ok scFirst (fun vs H Q E h => ?_) (fun cdv A outer s H vs Q E hr h => ?_)
  · obtain ⟨a, D, ch, tr, le, ro, mvAs, R, Pl, trs, ms, rfl, _⟩ := h
    rfl
  · obtain ⟨a, D, ch, tr, le, ro, mvAs, R, Pl, trs, ms, rfl, sR, hro, hV, hS, hD, hE, hch, hok, hnd, hin, k⟩ := h
    refine ⟨_, pss_cons (ps_for PassesOwn.never rfl (pi_list (pv 1)) (pg_name (i := 3) scFirst.nd rfl (Or.inl rfl))
        (pss_cons (ps_set (i := 4) scFirst.nd rfl (Or.inl rfl) (pe_meth (pv 0) T.s.st.cl mM GM hr bM .nil pass0 (pa_cons (pv 3) (pa_cons (pv 2) pa_nil))))
          (pss_one (ps_if (pt_cmpR op_gt (pe_callB call_len_seq (by rfl) T.p.h.len PySem.boot_len (pa_cons (pv 4) pa_nil)) pe_int (nomark _)) (pss_one (ps_ret (pe_lst (pa_cons (pe_lst (pa_cons (pe_fld (pv 3) rfl) (pa_cons (pe_fld (pv 3) rfl) pa_nil))) (pa_cons (pv 4) pa_nil))))) pss_nil))))
      (pss_one (ps_ret (pe_lst pa_nil))), ?_⟩
    refine ⟨_, rfl, D, rfl, ⟨_, SqL.of (sR _ _ hD)⟩, for_list (K := K) (a := D) (xs := mvAs.map V.ref) (fun i σ H' => (∃ v4 v5, σ = [some (.ref a), some (.ref D), some (.ref ch), v4, v5]) ∧ (∀ b o, H b = some o → b ≠ ro → H' b = some o) ∧ ∃ st, StaA cs.st tr le ro st H' a ∧ Mx.Ran Pl trs ms i st)
      ⟨⟨none, none, rfl⟩, fun b o e _ => e, _, hS, Mx.Ran.start _ _ _⟩ (fun i σ H' _ e => SqL.of (e.2.1 _ _ (sR _ _ hD) (fun z => by rw [z, hro] at hD; cases hD))) ?_ ?_⟩
    · rintro i x σ H' hx ⟨⟨v4, v5, rfl⟩, kp, st, hst, hran⟩
      obtain ⟨ma, hma, rfl⟩ := ref_inv hx
      obtain ⟨m, hm, hmA⟩ := hE.of hma
      have sR' : Same R H' := fun b o e => kp b o (sR b o e) (fun z => by rw [z, hro] at e; cases e)
      have hmv := hmA
      obtain ⟨dm, ta, hdm, _⟩ := hmA
      obtain ⟨ds, ras, q1, q2, q3, q4⟩ := id hst
      refine ⟨_, rfl, a, ds, _, rfl, q1, f3_n (by decide +kernel), _, rfl, _, rfl, ?_⟩
      refine ⟨a, ma, ch, tr, le, ro, Pl, trs, st, m, rfl, hV.mono (Keep.of sR'), hst, hmv.mono (Keep.of sR'), sR' _ _ hch, hok, hin m (List.mem_of_getElem? hm), ⟨_, hran.ok⟩, fun H2 r k2 hst2 hr2 => ?_⟩
      refine ⟨_, rfl, r, _, rfl, .inl (SqL.of hr2), _, _, rfl, rfl, _, rfl, ?_⟩
      have kp2 : ∀ b o, H b = some o → b ≠ ro → H2 b = some o := fun b o e hb => k2 b o (kp b o e hb) hb
      cases hd : Pl.does trs st m with
      | error w =>
        rw [hd] at hst2 hr2
        refine iteY rfl ?_
        have sR2 : Same R H2 := fun b o e => kp2 b o (sR b o e) (fun z => by rw [z, hro] at e; cases e)
        refine ⟨_, rfl, ma, cs.mv, dm, _, _, rfl, sR2 _ _ hdm, T.mv, T.vk, f3_1 (by decide +kernel) (by decide +kernel), _, rfl, ma, cs.mv, dm, _, _, rfl, sR2 _ _ hdm, T.mv, T.vn, f3_2 (by decide +kernel), z2, fun q hq => ?_⟩
        refine ⟨_, rfl, z2, fun r2 hr3 => ?_⟩
        have ef := hran.stop hm hd
        have s3 : Same H2 (upd H2 q (.lst [V.int (Int.ofNat (kindOf m)), V.int (Int.ofNat (numOfM m))])) := same_new hq
        have s4 : Same (upd H2 q (.lst [V.int (Int.ofNat (kindOf m)), V.int (Int.ofNat (numOfM m))])) (upd (upd H2 q (.lst [V.int (Int.ofNat (kindOf m)), V.int (Int.ofNat (numOfM m))])) r2 (.lst [V.ref q, V.ref r])) := same_new hr3
        refine k _ r2 [q, r] (fun b o e hb => s4 _ _ (s3 _ _ (kp2 b o e hb))) upd_same ?_ (fun t e => by rw [ef] at e; cases e)
        rw [ef]
        refine ⟨rfl, fun j b row h1 h2 => ?_⟩
        match j with
        | 0 =>
          cases h1
          cases h2
          rw [moveOut_eq]
          exact s4 _ _ upd_same
        | 1 =>
          cases h1
          cases h2
          exact s4 _ _ (s3 _ _ hr2)
        | j + 2 => cases h1
      | ok t =>
        rw [hd] at hst2 hr2
        refine iteN rfl ?_
        exact ⟨⟨_, _, rfl⟩, kp2, t, hst2, hran.next hnd hm hd⟩
    · rintro σ H' ⟨⟨v4, v5, rfl⟩, kp, st, hst, hran⟩
      have el : (mvAs.map V.ref).length = ms.length := by rw [List.length_map, hE.len]
      rw [el] at hran
      have ef := hran.last
      refine ⟨Nat.zero_le _, fun r hr2 => ?_⟩
      have s2 : Same H' (upd H' r (.lst [])) := same_new hr2
      refine k _ r [] (fun b o e hb => s2 _ _ (kp b o e hb)) upd_same ?_ (fun t e => ?_)
      · rw [ef]
        exact Each.nil
      · rw [ef] at e
        cases e
        exact hst.mono (Keep.of s2)
end
end Pf
namespace Pf
open PySem PySem.Spec PyProof.Rows L2
def spForAll (cs : Cs) : Sp := fun vs H Q _ => ∃ (p ch tr le co go : Addr) (coAs goAs : List Addr) (P : Sx61.Plan) (trs : List Nat), vs = [.ref p, .ref ch] ∧ PlanV cs H p tr le co go coAs goAs P ∧ H ch = some (.lst (Nv trs)) ∧ trs.length ≤ 1000 ∧ ∀ H' : Hp, Same H H' → Q (.bl (Sx61.rowOk P trs)) H'
def spCostOf (cs : Cs) : Sp := fun vs H Q _ => ∃ (p ch tr le co go : Addr) (coAs goAs : List Addr) (P : Sx61.Plan) (trs : List Nat), vs = [.ref p, .ref ch] ∧ PlanV cs H p tr le co go coAs goAs P ∧ H ch = some (.lst (Nv trs)) ∧ Sx61.rowOk P trs = true ∧ Mx.Priced P trs ∧ ∀ H' : Hp, Same H H' → Q (.int (Int.ofNat (P.cost trs))) H'
structure TxE (K : Frag) (mg : Str → Option Value) (cs : Cs) : Prop where
  d : TxD K mg cs
  zip : mg "zip" = none
  sum : mg "sum" = none
section
variable {P : Program} {w : World} {K : Frag} {mg : Str → Option Value} {base : Heap}
theorem scForAll : FnScope ["self", "chosen", "track"] ["self", "chosen"] (defScope sForAll) := ⟨rfl, rfl, rfl, by decide +kernel, rfl, by decide +kernel, by decide +kernel⟩
theorem ok_forall {f : Addr} {cs : Cs} {fd : FuncData} (F : Fun K "are_tracks_for_all" "Plan.are_tracks_for_all" sForAll f fd) (T : TxE K mg cs) : FnOk P w K mg base CX0 1 f fd ["self", "chosen"] (spForAll cs) := by
  refine F.ok scForAll (fun vs H Q E h => ?_) (fun cdv A outer s H vs Q E hr h => ?_)
  · obtain ⟨p, ch, tr, le, co, go, coAs, goAs, Pl, trs, rfl, _⟩ := h
    rfl
  · obtain ⟨p, ch, tr, le, co, go, coAs, goAs, Pl, trs, rfl, ⟨⟨dx, h1⟩, h2, h3, h4, hT, hC, hG, hok⟩, hch, hlen, k⟩ := h
    obtain ⟨tas, ht1, ht2⟩ := hT
    refine ⟨_, pss_one (ps_ret (pe_and (pe_cmpR op_eq (pe_callB call_len_seq (by rfl) T.d.p.h.len PySem.boot_len (pa_cons (pv 1) pa_nil)) (pe_callB call_len_seq (by rfl) T.d.p.h.len PySem.boot_len (pa_cons (pe_fld (pv 0) rfl) pa_nil)) (nomark _))
      (pe_one (pe_callB (cr_all rfl) (by rfl) T.d.p.h.all boot_all (pa_cons (pe_lc (own := [("track", 2)]) (te := tOp (rI0 fun i j => .bl (decide (i < j))) (tVar 2) (tCB (fun xs H Q => ∃ p ys, xs = [.ref p] ∧ (SqL K H p ys ∨ SqT K H p ys) ∧ Q (.int ys.length) H) (tCons (tFld K (tVar 0) "tracks") tNil))) rfl scForAll.nd (pi_list (pv 1)) (blkOk_by (by rfl)) (fun _ _ _ _ _ => by exact pg_name (i := 2) scForAll.nd rfl (Or.inl rfl) (.inr rfl)) (fun _ _ _ _ _ => by exact pts_nil)
        (fun _ _ _ _ _ => by exact pe_cmpR op_lt (pv 2) (pe_callB call_len_seq (by rfl) T.d.p.h.len PySem.boot_len (pa_cons (pe_fld (pv 0) rfl) pa_nil)) (nomark _))) pa_nil))))), ?_⟩
    have er : Sx61.rowOk Pl trs = (decide (trs.length = Pl.comings.length) && trs.all fun t => decide (t < Pl.tracks.length)) := by
      unfold Sx61.rowOk
      rfl
    rw [er] at k
    refine ⟨_, rfl, ch, _, rfl, .inl (SqL.of hch), _, rfl, p, cs.pl, dx, _, _, rfl, h1, T.d.p.cl, T.d.p.nc, f4_3 (by decide +kernel), co, _, rfl, .inl (SqL.of h3), rfl, _, rfl, ?_⟩
    have ecl : (coAs.map V.ref).length = Pl.comings.length := by rw [List.length_map, hC.len]
    have etl : (tas.map V.ref).length = Pl.tracks.length := by rw [List.length_map, ht2.len]
    by_cases c1 : trs.length = Pl.comings.length
    case neg =>
      refine iteN (decide_eq_false (fun z => c1 (by have := V.int.inj z; rw [nv_len, ecl] at this; omega))) ?_
      have q := k H (Same.refl _)
      rw [decide_eq_false c1, Bool.false_and] at q
      exact q
    refine iteY (decide_eq_true (show V.int (((Nv trs).length : Nat) : Int) = V.int (((coAs.map V.ref).length : Nat) : Int) by rw [nv_len, ecl, c1])) ?_
    rw [decide_eq_true c1, Bool.true_and] at k
    refine ⟨_, rfl, ch, rfl, ⟨_, SqL.of hch⟩, fun D hD => ?_⟩
    have sD : ∀ xs, Same H (upd H D (.lst xs)) := fun xs => same_new hD
    refine lc_list (K := K) (a := ch) (xs := Nv trs) (fun i H' => H' = upd H D (.lst (((trs.take i).map fun n => decide (n < Pl.tracks.length)).map V.bl))) rfl (fun i H' _ e => by subst e; exact SqL.of (sD _ _ _ hch)) ?_ ?_
    · intro i x H' hx e
      subst e
      obtain ⟨n, hn, rfl⟩ := nv_inv hx
      refine ⟨rfl, yes_then ?_⟩
      refine ⟨_, rfl, _, rfl, p, cs.pl, dx, _, _, rfl, sD _ _ _ h1, T.d.p.cl, T.d.p.nt, f4_1 (by decide +kernel) (by decide +kernel) (by decide +kernel), tr, _, rfl, .inl (SqL.of (sD _ _ _ ht1)), _, _, rfl, rfl, _, upd_same, ?_, ?_⟩
      · rw [List.length_map, List.length_map, List.length_take, sizeLine_eq]
        omega
      · have e1 : decide (Int.ofNat n < (((tas.map V.ref).length : Nat) : Int)) = decide (n < Pl.tracks.length) := by
          rw [etl]
          exact decide_eq_decide.mpr Int.ofNat_lt
        rw [upd_upd, Mx.take_snoc hn, List.map_append, List.map_append]
        show upd H D (HO.lst (_ ++ [V.bl (decide (Int.ofNat n < (((tas.map V.ref).length : Nat) : Int)))])) = _
        rw [e1]
        rfl
    · intro H' e
      subst e
      rw [nv_len, List.take_length]
      refine ⟨D, _, rfl, SqL.of upd_same, ?_⟩
      have q := k _ (sD (((trs.map fun n => decide (n < Pl.tracks.length)).map V.bl)))
      rw [List.all_map]
      exact q
theorem scCostOf : FnScope ["self", "chosen", "train", "track"] ["self", "chosen"] (defScope sCostOf) := ⟨rfl, rfl, rfl, by decide +kernel, rfl, by decide +kernel, by decide +kernel⟩
theorem sum_ofNat (l : List Nat) : (l.map Int.ofNat).sum = Int.ofNat l.sum := by
  induction l with
  | nil => rfl
  | cons x l ih => rw [List.map_cons, List.sum_cons, ih, List.sum_cons]; rfl
theorem zip_at {A B : Type} {l : List A} {m : List B} {i : Nat} {x : A} {y : B} (h1 : l[i]? = some x) (h2 : m[i]? = some y) : (l.zip m)[i]? = some (x, y) := by
  rw [List.getElem?_zip_eq_some]
  exact ⟨h1, h2⟩
theorem ok_costof {f fC : Addr} {cs : Cs} {fd fdC : FuncData} (F : Fun K "cost_of" "Plan.cost_of" sCostOf f fd) (T : TxE K mg cs)
    (FC : Fun K "cost_on" "Coming.cost_on" sCost fC fdC) (bC : Binds K fdC ["self", "track"] []) (mC : Meth K cs.co "cost_on" fC) : FnOk P w K mg base CX0 2 f fd ["self", "chosen"] (spCostOf cs) := by
  have GC : FnOk P w K mg base CX0 1 fC fdC ["self", "track"] (spCost cs.co) := ok_cost FC T.d.s.co
  refine F.ok scCostOf (fun vs H Q E h => ?_) (fun cdv A outer s H vs Q E hr h => ?_)
  · obtain ⟨p, ch, tr, le, co, go, coAs, goAs, Pl, trs, rfl, _⟩ := h
    rfl
  · obtain ⟨p, ch, tr, le, co, go, coAs, goAs, Pl, trs, rfl, ⟨⟨dx, h1⟩, h2, h3, h4, hT, hC, hG, hok⟩, hch, hro, hpr, k⟩ := h
    obtain ⟨tl, tt⟩ := rowOk_len hro
    refine ⟨_, pss_one (ps_ret (pe_callB (cr_sum rfl) (by rfl) T.sum boot_sum (pa_cons (pe_lc (own := [("train", 2), ("track", 3)]) (g := gTup K 2 (gCons (gName 2) (gCons (gName 3) gNil))) (te := tMeth cs.co "cost_on" (spCost cs.co) [] E0 (tVar 2) (tCons (tVar 3) tNil)) rfl scCostOf.nd (pi_zip rfl T.zip (pa_cons (pe_fld (pv 0) rfl) (pa_cons (pv 1) pa_nil))) (blkOk_by (by rfl)) (fun _ _ _ _ _ => by exact pg_tup rfl (pgs_cons (pg_name (i := 2) scCostOf.nd rfl (Or.inl rfl) (.inr rfl)) (pgs_cons (pg_name (i := 3) scCostOf.nd rfl (Or.inl rfl) (.inr rfl)) pgs_nil))) (fun _ _ _ _ _ => by exact pts_nil)
      (fun _ _ _ _ _ => by exact pe_meth (pv 2) T.d.s.co.cl mC GC hr bC .nil pass0 (pa_cons (pv 3) pa_nil))) pa_nil))), ?_⟩
    refine ⟨_, rfl, p, cs.pl, dx, _, _, rfl, h1, T.d.p.cl, T.d.p.nc, f4_3 (by decide +kernel), _, rfl, co, ch, _, _, rfl, SqL.of h3, SqL.of hch, fun D hD => ?_⟩
    have cost1 : ∀ (x : Sx61.Coming × Nat), x ∈ Pl.comings.zip trs → (x.1.costs.getD x.2 none).isSome = true := fun x hx => by
      obtain ⟨i, hi, e⟩ := List.getElem_of_mem hx
      have e' : (Pl.comings.zip trs)[i]? = some x := by rw [List.getElem?_eq_getElem hi, e]
      obtain ⟨e1, e2⟩ := List.getElem?_zip_eq_some.mp e'
      exact hpr i _ _ e1 e2
    refine lc_zip (K := K) (a := co) (b := ch) (xs := coAs.map V.ref) (ys := Nv trs) (by rw [List.length_map, nv_len, hC.len, tl]) (fun i H' => Same H H' ∧ H' D = some (.lst (Nv (((Pl.comings.zip trs).take i).map fun x => (x.1.costs.getD x.2 none).getD 0)))) ⟨same_new hD, upd_same⟩ (fun i H' _ e => ⟨SqL.of (e.1 _ _ h3), SqL.of (e.1 _ _ hch)⟩) ?_ ?_
    · rintro i x y H' Tp hx hy ⟨sm, hd⟩ hTp
      obtain ⟨ca, hca, rfl⟩ := ref_inv hx
      obtain ⟨n, hn, rfl⟩ := nv_inv hy
      obtain ⟨c, hc, hcA⟩ := hC.of hca
      have sT : Same H' (upd H' Tp (.tup [.ref ca, .int (Int.ofNat n)])) := same_new hTp
      have hz := zip_at hc hn
      have hcost := hpr i c n hc hn
      have hcm := hok.com c (List.mem_of_getElem? hc)
      have hnl := tt n (List.mem_of_getElem? hn)
      have hcA' := hcA.mono (Keep.of (sm.trans sT))
      obtain ⟨dc, pa, cc, c1, c2, c3⟩ := id hcA'
      refine ⟨Tp, _, rfl, SqT.of upd_same, rfl, _, _, rfl, _, _, rfl, rfl, ?_⟩
      refine ⟨rfl, yes_then ?_⟩
      refine ⟨_, rfl, ca, dc, _, rfl, c1, f4_n (by decide +kernel), _, rfl, ca, Pl.first i, c, n, rfl, hcA', (by rw [hcm.2.2.2.1]; exact hnl), _, sT _ _ hd, ?_, ?_, ?_⟩
      · rw [nv_len, List.length_map, List.length_take, sizeLine_eq, List.length_zip]
        have := hok.coms
        omega
      · intro b o e
        have e2 := sT _ _ (sm b o e)
        rw [upd_ne (fun z => by rw [z, hD] at e; cases e)]
        exact e2
      · rw [upd_same, Mx.take_snoc hz, List.map_append, nv_app]
        cases e : c.costs.getD n none with
        | none => rw [e] at hcost; cases hcost
        | some z =>
          have e5 : Int.ofNat (costOut (some z)) - 1 = Int.ofNat z := by
            show ((z + 1 : Nat) : Int) - 1 = (z : Int)
            omega
          rw [e5]
          simp only [List.map_cons, List.map_nil, e]
          rfl
    · rintro H' ⟨sm, hd⟩
      have el : (coAs.map V.ref).length = (Pl.comings.zip trs).length := by rw [List.length_map, hC.len, List.length_zip, tl, Nat.min_self]
      rw [el, List.take_length] at hd
      refine ⟨D, ((Pl.comings.zip trs).map fun x => (x.1.costs.getD x.2 none).getD 0).map Int.ofNat, rfl, ?_, ?_⟩
      · rw [show (((Pl.comings.zip trs).map fun x => (x.1.costs.getD x.2 none).getD 0).map Int.ofNat).map V.int = Nv ((Pl.comings.zip trs).map fun x => (x.1.costs.getD x.2 none).getD 0) from nv_iv _]
        exact SqL.of hd
      · rw [sum_ofNat]
        exact k _ sm
end
end Pf
namespace Pf
open PySem PySem.Spec PyProof.Rows L2
def KpT (tab : Addr) (H H' : Hp) : Prop := ∀ b o, H b = some o → b ≠ tab → H' b = some o
theorem TabM.is {tab : Addr} {H : Hp} (t : TabM tab H) : ∃ ps, H tab = some (.tbl ps) := by
  rcases t with t | ⟨c, t1, t2⟩
  · exact ⟨_, t⟩
  · exact ⟨_, t1⟩
theorem KpT.keep {tab : Addr} {H H' : Hp} (t : TabM tab H) (k : KpT tab H H') : Keep H H' := fun b o e n => k b o e fun z => by
  obtain ⟨ps, t⟩ := t.is
  rw [z, t] at e
  cases e
  exact n _ rfl
theorem KpT.free {tab : Addr} {H H' : Hp} (t : TabM tab H') (k : KpT tab H H') {b : Addr} (e : H' b = none) : H b = none := by
  cases z : H b with
  | none => rfl
  | some o =>
    by_cases y : b = tab
    · obtain ⟨ps, t⟩ := t.is
      rw [y, t] at e
      cases e
    · rw [k b o z y] at e
      cases e
theorem KpT.of {tab : Addr} {H H' : Hp} (s : Same H H') : KpT tab H H' := fun b o e _ => s b o e
theorem KpT.trans {tab : Addr} {H H1 H2 : Hp} (a : KpT tab H H1) (b : KpT tab H1 H2) : KpT tab H H2 := fun c o h n => b c o (a c o h n) n
theorem Ends1.stayK {cs : Cs} {R H : Hp} {p le co go : Addr} {P : Sx61.Plan} {X : Sx61.Call} {Q : VK} (k : Ends1 cs R H p le co go P X Q) (hP : PlanA cs R H p le co go P) (ht0 : TabM cs.tab H) (hR : R cs.tab = none) (e : (Sx61.step P X).1 = P) {H1 : Hp} {r : Addr} (kp : KpT cs.tab H H1) (ht : TabM cs.tab H1)
    (hr : H r = none) (hx : H1 r = some (.lst (Iv (Sx61Neutral.told (Sx61.step P X).2)))) : Q (.ref r) H1 := by
  refine k _ R le co go r ⟨Same.refl _, fun b o e n _ _ _ _ => kp.keep ht0 b o e n, fun b hb => ?_, fun b o e => .inl e⟩ ?_ ht hr hx
  · rcases hb with z | z | z
    · exact .inl z
    · exact .inr (.inl z)
    · exact .inr (.inr (.inl z))
  · rw [e]
    obtain ⟨dx, tr, coAs, goAs, h1, h2, h3, h4, h5, h6, h7⟩ := hP
    have ky := kp.keep ht0
    exact ⟨dx, tr, coAs, goAs, ky.ins h1, ky.lst h2, ky.lst h3, ky.lst h4, h5, fun b o e => kp b o (h6 b o e) (fun z => by rw [z, hR] at e; cases e), h7⟩
theorem PlanA.sub {cs : Cs} {R H : Hp} {p le co go : Addr} {P : Sx61.Plan} (h : PlanA cs R H p le co go P) : Same R H := by
  obtain ⟨dx, tr, coAs, goAs, h1, h2, h3, h4, h5, h6, h7⟩ := h
  exact h6
def spTry (cs : Cs) : Sp := fun vs H Q _ => ∃ (p le co go ch : Addr) (R : Hp) (P : Sx61.Plan) (trs : List Nat), vs = [.ref p, .ref ch] ∧ PlanA cs R H p le co go P ∧ TabM cs.tab H ∧ R cs.tab = none ∧
  R ch = some (.lst (Nv trs)) ∧ trs.length ≤ 30 ∧ Ends1 cs R H p le co go P (.try_ trs) Q
def But (H : Hp) (x : Addr) : Hp := fun b => if b = x then none else H b
theorem but_get {H : Hp} {x b : Addr} {o : HO} (e : H b = some o) (n : b ≠ x) : But H x b = some o := by
  unfold But
  rw [if_neg n]
  exact e
theorem but_same (H : Hp) (x : Addr) : Same (But H x) H := fun b o e => by
  unfold But at e
  split at e
  · cases e
  · exact e
theorem but_none (H : Hp) (x : Addr) : But H x x = none := if_pos rfl
theorem nothing_of {P : Sx61.Plan} {xs : List V} (h : xs.length = P.tracks.length) : (xs.map fun _ => ([] : List Nat)) = Sx61.nothing P := by
  unfold Sx61.nothing
  rw [List.map_const', List.map_const', h]
structure TxF (K : Frag) (mg : Str → Option Value) (cs : Cs) : Prop where
  e : TxE K mg cs
  mgS : mg "Standing" = some (.ref cs.st)
section
variable {P : Program} {w : World} {K : Frag} {mg : Str → Option Value} {base : Heap}
theorem scTry : FnScope ["self", "chosen", "standing", "obstacle"] ["self", "chosen"] (defScope sTry) := ⟨rfl, rfl, rfl, by decide +kernel, rfl, by decide +kernel, by decide +kernel⟩
theorem ok_try {f fA fO fM fW fI fC : Addr} {cs : Cs} {fd fdA fdO fdM fdW fdI fdC : FuncData} (F : Fun K "try_tracks" "Plan.try_tracks" sTry f fd) (T : TxF K mg cs)
    (GA : FnOk P w K mg base CX0 1 fA fdA ["self", "chosen"] (spForAll cs)) (bA : Binds K fdA ["self", "chosen"] []) (mA : Meth K cs.pl "are_tracks_for_all" fA)
    (GO : FnOk P w K mg base CX0 4 fO fdO ["self", "moves", "chosen"] (spFirst cs)) (bO : Binds K fdO ["self", "moves", "chosen"] []) (mO : Meth K cs.st "first_obstacle" fO)
    (GM : FnOk P w K mg base CX0 3 fM fdM ["coming", "going"] (spMoves cs.co cs.go cs.mv cs.tab)) (bM : Binds K fdM ["coming", "going"] []) (mM : mg "moves_in_order" = some (.ref fM)) (kM : PySem.W.keepIn K (.ref fM) = true)
    (FW : Fun K "with_lists" "with_lists" sWith fW fdW) (bW : Binds K fdW ["number", "rows"] []) (mW : mg "with_lists" = some (.ref fW))
    (M : Mk K cs.st fI) (FI : Fun K "__init__" "Standing.__init__" sStI fI fdI) (bI : Binds K fdI ["self", "tracks", "lengths"] [])
    (GC : FnOk P w K mg base CX0 2 fC fdC ["self", "chosen"] (spCostOf cs)) (bC : Binds K fdC ["self", "chosen"] []) (mC : Meth K cs.pl "cost_of" fC) : FnOk P w K mg base CX0 5 f fd ["self", "chosen"] (spTry cs) := by
  have GW : FnOk P w K mg base CX0 1 fW fdW ["number", "rows"] spWith := ok_with FW T.e.d.p.h
  have GI : FnOk P w K mg base CX0 1 fI fdI ["self", "tracks", "lengths"] (spStI cs.st) := ok_stI FI T.e.d.s.st
  obtain ⟨u1, g1⟩ := T.e.d.p.gWR
  obtain ⟨u6, g6⟩ := T.e.d.p.gNW
  refine F.ok scTry (fun vs H Q E h => ?_) (fun cdv A outer s H vs Q E hr h => ?_)
  · obtain ⟨p, le, co, go, ch, R, Pl, trs, rfl, _⟩ := h
    rfl
  · obtain ⟨p, le, co, go, ch, R, Pl, trs, rfl, hP, ht, hRt, hch, hlen, k⟩ := h
    have hr1 := hr.mono (show 1 ≤ 4 by decide)
    have hr2 := hr.mono (show 2 ≤ 4 by decide)
    have hr3 := hr.mono (show 3 ≤ 4 by decide)
    refine ⟨_, pss_cons (ps_if (pt_not (pt_val (pe_meth (pv 0) T.e.d.p.cl mA GA hr1 bA .nil pass0 (pa_cons (pv 1) pa_nil)))) (pss_one (ps_ret (pe_lst (pa_cons (pe_glob (v := .int (-1)) rfl g1 ⟨_, rfl⟩) pa_nil)))) pss_nil)
      (pss_cons (ps_set (i := 2) scTry.nd rfl (Or.inl rfl) (pe_make M GI hr2 rfl T.mgS bI .nil pass0 (pa_cons (pe_fld (pv 0) rfl) (pa_cons (pe_fld (pv 0) rfl) pa_nil))))
      (pss_cons (ps_set (i := 3) scTry.nd rfl (Or.inl rfl) (pe_meth (pv 2) T.e.d.s.st.cl mO GO hr bO .nil pass0 (pa_cons (pe_call GM hr3 rfl mM kM bM .nil pass0 (pa_cons (pe_fld (pv 0) rfl) (pa_cons (pe_fld (pv 0) rfl) pa_nil))) (pa_cons (pv 1) pa_nil))))
      (pss_cons (ps_if (pt_cmpR op_gt (pe_callB call_len_seq (by rfl) T.e.d.p.h.len PySem.boot_len (pa_cons (pv 3) pa_nil)) pe_int (nomark _)) (pss_one (ps_ret (pe_call GW hr1 rfl mW FW.kp bW .nil pass0 (pa_cons (pe_glob (v := .int (-6)) rfl g6 ⟨_, rfl⟩) (pa_cons (pv 3) pa_nil))))) pss_nil)
      (pss_one (ps_ret (pe_lst (pa_cons (pe_meth (pv 0) T.e.d.p.cl mC GC hr2 bC .nil pass0 (pa_cons (pv 1) pa_nil)) pa_nil))))))), ?_⟩
    obtain ⟨tr, coAs, goAs, hV⟩ := hP.view
    have hV' := hV
    obtain ⟨⟨dx, h1⟩, h2, h3, h4, hT, hC, hG, hok⟩ := hV'
    obtain ⟨tas, ht1, ht2⟩ := id hT
    have hch' : H ch = some (.lst (Nv trs)) := hP.sub _ _ hch
    have es := Mx.step_try Pl trs
    have f0 : (plF tr le co go).lookup ("are_tracks_for_all" : Str) = none := f4_n (by decide +kernel)
    have f2 : (plF tr le co go).lookup ("cost_of" : Str) = none := f4_n (by decide +kernel)
    refine ⟨_, rfl, p, dx, _, rfl, h1, f0, _, rfl, p, ch, tr, le, co, go, coAs, goAs, Pl, trs, rfl, hV, hch', (by omega), fun H1 s1 => ⟨_, rfl, ?_⟩⟩
    cases hro : Sx61.rowOk Pl trs with
    | false =>
      rw [if_pos hro] at es
      refine iteY rfl ?_
      exact ⟨z1, fun r hr4 => k.stay hP ht (by rw [es]) s1 hr4 (by rw [es]; rfl)⟩
    | true =>
    rw [if_neg (by rw [hro]; simp)] at es
    refine iteN rfl ?_
    refine ⟨_, rfl, p, cs.pl, dx, _, _, rfl, s1 _ _ h1, T.e.d.p.cl, T.e.d.p.nt, f4_1 (by decide +kernel) (by decide +kernel) (by decide +kernel), _, rfl, p, cs.pl, dx, _, _, rfl, s1 _ _ h1, T.e.d.p.cl, T.e.d.p.nl, f4_2 (by decide +kernel) (by decide +kernel), fun x dx' nx ndx nex => ?_⟩
    have nxt : tr ≠ x := ne_of_none (s1 _ _ ht1) nx
    have nxt' : tr ≠ dx' := ne_of_none (s1 _ _ ht1) ndx
    refine ⟨x, dx', tr, le, _, rfl, upd_same, (by rw [upd_ne nxt, upd_ne nxt']; exact s1 _ _ ht1), (by rw [List.length_map, ht2.len]; have := hok.tracks; omega), fun H2 ro nro hSt e2 => ⟨rfl, ?_⟩⟩
    have s2 : Same H1 H2 := Same.made nx ndx e2
    have s02 : Same H H2 := s1.trans s2
    have nro1 : H1 ro = none := by
      cases z : H1 ro with
      | none => rfl
      | some o =>
        rw [upd_ne (ne_of_none z nx), upd_ne (ne_of_none z ndx), z] at nro
        cases nro
    rw [nothing_of (P := Pl) (by rw [List.length_map, ht2.len])] at hSt
    obtain ⟨ds, ras, st1, st2, st3, st4⟩ := id hSt
    have ht2' : TabM cs.tab H2 := TabM.same s02 ht
    refine ⟨_, rfl, x, ds, _, rfl, st1, f3_n (by decide +kernel), _, rfl, p, cs.pl, dx, _, _, rfl, s02 _ _ h1, T.e.d.p.cl, T.e.d.p.nc, f4_3 (by decide +kernel), _, rfl, p, cs.pl, dx, _, _, rfl, s02 _ _ h1, T.e.d.p.cl, T.e.d.p.ng, f4_4, ?_⟩
    refine ⟨co, go, coAs, goAs, Pl, H, rfl, Keep.of s02, s02 _ _ h3, s02 _ _ h4, hC, hG, (by have := hok.coms; omega), (by have := hok.goes; omega), ht2', fun H3 D mvAs kp3 ht3 hD2 hD3 hE3 => ?_⟩
    have ky3 : Keep H2 H3 := KpT.keep ht2' kp3
    have kp03 : KpT cs.tab H H3 := (KpT.of s02).trans kp3
    have ky03 : Keep H H3 := kp03.keep ht
    have ro3 : H3 ro = some (.lst (ras.map V.ref)) := ky3.lst st2
    have nH : H ro = none := s1.free nro1
    have kB : Keep H (But H3 ro) := fun b o e n => but_get (ky03 b o e n) (ne_of_none e nH)
    refine ⟨_, rfl, x, D, ch, tr, le, ro, mvAs, But H3 ro, Pl, trs, Pl.moves, rfl, but_same _ _, but_none _ _, (hV.mono kB).st, hSt.mono ky3, but_get hD3 (fun z => by rw [z, st2] at hD2; cases hD2), hE3.mono (fun _ a m q => by
      obtain ⟨dm, t, q1, q2⟩ := q
      exact ⟨dm, t, but_get q1 (fun z => by rw [z, ro3] at q1; cases q1), q2.mono kB⟩), kB.lst hch', hro, Mx.moves_nodup Pl, fun m hm => hm, fun H4 r as kp4 hr4 hE4 hok4 => ?_⟩
    have kp04 : KpT cs.tab H H4 := fun b o e n => kp4 b o (kp03 b o e n) (ne_of_none e nH)
    have ht4 : TabM cs.tab H4 := TabM.kp ht3 fun b o e n1 _ => kp4 b o e fun z => n1 _ (by rw [z, ro3] at e; cases e; rfl)
    refine ⟨_, rfl, r, _, rfl, .inl (SqL.of hr4), _, _, rfl, rfl, _, rfl, ?_⟩
    cases hf : Mx.fin Pl trs (Sx61.nothing Pl) Pl.moves with
    | error e =>
      rw [hf] at hE4 es
      have el : as.length = 2 := hE4.len
      refine iteY (decide_eq_true (show (0 : Int) < (((as.map V.ref).length : Nat) : Int) by rw [List.length_map, el]; decide)) ?_
      refine ⟨_, rfl, r, _, as, _, rfl, hr4, hE4, ?_, fun H5 r2 s5 hr5 hr6 => ?_⟩
      · obtain ⟨m, w⟩ := e
        cases m <;> (show 6 ≤ 100000; decide)
      · exact k.stayK hP ht hRt (by rw [es]) (kp04.trans (KpT.of s5)) (TabM.same s5 ht4) (kp04.free ht4 hr5) (by rw [es]; exact hr6)
    | ok t =>
      rw [hf] at hE4 es
      have el : as.length = 0 := hE4.len
      refine iteN (decide_eq_false (show ¬ (0 : Int) < (((as.map V.ref).length : Nat) : Int) by rw [List.length_map, el]; decide)) ?_
      have ky04 : Keep H H4 := kp04.keep ht
      refine ⟨_, rfl, p, dx, _, rfl, ky04.ins h1, f2, _, rfl, p, ch, tr, le, co, go, coAs, goAs, Pl, trs, rfl, hV.mono ky04, ky04.lst hch', hro, Mx.priced_of hf, fun H5 s5 => ?_⟩
      refine ⟨z1, fun r2 hr5 => ?_⟩
      have s56 : Same H5 (upd H5 r2 (.lst [V.int (Int.ofNat (Pl.cost trs))])) := same_new hr5
      exact k.stayK hP ht hRt (by rw [es]) (kp04.trans (KpT.of (s5.trans s56))) (TabM.same (s5.trans s56) ht4) (kp04.free ht4 (s5.free hr5)) (by rw [es]; exact upd_same)
end
end Pf
namespace Pf
open PySem PySem.Spec PyProof.Rows L2
abbrev sAns : Stmt := top 53
def spTo (cs : Cs) (Ca : Addr) : Sp := fun vs H Q _ => ∃ (p le co go x : Addr) (R : Hp) (P : Sx61.Plan) (c : List (List Int)) (b : Nat) (X : Sx61.Call), vs = [.ref p, .ref x] ∧ PlanA cs R H p le co go P ∧ TabM cs.tab H ∧ R cs.tab = none ∧ CallA Ca c b R x ∧ Mx.Means c X ∧ Ends1 cs R H p le co go P X Q
def spAns (tab : Addr) (K : Frag) : Sp := fun vs H Q _ => ∃ (ca : Addr) (ns : List Int) (cl : List (List (List Int))) (Xs : List Sx61.Call), vs = [.ref ca] ∧ SqL K H ca (Iv ns) ∧ ns.length ≤ 100000 ∧ Mx.Asked ns cl Xs ∧ H tab = some (.tbl #[]) ∧
  ∀ (H' : Hp) (r : Addr), H' r = some (.lst (Iv (PySx61.answers ns))) → Q (.ref r) H'
theorem PlanA.other {cs : Cs} {R H : Hp} {p le co go t : Addr} {P : Sx61.Plan} {o : HO} (h : PlanA cs R H p le co go P) (n1 : t ≠ p) (n2 : t ≠ le) (n3 : t ≠ co) (n4 : t ≠ go) (hR : R t = none) : PlanA cs R (upd H t o) p le co go P := by
  obtain ⟨dx, tr, coAs, goAs, h1, h2, h3, h4, h5, h6, h7⟩ := h
  exact ⟨dx, tr, coAs, goAs, by rw [upd_ne n1.symm]; exact h1, by rw [upd_ne n2.symm]; exact h2, by rw [upd_ne n3.symm]; exact h3, by rw [upd_ne n4.symm]; exact h4, h5, fun b u e => by
    rw [upd_ne (fun z => by rw [z, hR] at e; cases e)]
    exact h6 b u e, h7⟩
theorem told_le {l : List Sx61.Call} {s : Sx61.Plan} (i : Nat) : (PyFlat.told (Mx.play s (l.take i))).length ≤ (PyFlat.told (Mx.play s l)).length := by
  conv => rhs; rw [← List.take_append_drop i l]
  rw [Mx.play_append, Mx.told_append, List.length_append]
  omega
theorem told_next {l : List Sx61.Call} {s : Sx61.Plan} {i : Nat} {X : Sx61.Call} (h : l[i]? = some X) : PyFlat.told (Mx.play s (l.take (i + 1))) = PyFlat.told (Mx.play s (l.take i)) ++ ((Sx61Neutral.told (Sx61.step (Mx.behind s (l.take i)) X).2).length : Int) :: Sx61Neutral.told (Sx61.step (Mx.behind s (l.take i)) X).2 := by
  rw [Mx.take_snoc h, Mx.play_append, Mx.told_append]
  congr 1
  exact Mx.told_one _
theorem behind_next {l : List Sx61.Call} {s : Sx61.Plan} {i : Nat} {X : Sx61.Call} (h : l[i]? = some X) : Mx.behind s (l.take (i + 1)) = (Sx61.step (Mx.behind s (l.take i)) X).1 := by
  rw [Mx.take_snoc h, Mx.behind_snoc]
structure TxA (K : Frag) (mg : Str → Option Value) (cs : Cs) : Prop where
  p : TxP K mg cs.pl
  mgP : mg "Plan" = some (.ref cs.pl)
section
variable {P : Program} {w : World} {K : Frag} {mg : Str → Option Value} {base : Heap}
theorem scAns : FnScope ["calls", "plan", "told", "call", "answered"] ["calls"] (defScope sAns) := ⟨rfl, rfl, rfl, by decide +kernel, rfl, by decide +kernel, by decide +kernel⟩
theorem ok_answers {f fT fR fI Ca : Addr} {cs : Cs} {fd fdT fdR fdI : FuncData} {k : Nat} (F : Fun K "answers" "answers" sAns f fd) (T : TxA K mg cs) (hk : 4 ≤ k)
    (GT : FnOk P w K mg base CX0 k fT fdT ["plan", "call"] (spTo cs Ca)) (bT : Binds K fdT ["plan", "call"] []) (mT : mg "answer_to" = some (.ref fT)) (kT : PySem.W.keepIn K (.ref fT) = true)
    (GR : FnOk P w K mg base CX0 4 fR fdR ["calls"] (spReads K Ca)) (bR : Binds K fdR ["calls"] []) (mR : mg "read_calls" = some (.ref fR)) (kR : PySem.W.keepIn K (.ref fR) = true)
    (M : Mk K cs.pl fI) (FI : Fun K "__init__" "Plan.__init__" sPlI fI fdI) (bI : Binds K fdI ["self"] []) : FnOk P w K mg base CX0 (k + 1) f fd ["calls"] (spAns cs.tab K) := by
  have GI : FnOk P w K mg base CX0 1 fI fdI ["self"] (spPlI cs.pl) := ok_plI FI T.p
  refine F.ok scAns (fun vs H Q E h => ?_) (fun cdv A outer s H vs Q E hr h => ?_)
  · obtain ⟨ca, ns, cl, Xs, rfl, _⟩ := h
    rfl
  · obtain ⟨ca, ns, cl, Xs, rfl, hS, hl, hA, htab, kk⟩ := h
    have hr4 := hr.mono (show 4 ≤ k from hk)
    have hr2 := hr.mono (show 2 ≤ k by omega)
    refine ⟨_, pss_cons (ps_set (i := 1) scAns.nd rfl (Or.inl rfl) (pe_make0 M GI hr2 rfl T.mgP bI .nil pass0))
      (pss_cons (ps_set (i := 2) scAns.nd rfl (Or.inl rfl) (pe_lst pa_nil))
      (pss_cons (ps_for PassesOwn.never rfl (pi_list (pe_call GR hr4 rfl mR kR bR .nil pass0 (pa_cons (pv 0) pa_nil))) (pg_name (i := 3) scAns.nd rfl (Or.inl rfl))
        (pss_cons (ps_set (i := 4) scAns.nd rfl (Or.inl rfl) (pe_call GT hr rfl mT kT bT .nil pass0 (pa_cons (pv 1) (pa_cons (pv 3) pa_nil))))
        (pss_cons (ps_expr (pe_bm PySem.F.plainAttrs_list PySem.F.slot_list_append PySem.F.type_list_append mt_append (pv 2) (pa_cons (pe_callB call_len_seq (by rfl) T.p.h.len PySem.boot_len (pa_cons (pv 4) pa_nil)) pa_nil)))
        (pss_one (ps_expr (pe_bm PySem.F.plainAttrs_list PySem.F.slot_list_extend PySem.F.type_list_extend mt_extend (pv 2) (pa_cons (pv 4) pa_nil)))))))
      (pss_one (ps_ret (pv 2))))), ?_⟩
    intro p dx np ndx nex
    refine ⟨p, dx, rfl, upd_same, fun H1 tr le co go e1 e2 e3 e4 e5 m1 m2 m3 m4 m5 m6 n1 n2 n3 n4 kp1 => ⟨rfl, ?_⟩⟩
    have s1 : Same H H1 := Same.made np ndx kp1
    refine ⟨Nat.zero_le _, fun t hT => ?_⟩
    have s2 : Same H1 (upd H1 t (.lst [])) := same_new hT
    have ht2 : upd H1 t (.lst []) t = some (.lst []) := upd_same
    generalize upd H1 t (.lst []) = H2 at s2 ht2 ⊢
    have s02 := s1.trans s2
    refine ⟨_, rfl, ca, ns, cl, rfl, s02.seq hS, hl, hA.raw, (by have := hA.most; omega), fun H3 D as s3 hD hE => ?_⟩
    have s23 := s2.trans s3
    have fp : H3 p = some (.ins cs.pl dx (plF tr le co go)) := s23 _ _ e1
    have ft : H3 t = some (.lst []) := s3 _ _ ht2
    have ftab : H3 cs.tab = some (.tbl #[]) := s3 _ _ (s02 _ _ htab)
    have nle : t ≠ le := (ne_of_none e3 hT).symm
    have nco : t ≠ co := (ne_of_none e4 hT).symm
    have ngo : t ≠ go := (ne_of_none e5 hT).symm
    have ntp : t ≠ p := (ne_of_none e1 hT).symm
    have ntr : t ≠ tr := (ne_of_none e2 hT).symm
    have D2 : H2 D = none := newP_free hD
    obtain ⟨R0, r0, r1⟩ : ∃ R0 : Hp, (∀ b, b = p ∨ b = le ∨ b = co ∨ b = go ∨ b = t ∨ b = cs.tab → R0 b = none) ∧ ∀ b, ¬ (b = p ∨ b = le ∨ b = co ∨ b = go ∨ b = t ∨ b = cs.tab) → R0 b = H3 b :=
      ⟨fun b => if b = p ∨ b = le ∨ b = co ∨ b = go ∨ b = t ∨ b = cs.tab then none else H3 b, fun b h => if_pos h, fun b h => if_neg h⟩
    have sR0 : Same R0 H3 := fun b o e => by
      by_cases c : b = p ∨ b = le ∨ b = co ∨ b = go ∨ b = t ∨ b = cs.tab
      · rw [r0 b c] at e; cases e
      · rw [r1 b c] at e; exact e
    have new0 : ∀ b o, NewP H2 H3 b = some o → R0 b = some o := fun b o e => by
      have hn := newP_free e
      rw [r1 b]
      · exact newP_same _ _ _ _ e
      · rintro (z | z | z | z | z | z)
        · rw [z, s2 _ _ e1] at hn; cases hn
        · rw [z, s2 _ _ e3] at hn; cases hn
        · rw [z, s2 _ _ e4] at hn; cases hn
        · rw [z, s2 _ _ e5] at hn; cases hn
        · rw [z, ht2] at hn; cases hn
        · rw [z, s02 _ _ htab] at hn; cases hn
    have hE0 : Each (fun _ x c => ∃ b, CallA Ca c b R0 x) as cl := hE.mono fun _ x c ⟨b, q⟩ => ⟨b, q.mono (Keep.of new0)⟩
    have hD0 : R0 D = some (.lst (as.map V.ref)) := new0 _ _ hD
    have P0 : PlanA cs R0 H3 p le co go Sx61.init := by
      refine ⟨dx, tr, [], [], fp, s23 _ _ e3, s23 _ _ e4, s23 _ _ e5, ⟨m4, m5, m6⟩, sR0, ⟨r0 _ (.inl rfl), r0 _ (.inr (.inl rfl)), r0 _ (.inr (.inr (.inl rfl))), r0 _ (.inr (.inr (.inr (.inl rfl))))⟩, ⟨[], ?_, Each.nil⟩, Each.nil, Each.nil, Mx.planOk_init⟩
      rw [r1 tr]
      · exact s23 _ _ e2
      · rintro (z | z | z | z | z | z)
        · rw [z, e1] at e2; cases e2
        · exact m1 z
        · exact m2 z
        · exact m3 z
        · exact ntr z.symm
        · have := s23 _ _ e2
          rw [z, ftab] at this; cases this
    refine ⟨D, rfl, ⟨_, SqL.of (sR0 _ _ hD0)⟩, for_list (K := K) (a := D) (xs := as.map V.ref) (fun i σ H' => (∃ v3 v4, σ = [some (.ref ca), some (.ref p), some (.ref t), v3, v4]) ∧ ∃ (R : Hp) (le co go : Addr), PlanA cs R H' p le co go (Mx.behind Sx61.init (Xs.take i)) ∧ TabM cs.tab H' ∧ Same R0 R ∧ R cs.tab = none ∧ R t = none ∧ t ≠ le ∧ t ≠ co ∧ t ≠ go ∧ H' t = some (.lst (Iv (PyFlat.told (Mx.play Sx61.init (Xs.take i))))))
      ⟨⟨none, none, rfl⟩, R0, le, co, go, P0, .inl ftab, Same.refl _, r0 _ (.inr (.inr (.inr (.inr (.inr rfl))))), r0 _ (.inr (.inr (.inr (.inr (.inl rfl))))), nle, nco, ngo, ft⟩ (fun i σ H' _ ⟨_, R, _, _, _, hP, _, sR, _⟩ => SqL.of (hP.sub _ _ (sR _ _ hD0))) ?_ ?_⟩
    · rintro i x σ H' hx ⟨⟨v3, v4, rfl⟩, R, le, co, go, hP, htM, sR, hRt, hR2, nle, nco, ngo, ht⟩
      obtain ⟨xa, hxa, rfl⟩ := ref_inv hx
      obtain ⟨c, hc, b, hcA⟩ := hE0.of hxa
      obtain ⟨X, hX⟩ : ∃ X, Xs[i]? = some X := ⟨_, List.getElem?_eq_getElem (by rw [hA.len]; exact (List.getElem?_eq_some_iff.mp hc).1)⟩
      refine ⟨_, rfl, _, rfl, p, le, co, go, xa, R, _, c, b, X, rfl, hP, htM, hRt, hcA.mono (Keep.of sR), hA.means i c X hc hX, fun H4 R4 le4 co4 go4 r aft hP4 htM4 hr4 hrr => ?_⟩
      have hp' : ∃ dx fs, H' p = some (.ins cs.pl dx fs) := by
        obtain ⟨dx, tr, coAs, goAs, h1, _⟩ := hP
        exact ⟨_, _, h1⟩
      have ntp : t ≠ p := by
        obtain ⟨dx, fs, h1⟩ := hp'
        exact (ne_of h1 ht (by intro z; cases z)).symm
      have ht4 : H4 t = some (.lst (Iv (PyFlat.told (Mx.play Sx61.init (Xs.take i))))) := aft.kp t _ ht (fun _ z => by cases z) ntp nle nco ngo
      have ntr : t ≠ r := ne_of_none ht hr4
      have hsh := hA.short
      have hli := told_le (l := Xs) (s := Sx61.init) i
      have hli1 := told_le (l := Xs) (s := Sx61.init) (i + 1)
      have hnx := told_next (s := Sx61.init) hX
      have hnl := congrArg List.length hnx
      rw [List.length_append, List.length_cons] at hnl
      refine ⟨_, rfl, .inl ⟨rfl, _, SqL.of ht4⟩, _, rfl, r, _, rfl, .inl (SqL.of hrr), t, _, _, rfl, rfl, ht4, (by rw [iv_len, sizeLine_eq]; omega), ?_⟩
      refine ⟨_, rfl, .inl ⟨rfl, _, SqL.of upd_same⟩, _, rfl, t, r, _, _, rfl, rfl, upd_same, (by rw [upd_ne ntr.symm]; exact hrr), ?_, ?_⟩
      · rw [List.length_append, iv_len, iv_len, sizeLine_eq]
        show _ + 1 + _ ≤ _
        omega
      rw [upd_upd]
      have tab4 : H' cs.tab = some (.tbl _) := htM.is.choose_spec
      have nm4 : ∀ b, b = le4 ∨ b = co4 ∨ b = go4 → t ≠ b := fun b hb z => by
        rcases aft.nm b hb with y | y | y | y
        · exact nle (z.trans y)
        · exact nco (z.trans y)
        · exact ngo (z.trans y)
        · rw [← z, ht] at y; cases y
      have hRt4 : R4 cs.tab = none := by
        cases z : R4 cs.tab with
        | none => rfl
        | some o =>
          rcases aft.nr _ _ z with y | y
          · rw [hRt] at y; cases y
          · rw [tab4] at y; cases y
      have hR24 : R4 t = none := by
        cases z : R4 t with
        | none => rfl
        | some o =>
          rcases aft.nr _ _ z with y | y
          · rw [hR2] at y; cases y
          · rw [ht] at y; cases y
      refine ⟨⟨_, _, rfl⟩, R4, le4, co4, go4, ?_, ?_, sR.trans aft.sub, hRt4, hR24, nm4 _ (.inl rfl), nm4 _ (.inr (.inl rfl)), nm4 _ (.inr (.inr rfl)), ?_⟩
      · rw [behind_next hX]
        exact hP4.other ntp (nm4 _ (.inl rfl)) (nm4 _ (.inr (.inl rfl))) (nm4 _ (.inr (.inr rfl))) hR24
      · exact TabM.kp htM4 fun b o e n1 _ => by
          rw [upd_ne (fun z => n1 _ (by rw [z, ht4] at e; cases e; rfl))]
          exact e
      · rw [upd_same, hnx, iv_len]
        show some (HO.lst (_ ++ [V.int _] ++ _)) = some (HO.lst (Iv (_ ++ _ :: _)))
        unfold Iv
        rw [List.map_append, List.map_cons, List.append_assoc]
        rfl
    · rintro σ H' ⟨⟨v3, v4, rfl⟩, R, le, co, go, hP, htM, sR, hRt, hR2, nle, nco, ngo, ht⟩
      refine ⟨_, rfl, kk H' t ?_⟩
      rw [List.length_map, hE.len, ← hA.len, List.take_length] at ht
      rw [hA.due]
      exact ht
end
end Pf
namespace Pf
open PySem PySem.Spec PyProof.Rows L2
theorem once_fold (l : List Int) : ∀ acc : List Int, acc.Nodup → (l.foldl step_dedup acc).Nodup ∧ ∀ x, x ∈ l.foldl step_dedup acc ↔ x ∈ acc ∨ x ∈ l := by
  induction l with
  | nil => intro acc h; exact ⟨h, fun x => by simp⟩
  | cons a l ih =>
    intro acc hn
    rw [List.foldl_cons]
    by_cases h : acc.any (· == a) = true
    · rw [show step_dedup acc a = acc from by unfold step_dedup; rw [if_pos h]]
      obtain ⟨y, hy, e⟩ := List.any_eq_true.mp h
      have e : y = a := eq_of_beq e
      subst e
      obtain ⟨i1, i2⟩ := ih acc hn
      refine ⟨i1, fun x => ?_⟩
      rw [i2, List.mem_cons]
      constructor
      · rintro (z | z)
        · exact .inl z
        · exact .inr (.inr z)
      · rintro (z | z | z)
        · exact .inl z
        · rw [z]; exact .inl hy
        · exact .inr z
    · rw [show step_dedup acc a = acc ++ [a] from by unfold step_dedup; rw [if_neg h]]
      have ha : a ∉ acc := fun z => h (List.any_eq_true.mpr ⟨a, z, by simp⟩)
      obtain ⟨i1, i2⟩ := ih (acc ++ [a]) (List.nodup_append.mpr ⟨hn, List.nodup_cons.mpr ⟨by simp, List.nodup_nil⟩, fun x hx y hy e => ha (by rw [List.mem_singleton.mp hy] at e; rw [← e]; exact hx)⟩)
      refine ⟨i1, fun x => ?_⟩
      rw [i2, List.mem_append, List.mem_singleton, List.mem_cons, or_assoc]
theorem once_used (l : List Nat) : (oncePy (l.map Int.ofNat)).length = Sx61.used l := by
  obtain ⟨i1, i2⟩ := once_fold (l.map Int.ofNat) [] List.nodup_nil
  obtain ⟨d1, d2⟩ := Mx.dups_mem _ l (Nat.le_refl _)
  have e := Mx.nodup_len_eq (a := oncePy (l.map Int.ofNat)) (b := l.eraseDups.map Int.ofNat) i1 (ofNat_nodup.mpr d2) fun x => by
    show x ∈ (l.map Int.ofNat).foldl step_dedup [] ↔ _
    rw [i2, List.mem_map, List.mem_map]
    constructor
    · rintro (z | ⟨n, h1, h2⟩)
      · cases z
      · exact ⟨n, (d1 n).mpr h1, h2⟩
    · rintro ⟨n, h1, h2⟩
      exact .inr ⟨n, (d1 n).mp h1, h2⟩
  rw [e, List.length_map]
  rfl
end Pf
namespace Pf
open PySem PySem.Spec PyProof.Rows L2
def spStands (cs : Cs) : Sp := fun vs H Q _ => ∃ (p le co go ch : Addr) (R : Hp) (P : Sx61.Plan) (m : Nat) (trs : List Nat), vs = [.ref p, .int (Int.ofNat m), .ref ch] ∧ PlanA cs R H p le co go P ∧ TabM cs.tab H ∧ R cs.tab = none ∧
  R ch = some (.lst (Nv trs)) ∧ trs.length ≤ 30 ∧ Ends1 cs R H p le co go P (.stands m trs) Q
theorem rows_short {p : Sx61.Plan} (hok : Mx.PlanOk p) {done : List Nat} {t : Sx61.Stand} (h : Mx.StandOk p done t) : (rowsOut t).length ≤ 100000 ∧ t.length ≤ 4 ∧ ∀ r ∈ t, r.length ≤ 24 := by
  have hr : ∀ r ∈ t, r.length ≤ 24 := fun r hr => by
    have h1 := h.row r hr
    have := nodup_short (n := p.lengths.length) h1.1 fun i hi => by
      obtain ⟨k, _, hk⟩ := h1.2 i hi
      exact Mx.partsOf_lt hk
    have := hok.lens
    omega
  have hl : t.length ≤ 4 := by rw [h.len]; exact hok.tracks
  refine ⟨?_, hl, hr⟩
  have key : ∀ l : List (List Nat), (∀ r ∈ l, r.length ≤ 24) → (rowsOut l).length ≤ 25 * l.length := by
    intro l
    induction l with
    | nil => intro _; exact Nat.le_refl _
    | cons r l ih =>
      intro hl
      have h1 := ih fun r hr => hl r (.tail _ hr)
      have h2 := hl r (.head _)
      unfold rowsOut at h1 ⊢
      simp only [List.flatMap_cons, List.length_append, List.length_cons, List.length_map] at h1 ⊢
      omega
  have := key t hr
  omega
section
variable {P : Program} {w : World} {K : Frag} {mg : Str → Option Value} {base : Heap}
theorem scStands : FnScope ["self", "minute", "chosen", "moves", "standing", "obstacle", "move", "row"] ["self", "minute", "chosen"] (defScope sStands) := ⟨rfl, rfl, rfl, by decide +kernel, rfl, by decide +kernel, by decide +kernel⟩
theorem minute_of {Co Go Mv : Addr} {p : Sx61.Plan} {m : Sx61.Move} {H : Hp} {t : Addr} (T : TxM K mg Co Go Mv) (h : TrA Co Go p m H t) : ∃ C dx fs, H t = some (.ins C dx fs) ∧ Cls K C ∧ NoAttr K C "minute" ∧ fs.lookup ("minute" : Str) = some (.int (Int.ofNat (p.minuteOf m))) := by
  cases m with
  | come j =>
    obtain ⟨c, hc, dc, pa, ca, q1, q2, q3⟩ := h
    have em : p.minuteOf (.come j) = c.minute := by
      show ((p.comings[j]?).map fun g => g.minute).getD 0 = _
      rw [hc]
      rfl
    rw [em]
    exact ⟨Co, dc, _, q1, T.co.cl, T.co.nm, f4_1 (by decide +kernel) (by decide +kernel) (by decide +kernel)⟩
  | go j =>
    obtain ⟨g, hg, dg, pa, q1, q2⟩ := h
    have em : p.minuteOf (.go j) = g.minute := by
      show ((p.goings[j]?).map fun g => g.minute).getD 0 = _
      rw [hg]
      rfl
    rw [em]
    exact ⟨Go, dg, _, q1, T.go, T.gm, f3_1 (by decide +kernel) (by decide +kernel)⟩
theorem ok_stands {f fA fO fM fW fI : Addr} {cs : Cs} {fd fdA fdO fdM fdW fdI : FuncData} (F : Fun K "stands" "Plan.stands" sStands f fd) (T : TxF K mg cs) (TM : TxM K mg cs.co cs.go cs.mv)
    (GA : FnOk P w K mg base CX0 1 fA fdA ["self", "chosen"] (spForAll cs)) (bA : Binds K fdA ["self", "chosen"] []) (mA : Meth K cs.pl "are_tracks_for_all" fA)
    (GO : FnOk P w K mg base CX0 4 fO fdO ["self", "moves", "chosen"] (spFirst cs)) (bO : Binds K fdO ["self", "moves", "chosen"] []) (mO : Meth K cs.st "first_obstacle" fO)
    (GM : FnOk P w K mg base CX0 3 fM fdM ["coming", "going"] (spMoves cs.co cs.go cs.mv cs.tab)) (bM : Binds K fdM ["coming", "going"] []) (mM : mg "moves_in_order" = some (.ref fM)) (kM : PySem.W.keepIn K (.ref fM) = true)
    (FW : Fun K "with_lists" "with_lists" sWith fW fdW) (bW : Binds K fdW ["number", "rows"] []) (mW : mg "with_lists" = some (.ref fW))
    (M : Mk K cs.st fI) (FI : Fun K "__init__" "Standing.__init__" sStI fI fdI) (bI : Binds K fdI ["self", "tracks", "lengths"] []) : FnOk P w K mg base CX0 5 f fd ["self", "minute", "chosen"] (spStands cs) := by
  have GW : FnOk P w K mg base CX0 1 fW fdW ["number", "rows"] spWith := ok_with FW T.e.d.p.h
  have GI : FnOk P w K mg base CX0 1 fI fdI ["self", "tracks", "lengths"] (spStI cs.st) := ok_stI FI T.e.d.s.st
  obtain ⟨u1, g1⟩ := T.e.d.p.gWR
  obtain ⟨u2, g2⟩ := T.e.d.p.gLA
  obtain ⟨u6, g6⟩ := T.e.d.p.gNW
  refine F.ok scStands (fun vs H Q E h => ?_) (fun cdv A outer s H vs Q E hr h => ?_)
  · obtain ⟨p, le, co, go, ch, R, Pl, m, trs, rfl, _⟩ := h
    rfl
  · obtain ⟨p, le, co, go, ch, R, Pl, m, trs, rfl, hP, ht, hRt, hch, hlen, k⟩ := h
    have hr1 := hr.mono (show 1 ≤ 4 by decide)
    have hr2 := hr.mono (show 2 ≤ 4 by decide)
    have hr3 := hr.mono (show 3 ≤ 4 by decide)
    refine ⟨_, pss_cons (ps_if (PW.pt (pw_or (pt_cmpR op_gt (pv 1) (pe_glob (v := .int 10000) rfl g2 ⟨_, rfl⟩) (nomark _)) (pw_or1 (pt_not (pt_val (pe_meth (pv 0) T.e.d.p.cl mA GA hr1 bA .nil pass0 (pa_cons (pv 2) pa_nil))))))) (pss_one (ps_ret (pe_lst (pa_cons (pe_glob (v := .int (-1)) rfl g1 ⟨_, rfl⟩) pa_nil)))) pss_nil)
      (pss_cons (ps_setLc (i := 3) (own := [("move", 6)]) (tt := tTest (tOp (rI0 fun i j => .bl (decide (i ≤ j))) (tFld K (tFld K (tVar 6) "train") "minute") (tVar 1))) (te := tVar 6) rfl scStands.nd rfl rfl (sw_true rfl rfl rfl rfl) (pi_list (pe_call GM hr3 rfl mM kM bM .nil pass0 (pa_cons (pe_fld (pv 0) rfl) (pa_cons (pe_fld (pv 0) rfl) pa_nil)))) (blkOk_by (by rfl)) (fun _ _ _ _ _ => by exact pg_name (i := 6) scStands.nd rfl (Or.inl rfl) (.inr rfl))
        (fun _ _ _ _ _ => by exact pts_one (pt_cmpR op_le (pe_fld (pe_fld (pv 6) rfl) rfl) (pv 1) (nomark _))) (fun _ _ _ _ _ => by exact pv 6))
      (pss_cons (ps_set (i := 4) scStands.nd rfl (Or.inl rfl) (pe_make M GI hr2 rfl T.mgS bI .nil pass0 (pa_cons (pe_fld (pv 0) rfl) (pa_cons (pe_fld (pv 0) rfl) pa_nil))))
      (pss_cons (ps_set (i := 5) scStands.nd rfl (Or.inl rfl) (pe_meth (pv 4) T.e.d.s.st.cl mO GO hr bO .nil pass0 (pa_cons (pv 3) (pa_cons (pv 2) pa_nil))))
      (pss_cons (ps_if (pt_cmpR op_gt (pe_callB call_len_seq (by rfl) T.e.d.p.h.len PySem.boot_len (pa_cons (pv 5) pa_nil)) pe_int (nomark _)) (pss_one (ps_ret (pe_call GW hr1 rfl mW FW.kp bW .nil pass0 (pa_cons (pe_glob (v := .int (-6)) rfl g6 ⟨_, rfl⟩) (pa_cons (pv 5) pa_nil))))) pss_nil)
      (pss_one (ps_ret (pe_call GW hr1 rfl mW FW.kp bW .nil pass0 (pa_cons (pe_callB (cr_sum rfl) (by rfl) T.e.sum boot_sum (pa_cons (pe_lc (own := [("row", 7)]) (te := tCB (fun xs H Q => ∃ p ys, xs = [.ref p] ∧ (SqL K H p ys ∨ SqT K H p ys) ∧ Q (.int ys.length) H) (tCons (tVar 7) tNil)) rfl scStands.nd (pi_list (pe_fld (pv 4) rfl)) (blkOk_by (by rfl)) (fun _ _ _ _ _ => by exact pg_name (i := 7) scStands.nd rfl (Or.inl rfl) (.inr rfl)) (fun _ _ _ _ _ => by exact pts_nil)
        (fun _ _ _ _ _ => by exact pe_callB call_len_seq (by rfl) T.e.d.p.h.len PySem.boot_len (pa_cons (pv 7) pa_nil))) pa_nil)) (pa_cons (pe_fld (pv 4) rfl) pa_nil))))))))), ?_⟩
    obtain ⟨tr, coAs, goAs, hV⟩ := hP.view
    have hV' := hV
    obtain ⟨⟨dx, h1⟩, h2, h3, h4, hT, hC, hG, hok⟩ := hV'
    obtain ⟨tas, ht1, ht2⟩ := id hT
    have hch' : H ch = some (.lst (Nv trs)) := hP.sub _ _ hch
    have es := Mx.step_stands Pl m trs
    have f0 : (plF tr le co go).lookup ("are_tracks_for_all" : Str) = none := f4_n (by decide +kernel)
    refine ⟨_, rfl, _, _, rfl, rfl, _, rfl, ?_⟩
    by_cases c1 : 10000 < m
    · rw [if_pos (.inl c1)] at es
      refine iteY (decide_eq_true (show (10000 : Int) < Int.ofNat m from Int.ofNat_lt.mpr c1)) (iteT ?_)
      exact ⟨z1, fun r hr4 => k.stay hP ht (by rw [es]) (Same.refl _) hr4 (by rw [es]; rfl)⟩
    refine iteN (decide_eq_false (show ¬ (10000 : Int) < Int.ofNat m from fun z => c1 (Int.ofNat_lt.mp z))) ?_
    refine ⟨_, rfl, p, dx, _, rfl, h1, f0, _, rfl, p, ch, tr, le, co, go, coAs, goAs, Pl, trs, rfl, hV, hch', (by omega), fun H1 s1 => ⟨_, rfl, ?_⟩⟩
    cases hro : Sx61.rowOk Pl trs with
    | false =>
      rw [if_pos (.inr hro)] at es
      refine iteY rfl ?_
      exact ⟨z1, fun r hr4 => k.stay hP ht (by rw [es]) s1 hr4 (by rw [es]; rfl)⟩
    | true =>
    rw [if_neg (by rw [hro]; rintro (z | z); exact c1 z; cases z)] at es
    refine iteN rfl ?_
    have ht1' : TabM cs.tab H1 := TabM.same s1 ht
    refine ⟨_, rfl, p, cs.pl, dx, _, _, rfl, s1 _ _ h1, T.e.d.p.cl, T.e.d.p.nc, f4_3 (by decide +kernel), _, rfl, p, cs.pl, dx, _, _, rfl, s1 _ _ h1, T.e.d.p.cl, T.e.d.p.ng, f4_4, ?_⟩
    refine ⟨co, go, coAs, goAs, Pl, H, rfl, Keep.of s1, s1 _ _ h3, s1 _ _ h4, hC, hG, (by have := hok.coms; omega), (by have := hok.goes; omega), ht1', fun H2 D0 mvAs kp2 ht2' hD0 hD0' hE2 => ?_⟩
    have kp02 : KpT cs.tab H H2 := (KpT.of s1).trans kp2
    have ky02 : Keep H H2 := kp02.keep ht
    have hml : Pl.moves.length ≤ 100 := by
      have e := (Mx.moves_perm Pl).length_eq
      unfold Mx.raw at e
      rw [List.length_append, List.length_map, List.length_map, List.length_range, List.length_range] at e
      have := hok.coms
      have := hok.goes
      omega
    refine ⟨D0, rfl, ⟨_, SqL.of hD0'⟩, fun D hD => ?_⟩
    refine lc_list (K := K) (a := D0) (xs := mvAs.map V.ref) (fun i H' => Same H2 H' ∧ ∃ as : List Addr, H' D = some (.lst (as.map V.ref)) ∧ as.length ≤ i ∧ Each (fun _ a x => MvB cs.mv cs.co cs.go Pl x H H2 a) as ((Pl.moves.take i).filter fun x => decide (Pl.minuteOf x ≤ m))) ⟨same_new hD, [], upd_same, Nat.le_refl _, Each.nil⟩ (fun i H' _ e => SqL.of (e.1 _ _ hD0')) ?_ ?_
    · rintro i v H' hv ⟨sm, as, hDl, hal, hE⟩
      obtain ⟨ma, hma, rfl⟩ := ref_inv hv
      obtain ⟨x, hx, hB⟩ := hE2.of hma
      obtain ⟨dm, ta, q1, q2⟩ := id hB
      obtain ⟨C, dt, fs, t1, t2, t3, t4⟩ := minute_of TM (q2.mono ky02)
      refine ⟨rfl, ?_⟩
      refine ⟨_, rfl, ma, cs.mv, dm, _, _, rfl, sm _ _ q1, T.e.d.mv, T.e.d.vt, f3_3, ta, C, dt, _, _, rfl, sm _ _ t1, t2, t3, t4, _, rfl, _, _, rfl, rfl, _, rfl, ?_⟩
      rw [Mx.take_snoc hx, List.filter_append, List.filter_cons, List.filter_nil]
      by_cases c : Pl.minuteOf x ≤ m
      · rw [if_pos (decide_eq_true c)]
        refine iteY (decide_eq_true (show Int.ofNat (Pl.minuteOf x) ≤ Int.ofNat m from Int.ofNat_le.mpr c)) ?_
        refine ⟨_, rfl, _, hDl, ?_, ?_, as ++ [ma], ?_, ?_, hE.snoc hB⟩
        · rw [List.length_map, sizeLine_eq]
          have := (List.getElem?_eq_some_iff.mp hx).1
          omega
        · intro b o e
          rw [upd_ne (ne_of_none e hD)]
          exact sm b o e
        · rw [upd_same, List.map_append]
          rfl
        · rw [List.length_append]
          show as.length + 1 ≤ i + 1
          omega
      · rw [if_neg (by simpa using c), List.append_nil]
        refine iteN (decide_eq_false (show ¬ Int.ofNat (Pl.minuteOf x) ≤ Int.ofNat m from fun z => c (Int.ofNat_le.mp z))) ?_
        exact ⟨sm, as, hDl, Nat.le_succ_of_le hal, hE⟩
    rintro H3 ⟨s23, as, hDl, hal, hE⟩
    rw [List.length_map, hE2.len, List.take_length] at hE
    have kp03 : KpT cs.tab H H3 := kp02.trans (KpT.of s23)
    have ky03 : Keep H H3 := kp03.keep ht
    have ht3 : TabM cs.tab H3 := TabM.same s23 ht2'
    refine ⟨_, rfl, p, cs.pl, dx, _, _, rfl, ky03.ins h1, T.e.d.p.cl, T.e.d.p.nt, f4_1 (by decide +kernel) (by decide +kernel) (by decide +kernel), _, rfl, p, cs.pl, dx, _, _, rfl, ky03.ins h1, T.e.d.p.cl, T.e.d.p.nl, f4_2 (by decide +kernel) (by decide +kernel), fun x dx' nx ndx nex => ?_⟩
    have ht13 : H3 tr = some (.lst (tas.map V.ref)) := ky03.lst ht1
    have nxt : tr ≠ x := ne_of_none ht13 nx
    have nxt' : tr ≠ dx' := ne_of_none ht13 ndx
    refine ⟨x, dx', tr, le, _, rfl, upd_same, (by rw [upd_ne nxt, upd_ne nxt']; exact ht13), (by rw [List.length_map, ht2.len]; have := hok.tracks; omega), fun H4 ro nro hSt e4 => ⟨rfl, ?_⟩⟩
    have s4 : Same H3 H4 := Same.made nx ndx e4
    have nro3 : H3 ro = none := by
      cases z : H3 ro with
      | none => rfl
      | some o =>
        rw [upd_ne (ne_of_none z nx), upd_ne (ne_of_none z ndx), z] at nro
        cases nro
    rw [nothing_of (P := Pl) (by rw [List.length_map, ht2.len])] at hSt
    obtain ⟨ds, ras, st1, st2, st3, st4⟩ := id hSt
    have hnd : (Pl.moves.filter fun x => decide (Pl.minuteOf x ≤ m)).Nodup := (Mx.moves_nodup Pl).sublist List.filter_sublist
    refine ⟨_, rfl, x, ds, _, rfl, st1, f3_n (by decide +kernel), _, rfl, _, rfl, ?_⟩
    refine ⟨x, D, ch, tr, le, ro, as, H3, Pl, trs, _, rfl, s4, nro3, (hV.mono ky03).st, hSt, hDl, hE.mono (fun _ a x q => q.all (Keep.of s23) ky03), ky03.lst hch', hro, hnd, fun x hx => (List.mem_filter.mp hx).1, fun H5 r bs kp5 hr5 hE5 hok5 => ?_⟩
    have kp35 : Same H3 H5 := fun b o e => kp5 b o (s4 b o e) (ne_of_none e nro3)
    have kp05 : KpT cs.tab H H5 := kp03.trans (KpT.of kp35)
    have ht5 : TabM cs.tab H5 := TabM.same kp35 ht3
    refine ⟨_, rfl, r, _, rfl, .inl (SqL.of hr5), _, _, rfl, rfl, _, rfl, ?_⟩
    cases hf : Mx.fin Pl trs (Sx61.nothing Pl) (Pl.moves.filter fun x => decide (Pl.minuteOf x ≤ m)) with
    | error e =>
      rw [hf] at hE5 es
      have el : bs.length = 2 := hE5.len
      refine iteY (decide_eq_true (show (0 : Int) < (((bs.map V.ref).length : Nat) : Int) by rw [List.length_map, el]; decide)) ?_
      refine ⟨_, rfl, r, _, bs, _, rfl, hr5, hE5, ?_, fun H6 r2 s6 hr6 hr7 => ?_⟩
      · obtain ⟨m, w⟩ := e
        cases m <;> (show 6 ≤ 100000; decide)
      · exact k.stayK hP ht hRt (by rw [es]) (kp05.trans (KpT.of s6)) (TabM.same s6 ht5) (kp05.free ht5 hr6) (by rw [es]; exact hr7)
    | ok t =>
      rw [hf] at hE5 es
      have hSt5 := hok5 t hf
      obtain ⟨ds5, ras5, v1, v2, v3, v4⟩ := hSt5
      obtain ⟨done, hso⟩ := Mx.fin_stand hnd hf
      obtain ⟨w1, w2, w3⟩ := rows_short hok hso
      have el : bs.length = 0 := hE5.len
      refine iteN (decide_eq_false (show ¬ (0 : Int) < (((bs.map V.ref).length : Nat) : Int) by rw [List.length_map, el]; decide)) ?_
      refine ⟨_, rfl, x, cs.st, ds5, _, _, rfl, v1, T.e.d.s.st.cl, T.e.d.s.st.nr, f3_3, ro, rfl, ⟨_, SqL.of v2⟩, fun D2 hD2 => ?_⟩
      refine lc_list (K := K) (a := ro) (xs := ras5.map V.ref) (fun i H' => Same H5 H' ∧ H' D2 = some (.lst (Nv ((t.take i).map fun r => r.length)))) ⟨same_new hD2, upd_same⟩ (fun i H' _ e => SqL.of (e.1 _ _ v2)) ?_ ?_
      · rintro i v H' hv ⟨sm, hDl2⟩
        obtain ⟨ra, hra, rfl⟩ := ref_inv hv
        obtain ⟨row, hrow, hrr⟩ := v3.of hra
        refine ⟨rfl, yes_then ?_⟩
        refine ⟨_, rfl, ra, _, rfl, .inl (SqL.of (sm _ _ hrr)), _, hDl2, ?_, ?_, ?_⟩
        · rw [nv_len, List.length_map, List.length_take, sizeLine_eq]
          omega
        · intro b o e
          rw [upd_ne (ne_of_none e hD2)]
          exact sm b o e
        · rw [upd_same, Mx.take_snoc hrow, List.map_append, nv_app, nv_len]
          rfl
      rintro H6 ⟨s6, hDl6⟩
      rw [List.length_map, v3.len, List.take_length] at hDl6
      refine ⟨D2, (t.map fun r => r.length).map Int.ofNat, rfl, ?_, ?_⟩
      · rw [show ((t.map fun r => r.length).map Int.ofNat).map V.int = Nv (t.map fun r => r.length) from nv_iv _]
        exact SqL.of hDl6
      rw [sum_ofNat]
      refine ⟨_, rfl, x, cs.st, ds5, _, _, rfl, s6 _ _ v1, T.e.d.s.st.cl, T.e.d.s.st.nr, f3_3, ?_⟩
      refine ⟨ro, _, ras5, t, rfl, s6 _ _ v2, v3.mono (fun _ _ _ q => s6 _ _ q), w1, fun H7 r2 s7 hr6 hr7 => ?_⟩
      have s57 : Same H5 H7 := s6.trans s7
      exact k.stayK hP ht hRt (by rw [es]) (kp05.trans (KpT.of s57)) (TabM.same s57 ht5) (kp05.free ht5 (s6.free hr6)) (by rw [es]; exact hr7)
end
end Pf
namespace Pf
open PySem PySem.Spec PyProof.Rows L2
def spShare : Sp := fun vs H Q _ => ∃ (a b : Addr) (xs ys : List Nat), vs = [.ref a, .ref b] ∧ H a = some (.lst (Nv xs)) ∧ H b = some (.lst (Nv ys)) ∧ xs.length ≤ 1000 ∧
  ∀ H' : Hp, Same H H' → Q (.bl (xs.any fun i => ys.contains i)) H'
def spChoices : Sp := fun vs H Q _ => ∃ n k : Nat, vs = [.int (Int.ofNat n), .int (Int.ofNat k)] ∧ n ≤ 6 ∧ k ≤ 4 ∧
  ∀ (H' : Hp) (D : Addr) (as : List Addr), Same H H' → H' D = some (.lst (as.map V.ref)) → Each (fun _ a r => H' a = some (.lst (Nv r))) as (Sx61.rows k n) → Q (.ref D) H'
section
variable {P : Program} {w : World} {K : Frag} {mg : Str → Option Value} {base : Heap}
theorem scShare : FnScope ["some", "others", "part"] ["some", "others"] (defScope sShare) := ⟨rfl, rfl, rfl, by decide +kernel, rfl, by decide +kernel, by decide +kernel⟩
theorem ok_share {f : Addr} {fd : FuncData} (F : Fun K "share_a_part" "share_a_part" sShare f fd) (T : TxH K mg) : FnOk P w K mg base CX0 1 f fd ["some", "others"] spShare := by
  refine F.ok scShare (fun vs H Q E h => ?_) (fun cdv A outer s H vs Q E hr h => ?_)
  · obtain ⟨a, b, xs, ys, rfl, _⟩ := h
    rfl
  · obtain ⟨a, b, xs, ys, rfl, h1, h2, hz, k⟩ := h
    refine ⟨_, pss_one (ps_ret (pe_callB (cr_any rfl) (by rfl) T.any boot_any (pa_cons (pe_lc (own := [("part", 2)]) (te := tOp (rIn K false) (tVar 2) (tVar 1)) rfl scShare.nd (pi_list (pv 0)) (blkOk_by (by rfl)) (fun _ _ _ _ _ => by exact pg_name (i := 2) scShare.nd rfl (Or.inl rfl) (.inr rfl)) (fun _ _ _ _ _ => by exact pts_nil)
      (fun _ _ _ _ _ => by exact pe_cmpR op_in_seq (pv 2) (pv 1) rfl)) pa_nil))), ?_⟩
    refine ⟨_, rfl, a, rfl, ⟨_, SqL.of h1⟩, fun D hD => ?_⟩
    have sD : ∀ xs, Same H (upd H D (.lst xs)) := fun xs => same_new hD
    refine lc_list (K := K) (a := a) (xs := Nv xs) (fun i H' => H' = upd H D (.lst (((xs.take i).map fun n => ys.contains n).map V.bl))) rfl (fun i H' _ e => by subst e; exact SqL.of (sD _ _ _ h1)) ?_ ?_
    · intro i x H' hx e
      subst e
      obtain ⟨n, hn, rfl⟩ := nv_inv hx
      refine ⟨rfl, yes_then ?_⟩
      refine ⟨_, rfl, _, rfl, b, _, rfl, .inl (SqL.of (sD _ _ _ h2)), rfl, nv_flat _, _, upd_same, ?_, ?_⟩
      · rw [List.length_map, List.length_map, List.length_take, sizeLine_eq]
        omega
      · show upd (upd H D _) D (.lst (_ ++ [V.bl (inV (V.int (Int.ofNat n)) (Nv ys))])) = _
        rw [upd_upd, Mx.take_snoc hn, List.map_append, List.map_append, inV_nv]
        rfl
    · intro H' e
      subst e
      rw [nv_len, List.take_length]
      refine ⟨D, _, rfl, SqL.of upd_same, ?_⟩
      have q := k _ (sD ((xs.map fun n => ys.contains n).map V.bl))
      rw [List.any_map]
      exact q
theorem rows_few {n k : Nat} (hn : n ≤ 6) (hk : k ≤ 4) : (Sx61.rows k n).length ≤ 4096 := by
  rw [Mx.rows_len]
  calc k ^ n ≤ 4 ^ n := Nat.pow_le_pow_left hk n
    _ ≤ 4 ^ 6 := Nat.pow_le_pow_right (by decide) hn
    _ = 4096 := by decide
theorem flat_few {k : Nat} (l : List (List Nat)) : (l.flatMap fun r => (List.range k).map fun t => r ++ [t]).length = l.length * k := by
  induction l with
  | nil => simp
  | cons r l ih => rw [List.flatMap_cons, List.length_append, ih, List.length_map, List.length_range, List.length_cons, Nat.succ_mul, Nat.add_comm]
theorem scChoices : FnScope ["trains", "tracks", "choices", "train", "longer", "chosen", "track"] ["trains", "tracks"] (defScope sChoices) := ⟨rfl, rfl, rfl, by decide +kernel, rfl, by decide +kernel, by decide +kernel⟩
theorem Each.append {A : Type} {R : Nat → Addr → A → Prop} {as bs : List Addr} {xs ys : List A} (h : Each (fun _ a x => R 0 a x) as xs) (h' : Each (fun _ a x => R 0 a x) bs ys) : Each (fun _ a x => R 0 a x) (as ++ bs) (xs ++ ys) := by
  refine ⟨by rw [List.length_append, List.length_append, h.len, h'.len], fun i a x h1 h2 => ?_⟩
  rcases Nat.lt_or_ge i as.length with l | l
  · rw [List.getElem?_append_left l] at h1
    rw [List.getElem?_append_left (by rw [← h.len]; exact l)] at h2
    exact h.at_ i a x h1 h2
  · rw [List.getElem?_append_right l] at h1
    rw [List.getElem?_append_right (by rw [← h.len]; exact l), ← h.len] at h2
    exact h'.at_ _ a x h1 h2
theorem ok_choices {f : Addr} {fd : FuncData} (F : Fun K "all_choices" "all_choices" sChoices f fd) (hrg : mg "range" = none) : FnOk P w K mg base CX0 1 f fd ["trains", "tracks"] spChoices := by
  refine F.ok scChoices (fun vs H Q E h => ?_) (fun cdv A outer s H vs Q E hr h => ?_)
  · obtain ⟨n, k, rfl, _⟩ := h
    rfl
  · obtain ⟨n, k, rfl, hn, hk, kk⟩ := h
    refine ⟨_, pss_cons (ps_set (i := 2) scChoices.nd rfl (Or.inl rfl) (pe_lst (pa_cons (pe_lst pa_nil) pa_nil)))
      (pss_cons (ps_for PassesOwn.never rfl (pi_range1 rfl hrg (pa_cons (pv 0) pa_nil)) (pg_name (i := 3) scChoices.nd rfl (Or.inl rfl))
        (pss_cons (ps_set (i := 4) scChoices.nd rfl (Or.inl rfl) (pe_lst pa_nil))
        (pss_cons (ps_for PassesOwn.never rfl (pi_list (pv 2)) (pg_name (i := 5) scChoices.nd rfl (Or.inr rfl))
          (pss_one (ps_expr (pe_bm PySem.F.plainAttrs_list PySem.F.slot_list_extend PySem.F.type_list_extend mt_extend (pv 4) (pa_cons (pe_lc (own := [("track", 6)]) (te := tOp rCat (tVar 5) (tLst (tCons (tVar 6) tNil))) rfl scChoices.nd (pi_range1 rfl hrg (pa_cons (pv 1) pa_nil)) (blkOk_by (by rfl)) (fun _ _ _ _ _ => by exact pg_name (i := 6) scChoices.nd rfl (Or.inl rfl) (.inr rfl)) (fun _ _ _ _ _ => by exact pts_nil)
            (fun _ _ _ _ _ => by exact pe_op op_cat (pv 5) (pe_lst (pa_cons (pv 6) pa_nil)))) pa_nil)))))
        (pss_one (ps_set (i := 2) scChoices.nd rfl (Or.inl rfl) (pv 4))))))
      (pss_one (ps_ret (pv 2)))), ?_⟩
    refine ⟨Nat.zero_le _, fun e0 he0 => ⟨z1, fun D0 hD0 => ?_⟩⟩
    have se0 : Same H (upd H e0 (.lst [])) := same_new he0
    have sD0 : Same (upd H e0 (.lst [])) (upd (upd H e0 (.lst [])) D0 (.lst [V.ref e0])) := same_new hD0
    refine ⟨_, rfl, _, rfl, (by show -(2 ^ 62) ≤ (n : Int); omega), (by show (n : Int) < _; omega), ?_⟩
    refine for_range (lo := 0) (n := n) (fun i σ H' => ∃ D as v3 v4 v5 v6, σ = [some (.int (Int.ofNat n)), some (.int (Int.ofNat k)), some (.ref D), v3, v4, v5, v6] ∧ Same H H' ∧ H' D = some (.lst (as.map V.ref)) ∧ Each (fun _ a r => H' a = some (.lst (Nv r))) as (Sx61.rows k i)) ?_ ?_ ?_
    · refine ⟨D0, [e0], none, none, none, none, rfl, se0.trans sD0, upd_same, rfl, fun i a r h1 h2 => ?_⟩
      match i with
      | 0 =>
        cases h1
        cases h2
        exact sD0 _ _ upd_same
      | i + 1 => cases h1
    · rintro i σ H1 hi ⟨D, as, v3, v4, v5, v6, rfl, s1, hD, hE⟩
      refine ⟨Nat.zero_le _, fun L hL => ?_⟩
      have sL : Same H1 (upd H1 L (.lst [])) := same_new hL
      have hfew := rows_few (n := i) (k := k) (by omega) hk
      refine ⟨_, rfl, D, rfl, ⟨_, SqL.of (sL _ _ hD)⟩, ?_⟩
      refine for_list (K := K) (a := D) (xs := as.map V.ref) (fun j σ H' => ∃ bs v5 v6, σ = [some (.int (Int.ofNat n)), some (.int (Int.ofNat k)), some (.ref D), some (.int (0 + (i : Int))), some (.ref L), v5, v6] ∧ Same H1 H' ∧ H' L = some (.lst (bs.map V.ref)) ∧
          Each (fun _ a r => H' a = some (.lst (Nv r)) ∧ a ≠ L) bs (((Sx61.rows k i).take j).flatMap fun r => (List.range k).map fun t => r ++ [t])) ?_ (fun j σ H' _ e => ?_) ?_ ?_
      · exact ⟨[], v5, v6, rfl, sL, upd_same, Each.nil⟩
      · obtain ⟨_, _, _, _, s', _⟩ := e
        exact SqL.of (s' _ _ hD)
      · rintro j v σ H2 hv ⟨bs, w5, w6, rfl, s2, hLl, hEb⟩
        obtain ⟨ra, hra, rfl⟩ := ref_inv hv
        obtain ⟨row, hrow, hrr⟩ := hE.of hra
        have hrlen : row.length ≤ 6 := by
          have := (Mx.mem_rows.mp (List.mem_of_getElem? hrow)).1
          omega
        refine ⟨_, rfl, .inl ⟨rfl, _, SqL.of hLl⟩, ?_⟩
        refine ⟨_, rfl, _, rfl, (by show -(2 ^ 62) ≤ (k : Int); omega), (by show (k : Int) < _; omega), fun C hC => ?_⟩
        refine lc_range (lo := 0) (n := k) (fun t H' => Same H2 H' ∧ ∃ cs : List Addr, H' C = some (.lst (cs.map V.ref)) ∧ Each (fun _ a r => H' a = some (.lst (Nv r)) ∧ a ≠ C ∧ a ≠ L) cs ((List.range t).map fun t => row ++ [t])) ⟨same_new hC, [], upd_same, Each.nil⟩ ?_ ?_
        · rintro t H3 ht ⟨s3, cs, hCl, hEc⟩
          refine ⟨rfl, yes_then ?_⟩
          refine ⟨_, rfl, _, rfl, z1, fun q hq => ?_⟩
          have sq : Same H3 (upd H3 q (.lst [V.int (0 + (t : Int))])) := same_new hq
          refine ⟨ra, q, _, _, rfl, rfl, sq _ _ (s3 _ _ (s2 _ _ hrr)), upd_same, ?_, fun x hx => ?_⟩
          · rw [nv_len, sizeLine_eq]
            show row.length + 1 ≤ _
            omega
          have sx : Same (upd H3 q (.lst [V.int (0 + (t : Int))])) (upd (upd H3 q (.lst [V.int (0 + (t : Int))])) x (.lst (Nv row ++ [V.int (0 + (t : Int))]))) := same_new hx
          have s4 := sq.trans sx
          have nxC : x ≠ C := fun z => by
            have := sq _ _ hCl
            rw [← z, hx] at this
            cases this
          have nxL : x ≠ L := fun z => by
            have := sq _ _ (s3 _ _ hLl)
            rw [← z, hx] at this
            cases this
          refine ⟨_, s4 _ _ hCl, ?_, ?_, cs ++ [x], ?_, ?_⟩
          · rw [List.length_map, hEc.len, List.length_map, List.length_range, sizeLine_eq]
            omega
          · intro b o e
            rw [upd_ne (ne_of_none e hC)]
            exact s4 _ _ (s3 _ _ e)
          · rw [upd_same, List.map_append]
            rfl
          · rw [List.range_succ, List.map_append]
            refine Each.snoc (hEc.mono fun _ a r q => ⟨?_, q.2⟩) ⟨?_, nxC, nxL⟩
            · rw [upd_ne nxC, upd_same, nv_app, Int.zero_add]
              rfl
            · rw [upd_ne q.2.1]
              exact s4 _ _ q.1
        rintro H3 ⟨s3, cs, hCl, hEc⟩
        have hLC : L ≠ C := ne_of_none hLl hC
        refine ⟨L, C, _, _, rfl, rfl, s3 _ _ hLl, hCl, ?_, ?_⟩
        · rw [List.length_map, List.length_map, hEb.len, hEc.len, List.length_map, List.length_range, flat_few, List.length_take, sizeLine_eq]
          have h1 : min j (Sx61.rows k i).length ≤ 4096 := by omega
          have h2 : min j (Sx61.rows k i).length * k ≤ 4096 * 4 := Nat.mul_le_mul h1 hk
          omega
        refine ⟨bs ++ cs, _, _, rfl, ?_, ?_, ?_⟩
        · intro b o e
          rw [upd_ne (ne_of_none e hL)]
          exact s3 _ _ (s2 _ _ e)
        · rw [upd_same, List.map_append]
        · rw [Mx.take_snoc hrow, List.flatMap_append, List.flatMap_cons, List.flatMap_nil, List.append_nil]
          refine Each.append (R := fun _ a r => upd H3 L (.lst (bs.map V.ref ++ cs.map V.ref)) a = some (.lst (Nv r)) ∧ a ≠ L) (hEb.mono fun _ a r q => ⟨?_, q.2⟩) (hEc.mono fun _ a r q => ⟨?_, q.2.2⟩)
          · rw [upd_ne q.2]
            exact s3 _ _ q.1
          · rw [upd_ne q.2.2]
            exact q.1
      · rintro σ H2 ⟨bs, w5, w6, rfl, s2, hLl, hEb⟩
        rw [List.length_map, hE.len, List.take_length, ← Mx.rows_snoc] at hEb
        refine ⟨_, rfl, ?_⟩
        exact ⟨L, bs, _, _, _, _, rfl, s1.trans s2, hLl, hEb.mono fun _ a r q => q.1⟩
    · rintro σ H1 ⟨D, as, v3, v4, v5, v6, rfl, s1, hD, hE⟩
      exact ⟨_, rfl, kk H1 D as s1 hD hE⟩
end
end Pf
namespace Pf
open PySem PySem.Spec PyProof.Rows L2
abbrev seF (tr le co mv kn : Addr) : List (Str × V) := putF "known" (.ref kn) (f4 "tracks" (.ref tr) "lengths" (.ref le) "coming" (.ref co) "moves" (.ref mv))
section
variable {tr le co mv kn : Addr} {m : Str}
theorem se_look (m : Str) : (seF tr le co mv kn).lookup m = if m = "known" then some (.ref kn) else (f4 "tracks" (.ref tr) "lengths" (.ref le) "coming" (.ref co) "moves" (.ref mv)).lookup m := lookup_putF ..
theorem se_kn : (seF tr le co mv kn).lookup ("known" : Str) = some (.ref kn) := by rw [se_look, if_pos rfl]
theorem se_mv : (seF tr le co mv kn).lookup ("moves" : Str) = some (.ref mv) := by rw [se_look, if_neg (by decide +kernel)]; exact f4_4
theorem se_co : (seF tr le co mv kn).lookup ("coming" : Str) = some (.ref co) := by rw [se_look, if_neg (by decide +kernel)]; exact f4_3 (by decide +kernel)
theorem se_le : (seF tr le co mv kn).lookup ("lengths" : Str) = some (.ref le) := by rw [se_look, if_neg (by decide +kernel)]; exact f4_2 (by decide +kernel) (by decide +kernel)
theorem se_tr : (seF tr le co mv kn).lookup ("tracks" : Str) = some (.ref tr) := by rw [se_look, if_neg (by decide +kernel)]; exact f4_1 (by decide +kernel) (by decide +kernel) (by decide +kernel)
theorem se_no (h : ¬ m = "known") (a : ¬ m = "moves") (b : ¬ m = "coming") (c : ¬ m = "lengths") (d : ¬ m = "tracks") : (seF tr le co mv kn).lookup m = none := by rw [se_look, if_neg h]; exact f4_0 a b c d
end
theorem lenP {n : Nat} {k : Str} {v : V} {fs : List (Str × V)} (h : fs.length ≤ n) : (putF k v fs).length ≤ n + 1 := Nat.le_trans (length_putF _ _ _) (Nat.succ_le_succ h)
structure TxW (K : Frag) (mg : Str → Option Value) (cs : Cs) (Se : Addr) : Prop where
  f : TxF K mg cs
  m : TxM K mg cs.co cs.go cs.mv
  cl : Cls K Se
  nt : NoAttr K Se "tracks"
  nl : NoAttr K Se "lengths"
  nc : NoAttr K Se "coming"
  nm : NoAttr K Se "moves"
  nk : NoAttr K Se "known"
  mgW : mg "Search" = some (.ref Se)
  tup : mg "tuple" = none
def SeV (cs : Cs) (Se : Addr) (R : Hp) (a tr le co mv kn : Addr) (P : Sx61.Plan) : Prop := (∃ dx, R a = some (.ins Se dx (seF tr le co mv kn))) ∧ StV tr le P R ∧ (∃ coAs, R co = some (.lst (coAs.map V.ref)) ∧ Each (fun k a c => ComA cs.co (P.first k) c R a) coAs P.comings) ∧
  ∃ mvAs, R mv = some (.lst (mvAs.map V.ref)) ∧ Each (fun _ a m => MvA cs.mv cs.co cs.go P m R a) mvAs P.moves
theorem SeV.mono {cs : Cs} {Se : Addr} {R R' : Hp} {a tr le co mv kn : Addr} {P : Sx61.Plan} (k : Keep R R') (h : SeV cs Se R a tr le co mv kn P) : SeV cs Se R' a tr le co mv kn P := by
  obtain ⟨⟨dx, h1⟩, h2, ⟨as, h3, h4⟩, bs, h5, h6⟩ := h
  exact ⟨⟨dx, k.ins h1⟩, h2.mono k, ⟨as, k.lst h3, h4.mono fun _ _ _ q => q.mono k⟩, bs, k.lst h5, h6.mono fun _ _ _ q => q.mono k⟩
def spSeI (prog : Program) (w : World) (cs : Cs) (Se : Addr) : Sp := fun vs H Q _ => ∃ (p dx tr le co go : Addr) (coAs goAs : List Addr) (P : Sx61.Plan) (R : Hp), vs = [.ref p, .ref tr, .ref le, .ref co, .ref go] ∧ H p = some (.ins Se dx []) ∧ Same R H ∧ R p = none ∧
  R co = some (.lst (coAs.map V.ref)) ∧ R go = some (.lst (goAs.map V.ref)) ∧ Each (fun k a c => ComA cs.co (P.first k) c R a) coAs P.comings ∧ Each (fun _ a g => GoA cs.go g R a) goAs P.goings ∧ Mx.PlanOk P ∧ TabM cs.tab H ∧
  ∀ (H' : Hp) (D kn : Addr) (mvAs : List Addr), H' p = some (.ins Se dx (seF tr le co D kn)) → H' D = some (.lst (mvAs.map V.ref)) → Each (fun _ a m => MvB cs.mv cs.co cs.go P m R H' a) mvAs P.moves → H' kn = some (DicO prog w kn []) → H kn = none →
    (∀ b o, H b = some o → b ≠ p → b ≠ cs.tab → H' b = some o) → TabM cs.tab (But H' kn) → Q .non H'
def spCanGr (cs : Cs) (Se : Addr) : Sp := fun vs H Q _ => ∃ (a gr ch tr le co mv kn : Addr) (P : Sx61.Plan) (trs : List Nat) (t : Nat), vs = [.ref a, .ref gr, .ref ch] ∧ SeV cs Se H a tr le co mv kn P ∧ H gr = some (.lst (Nv (Mx.grp trs t))) ∧ H ch = some (.lst (Nv trs)) ∧ Sx61.rowOk P trs = true ∧
  ∀ H' : Hp, Same H H' → Q (.bl (Mx.can P t (Mx.grp trs t))) H'
theorem parts_of {K : Frag} {mg : Str → Option Value} {Co Go Mv : Addr} {p : Sx61.Plan} (ok : Mx.PlanOk p) {m : Sx61.Move} {H : Hp} {t : Addr} (T : TxM K mg Co Go Mv) (ng : NoAttr K Go "parts") (h : TrA Co Go p m H t) : ∃ C dx fs pa, H t = some (.ins C dx fs) ∧ Cls K C ∧ NoAttr K C "parts" ∧ fs.lookup ("parts" : Str) = some (.ref pa) ∧
    H pa = some (.lst (Nv (Mx.partsM p m))) ∧ (Mx.partsM p m).length ≤ 1000 := by
  cases m with
  | come j =>
    obtain ⟨c, hc, dc, pa, ca, q1, q2, q3⟩ := h
    have em : Mx.partsM p (.come j) = (List.range c.parts.length).map fun i => p.first j + i := partsOf_eq hc
    rw [em]
    refine ⟨Co, dc, _, pa, q1, T.co.cl, T.co.np, f4_3 (by decide +kernel), q2, ?_⟩
    rw [List.length_map, List.length_range]
    have := (ok.com c (List.mem_of_getElem? hc)).2.2.1
    omega
  | go j =>
    obtain ⟨g, hg, dg, pa, q1, q2⟩ := h
    have em : Mx.partsM p (.go j) = g.parts := by
      show ((p.goings[j]?).map fun g => g.parts).getD [] = _
      rw [hg]
      rfl
    rw [em]
    refine ⟨Go, dg, _, pa, q1, T.go, ng, f3_3, q2, ?_⟩
    obtain ⟨_, _, g2, g3⟩ := ok.go g (List.mem_of_getElem? hg)
    have := nodup_short g2 g3
    have := ok.lens
    omega
section
variable {P : Program} {w : World} {K : Frag} {mg : Str → Option Value} {base : Heap}
theorem scSeI : FnScope ["self", "tracks", "lengths", "coming", "going"] ["self", "tracks", "lengths", "coming", "going"] (defScope sSeI) := ⟨rfl, rfl, rfl, by decide +kernel, rfl, by decide +kernel, by decide +kernel⟩
theorem ok_seI {f fM Se : Addr} {cs : Cs} {fd fdM : FuncData} (F : Fun K "__init__" "Search.__init__" sSeI f fd) (T : TxW K mg cs Se)
    (GM : FnOk P w K mg base CX0 3 fM fdM ["coming", "going"] (spMoves cs.co cs.go cs.mv cs.tab)) (bM : Binds K fdM ["coming", "going"] []) (mM : mg "moves_in_order" = some (.ref fM)) (kM : PySem.W.keepIn K (.ref fM) = true) : FnOk P w K mg base CX0 4 f fd ["self", "tracks", "lengths", "coming", "going"] (spSeI P w cs Se) := by
  refine F.ok scSeI (fun vs H Q E h => ?_) (fun cdv A outer s H vs Q E hr h => ?_)
  · obtain ⟨p, dx, tr, le, co, go, coAs, goAs, Pl, R, rfl, _⟩ := h
    rfl
  · obtain ⟨p, dx, tr, le, co, go, coAs, goAs, Pl, R, rfl, hp, sR, hRp, hco, hgo, hC, hG, hok, ht, k⟩ := h
    refine ⟨_, pss_cons (ps_fld (pv 0) (pv 1) rfl) (pss_cons (ps_fld (pv 0) (pv 2) rfl) (pss_cons (ps_fld (pv 0) (pv 3) rfl) (pss_cons (ps_fld (pv 0) (pe_call GM hr rfl mM kM bM .nil pass0 (pa_cons (pv 3) (pa_cons (pv 4) pa_nil))) rfl) (pss_one (ps_fld (pv 0) pe_xnew rfl))))), ?_⟩
    refine ⟨_, rfl, _, rfl, p, Se, dx, [], rfl, hp, T.cl, T.nt, (by show 0 < 1000; decide), ?_⟩
    refine ⟨_, rfl, _, rfl, p, Se, dx, _, rfl, upd_same, T.cl, T.nl, Nat.lt_of_le_of_lt (lenP (n := 0) (Nat.le_refl _)) (by decide), ?_⟩
    refine ⟨_, rfl, _, rfl, p, Se, dx, _, rfl, upd_same, T.cl, T.nc, Nat.lt_of_le_of_lt (lenP (lenP (n := 0) (Nat.le_refl _))) (by decide), ?_⟩
    rw [upd_upd, upd_upd]
    generalize hH1 : upd H p (.ins Se dx (putF "coming" (V.ref co) (putF "lengths" (V.ref le) (putF "tracks" (V.ref tr) [])))) = H1
    have hp1 : H1 p = some (.ins Se dx (putF "coming" (V.ref co) (putF "lengths" (V.ref le) (putF "tracks" (V.ref tr) [])))) := by rw [← hH1]; exact upd_same
    have k1 : ∀ b o, H b = some o → b ≠ p → H1 b = some o := fun b o e n => by rw [← hH1, upd_ne n]; exact e
    have sR1 : Same R H1 := fun b o e => k1 b o (sR b o e) (fun z => by rw [z, hRp] at e; cases e)
    have ht1 : TabM cs.tab H1 := TabM.kp ht fun b o e _ n => k1 b o e fun z => n _ _ _ (by rw [z, hp] at e; cases e; rfl)
    refine ⟨_, rfl, _, rfl, co, go, coAs, goAs, Pl, R, rfl, Keep.of sR1, sR1 _ _ hco, sR1 _ _ hgo, hC, hG, (by have := hok.coms; omega), (by have := hok.goes; omega), ht1, fun H2 D mvAs kp2 ht2 hD1 hD2 hE2 => ?_⟩
    have npt : p ≠ cs.tab := fun z => by
      obtain ⟨ps, e⟩ := TabM.is ht1
      rw [← z, hp1] at e
      cases e
    have hp2 := kp2 _ _ hp1 npt
    refine ⟨_, rfl, p, Se, dx, _, rfl, hp2, T.cl, T.nm, Nat.lt_of_le_of_lt (lenP (lenP (lenP (n := 0) (Nat.le_refl _)))) (by decide), fun kn hkn => ?_⟩
    generalize hH3 : upd H2 p (.ins Se dx (putF "moves" (V.ref D) (putF "coming" (V.ref co) (putF "lengths" (V.ref le) (putF "tracks" (V.ref tr) []))))) = H3 at hkn
    have hp3 : H3 p = some (.ins Se dx (putF "moves" (V.ref D) (putF "coming" (V.ref co) (putF "lengths" (V.ref le) (putF "tracks" (V.ref tr) []))))) := by rw [← hH3]; exact upd_same
    have npk : p ≠ kn := ne_of_none hp3 hkn
    refine ⟨_, rfl, p, Se, dx, _, rfl, (by rw [upd_ne npk]; exact hp3), T.cl, T.nk, Nat.lt_of_le_of_lt (lenP (lenP (lenP (lenP (n := 0) (Nat.le_refl _))))) (by decide), ?_⟩
    have k3 : ∀ b o, H2 b = some o → b ≠ p → H3 b = some o := fun b o e n => by rw [← hH3, upd_ne n]; exact e
    have k4 : ∀ b o, H2 b = some o → b ≠ p → upd (upd H3 kn (DicO P w kn [])) p (.ins Se dx (seF tr le co D kn)) b = some o := fun b o e n => by
      have e3 := k3 b o e n
      rw [upd_ne n, upd_ne (ne_of_none e3 hkn)]
      exact e3
    have hDp : D ≠ p := fun z => by rw [z, hp1] at hD1; cases hD1
    refine k _ D kn mvAs upd_same (k4 _ _ hD2 hDp) (hE2.mono fun _ a m q => ?_) (by rw [upd_ne npk.symm, upd_same]; rfl) ?_ (fun b o e n1 n2 => k4 _ _ (kp2 _ _ (k1 _ _ e n1) n2) n1) ?_
    · obtain ⟨dm, t, q1, q2⟩ := q
      refine ⟨dm, t, k4 _ _ q1 (fun z => ?_), q2⟩
      subst z
      rw [hp2] at q1
      have e := congrArg (fun o => match o with | some (HO.ins C _ fs) => some (fs.lookup ("kind" : Str)) | _ => none) q1
      have e' : some ((putF "coming" (V.ref co) (putF "lengths" (V.ref le) (putF "tracks" (V.ref tr) []))).lookup ("kind" : Str)) = some ((mvF (kindOf m) (numOfM m) t).lookup ("kind" : Str)) := e
      rw [f3_1 (by decide +kernel) (by decide +kernel), lookup_putF, if_neg (by decide +kernel), lookup_putF, if_neg (by decide +kernel), lookup_putF, if_neg (by decide +kernel)] at e'
      cases e'
    · cases z : H kn with
      | none => rfl
      | some o =>
        have e1 := k1 _ _ z npk.symm
        by_cases c : kn = cs.tab
        · obtain ⟨ps, e⟩ := TabM.is ht2
          rw [← c] at e
          rw [k3 _ _ e npk.symm] at hkn
          cases hkn
        · rw [k3 _ _ (kp2 _ _ e1 c) npk.symm] at hkn
          cases hkn
    · refine TabM.kp ht2 fun b o e _ n => ?_
      have hb : b ≠ p := fun z => n _ _ _ (by rw [z, hp2] at e; cases e; rfl)
      exact but_get (k4 b o e hb) (ne_of_none (k3 b o e hb) hkn)
end
end Pf
namespace Pf
open PySem PySem.Spec PyProof.Rows L2
section
variable {P : Program} {w : World} {K : Frag} {mg : Str → Option Value} {base : Heap}
theorem scCanGr : FnScope ["self", "group", "chosen", "parts", "number", "moves", "standing", "move"] ["self", "group", "chosen"] (defScope sCanGr) := ⟨rfl, rfl, rfl, by decide +kernel, rfl, by decide +kernel, by decide +kernel⟩
theorem grp_few {P : Sx61.Plan} (ok : Mx.PlanOk P) {trs : List Nat} (hro : Sx61.rowOk P trs = true) (t : Nat) : (Mx.grp trs t).length ≤ 6 ∧ ∀ k ∈ Mx.grp trs t, k < P.comings.length := by
  obtain ⟨tl, tt⟩ := rowOk_len hro
  have h := ok.coms
  refine ⟨?_, fun k hk => ?_⟩
  · unfold Mx.grp
    have := List.length_filter_le (fun k => trs[k]? == some t) (List.range trs.length)
    rw [List.length_range] at this
    omega
  · have := (List.getElem?_eq_some_iff.mp (Mx.mem_grp.mp hk)).1
    omega
theorem partsAt_few {P : Sx61.Plan} (ok : Mx.PlanOk P) (g : List Nat) : (Mx.partsAt P g).length ≤ 4 * g.length := by
  unfold Mx.partsAt
  induction g with
  | nil => exact Nat.le_refl _
  | cons k g ih =>
    rw [List.flatMap_cons, List.length_append, List.length_cons]
    have : (P.partsOf k).length ≤ 4 := by
      unfold Sx61.Plan.partsOf
      cases e : P.comings[k]? with
      | none => exact Nat.zero_le _
      | some c =>
        show ((List.range c.parts.length).map fun i => P.first k + i).length ≤ 4
        rw [List.length_map, List.length_range]
        exact (ok.com c (List.mem_of_getElem? e)).2.2.1
    omega
theorem ok_cangr {f fS fI fO Se : Addr} {cs : Cs} {fd fdS fdI fdO : FuncData} (F : Fun K "can_group_be_done" "Search.can_group_be_done" sCanGr f fd) (T : TxW K mg cs Se) (ng : NoAttr K cs.go "parts")
    (FS : Fun K "share_a_part" "share_a_part" sShare fS fdS) (bS : Binds K fdS ["some", "others"] []) (mS : mg "share_a_part" = some (.ref fS))
    (GO : FnOk P w K mg base CX0 4 fO fdO ["self", "moves", "chosen"] (spFirst cs)) (bO : Binds K fdO ["self", "moves", "chosen"] []) (mO : Meth K cs.st "first_obstacle" fO)
    (M : Mk K cs.st fI) (FI : Fun K "__init__" "Standing.__init__" sStI fI fdI) (bI : Binds K fdI ["self", "tracks", "lengths"] []) : FnOk P w K mg base CX0 5 f fd ["self", "group", "chosen"] (spCanGr cs Se) := by
  have GS : FnOk P w K mg base CX0 1 fS fdS ["some", "others"] spShare := ok_share FS T.f.e.d.p.h
  have GI : FnOk P w K mg base CX0 1 fI fdI ["self", "tracks", "lengths"] (spStI cs.st) := ok_stI FI T.f.e.d.s.st
  refine F.ok scCanGr (fun vs H Q E h => ?_) (fun cdv A outer s H vs Q E hr h => ?_)
  · obtain ⟨a, gr, ch, tr, le, co, mv, kn, Pl, trs, t, rfl, _⟩ := h
    rfl
  · obtain ⟨a, gr, ch, tr, le, co, mv, kn, Pl, trs, t, rfl, hV, hgr, hch, hro, k⟩ := h
    have hr1 := hr.mono (show 1 ≤ 4 by decide)
    have hr2 := hr.mono (show 2 ≤ 4 by decide)
    refine ⟨_, pss_cons (ps_set (i := 3) scCanGr.nd rfl (Or.inr rfl) (pe_lst pa_nil))
      (pss_cons (ps_for PassesOwn.never rfl (pi_list (pv 1)) (pg_name (i := 4) scCanGr.nd rfl (Or.inl rfl))
        (pss_one (ps_expr (pe_bm PySem.F.plainAttrs_list PySem.F.slot_list_extend PySem.F.type_list_extend mt_extend (pv 3) (pa_cons (pe_fld (pe_ix ix_list (pe_fld (pv 0) rfl) (pv 4) (fun _ _ => rfl)) rfl) pa_nil)))))
      (pss_cons (ps_setLc (i := 5) (own := [("move", 7)]) (tt := tTest (tCall spShare [] E0 (tCons (tFld K (tFld K (tVar 7) "train") "parts") (tCons (tVar 3) tNil)))) (te := tVar 7) rfl scCanGr.nd rfl rfl (sw_true rfl rfl rfl rfl) (pi_list (pe_fld (pv 0) rfl)) (blkOk_by (by rfl)) (fun _ _ _ _ _ => by exact pg_name (i := 7) scCanGr.nd rfl (Or.inl rfl) (.inr rfl))
        (fun _ _ _ _ _ => by exact pts_one (pt_val (pe_call GS hr1 rfl mS FS.kp bS .nil pass0 (pa_cons (pe_fld (pe_fld (pv 7) rfl) rfl) (pa_cons (pv 3) pa_nil))))) (fun _ _ _ _ _ => by exact pv 7))
      (pss_cons (ps_set (i := 6) scCanGr.nd rfl (Or.inl rfl) (pe_make M GI hr2 rfl T.f.mgS bI .nil pass0 (pa_cons (pe_fld (pv 0) rfl) (pa_cons (pe_fld (pv 0) rfl) pa_nil))))
      (pss_one (ps_ret (pe_cmpR op_eq (pe_callB call_len_seq (by rfl) T.f.e.d.p.h.len PySem.boot_len (pa_cons (pe_meth (pv 6) T.f.e.d.s.st.cl mO GO hr bO .nil pass0 (pa_cons (pv 5) (pa_cons (pv 2) pa_nil))) pa_nil)) pe_int (nomark _))))))), ?_⟩
    obtain ⟨⟨dx, h1⟩, hSt0, ⟨coAs, h3, hC⟩, mvAs, h5, hE⟩ := id hV
    obtain ⟨⟨tas, ht1, ht2⟩, hle, hok⟩ := id hSt0
    obtain ⟨gf, gl⟩ := grp_few hok hro t
    refine ⟨Nat.zero_le _, fun pt hpt => ?_⟩
    have s0 : Same H (upd H pt (.lst [])) := same_new hpt
    refine ⟨_, rfl, gr, rfl, ⟨_, SqL.of (s0 _ _ hgr)⟩, ?_⟩
    refine for_list (K := K) (a := gr) (xs := Nv (Mx.grp trs t)) (fun i σ H' => (∃ v4, σ = [some (.ref a), some (.ref gr), some (.ref ch), some (.ref pt), v4, none, none, none]) ∧ Same H H' ∧ H' pt = some (.lst (Nv (Mx.partsAt Pl ((Mx.grp trs t).take i))))) ⟨⟨none, rfl⟩, s0, upd_same⟩ (fun i σ H' _ e => SqL.of (e.2.1 _ _ hgr)) ?_ ?_
    · rintro i v σ H1 hv ⟨⟨v4, rfl⟩, s1, hp1⟩
      obtain ⟨n, hn, rfl⟩ := nv_inv hv
      have hnl := gl n (List.mem_of_getElem? hn)
      obtain ⟨c, hc⟩ : ∃ c, Pl.comings[n]? = some c := ⟨_, List.getElem?_eq_getElem hnl⟩
      obtain ⟨ca, hca, dc, pa, cc, q1, q2, q3⟩ := hC.get hc
      refine ⟨_, rfl, .inl ⟨rfl, _, SqL.of hp1⟩, ?_⟩
      refine ⟨_, rfl, a, Se, dx, _, _, rfl, s1 _ _ h1, T.cl, T.nc, se_co, _, rfl, co, _, _, _, rfl, rfl, SqL.of (s1 _ _ h3), atI_nat (ref_at hca), ca, cs.co, dc, _, _, rfl, s1 _ _ q1, T.m.co.cl, T.m.co.np, f4_3 (by decide +kernel), ?_⟩
      have el := partsAt_few hok ((Mx.grp trs t).take i)
      rw [List.length_take] at el
      have hcl := (hok.com c (List.mem_of_getElem? hc)).2.2.1
      refine ⟨pt, pa, _, _, rfl, rfl, hp1, s1 _ _ q2, ?_, ⟨_, rfl⟩, ?_, ?_⟩
      · rw [nv_len, nv_len, List.length_map, List.length_range, sizeLine_eq]
        omega
      · intro b o e
        rw [upd_ne (ne_of_none e hpt)]
        exact s1 b o e
      · rw [upd_same, Mx.take_snoc hn]
        unfold Mx.partsAt
        rw [List.flatMap_append, List.flatMap_cons, List.flatMap_nil, List.append_nil, nv_app, partsOf_eq hc]
    rintro σ H1 ⟨⟨v4, rfl⟩, s1, hp1⟩
    rw [nv_len, List.take_length] at hp1
    have hml : Pl.moves.length ≤ 100 := by
      have e := (Mx.moves_perm Pl).length_eq
      unfold Mx.raw at e
      rw [List.length_append, List.length_map, List.length_map, List.length_range, List.length_range] at e
      have := hok.coms
      have := hok.goes
      omega
    refine ⟨_, rfl, a, Se, dx, _, _, rfl, s1 _ _ h1, T.cl, T.nm, se_mv, mv, rfl, ⟨_, SqL.of (s1 _ _ h5)⟩, fun D hD => ?_⟩
    refine lc_list (K := K) (a := mv) (xs := mvAs.map V.ref) (fun i H' => Same H1 H' ∧ ∃ as : List Addr, H' D = some (.lst (as.map V.ref)) ∧ as.length ≤ i ∧ Each (fun _ a x => MvA cs.mv cs.co cs.go Pl x H a) as ((Pl.moves.take i).filter (Mx.mine Pl (Mx.grp trs t)))) ⟨same_new hD, [], upd_same, Nat.le_refl _, Each.nil⟩ (fun i H' _ e => SqL.of (e.1 _ _ (s1 _ _ h5))) ?_ ?_
    · rintro i v H' hv ⟨sm, as, hDl, hal, hEa⟩
      obtain ⟨ma, hma, rfl⟩ := ref_inv hv
      obtain ⟨x, hx, hB⟩ := hE.of hma
      obtain ⟨dm, ta, q1, q2⟩ := id hB
      obtain ⟨C, dt, fs, pa, t1, t2, t3, t4, t5, t6⟩ := parts_of hok T.m ng q2
      have s2 := s1.trans sm
      refine ⟨rfl, ?_⟩
      refine ⟨_, rfl, ma, cs.mv, dm, _, _, rfl, s2 _ _ q1, T.f.e.d.mv, T.f.e.d.vt, f3_3, ta, C, dt, _, _, rfl, s2 _ _ t1, t2, t3, t4, _, rfl, pa, pt, _, _, rfl, s2 _ _ t5, sm _ _ hp1, t6, fun H3 s3 => ⟨_, rfl, ?_⟩⟩
      rw [Mx.take_snoc hx, List.filter_append, List.filter_cons, List.filter_nil]
      show if Mx.mine Pl (Mx.grp trs t) x = true then _ else _
      by_cases c : Mx.mine Pl (Mx.grp trs t) x = true
      · rw [if_pos c, if_pos c]
        refine ⟨_, rfl, _, s3 _ _ hDl, ?_, ?_, as ++ [ma], ?_, ?_, hEa.snoc hB⟩
        · rw [List.length_map, sizeLine_eq]
          have := (List.getElem?_eq_some_iff.mp hx).1
          omega
        · intro b o e
          rw [upd_ne (ne_of_none e hD)]
          exact s3 _ _ (sm b o e)
        · rw [upd_same, List.map_append]
          rfl
        · rw [List.length_append]
          show as.length + 1 ≤ i + 1
          omega
      · rw [if_neg c, if_neg c, List.append_nil]
        exact ⟨sm.trans s3, as, s3 _ _ hDl, Nat.le_succ_of_le hal, hEa⟩
    rintro H3 ⟨s13, as, hDl, hal, hEa⟩
    rw [List.length_map, hE.len, List.take_length] at hEa
    have s3 := s1.trans s13
    refine ⟨_, rfl, a, Se, dx, _, _, rfl, s3 _ _ h1, T.cl, T.nt, se_tr, _, rfl, a, Se, dx, _, _, rfl, s3 _ _ h1, T.cl, T.nl, se_le, fun x dx' nx ndx nex => ?_⟩
    have ht13 : H3 tr = some (.lst (tas.map V.ref)) := s3 _ _ ht1
    have nxt : tr ≠ x := ne_of_none ht13 nx
    have nxt' : tr ≠ dx' := ne_of_none ht13 ndx
    refine ⟨x, dx', tr, le, _, rfl, upd_same, (by rw [upd_ne nxt, upd_ne nxt']; exact ht13), (by rw [List.length_map, ht2.len]; have := hok.tracks; omega), fun H4 ro nro hSt e4 => ⟨rfl, ?_⟩⟩
    have s4 : Same H3 H4 := Same.made nx ndx e4
    have nro3 : H3 ro = none := by
      cases z : H3 ro with
      | none => rfl
      | some o =>
        rw [upd_ne (ne_of_none z nx), upd_ne (ne_of_none z ndx), z] at nro
        cases nro
    rw [nothing_of (P := Pl) (by rw [List.length_map, ht2.len])] at hSt
    obtain ⟨ds, ras, st1, st2, st3, st4⟩ := id hSt
    have hnd : (Pl.moves.filter (Mx.mine Pl (Mx.grp trs t))).Nodup := (Mx.moves_nodup Pl).sublist List.filter_sublist
    refine ⟨_, rfl, x, ds, _, rfl, st1, f3_n (by decide +kernel), _, rfl, _, rfl, ?_⟩
    refine ⟨x, D, ch, tr, le, ro, as, H3, Pl, trs, _, rfl, s4, nro3, hSt0.mono (Keep.of s3), hSt, hDl, hEa.mono (fun _ a x q => q.mono (Keep.of s3)), s3 _ _ hch, hro, hnd, fun x hx => (List.mem_filter.mp hx).1, fun H5 r bs kp5 hr5 hE5 hok5 => ?_⟩
    have s35 : Same H3 H5 := fun b o e => kp5 b o (s4 b o e) (ne_of_none e nro3)
    refine ⟨r, _, rfl, .inl (SqL.of hr5), rfl, ?_⟩
    have hcan := Mx.can_of hok (tr := trs) (t := t)
    have q := k H5 (s3.trans s35)
    rw [← hcan] at q
    cases hf : Mx.fin Pl trs (Sx61.nothing Pl) (Pl.moves.filter (Mx.mine Pl (Mx.grp trs t))) with
    | error e =>
      rw [hf] at hE5 q
      have el : bs.length = 2 := hE5.len
      rw [List.length_map, el]
      exact q
    | ok u =>
      rw [hf] at hE5 q
      have el : bs.length = 0 := hE5.len
      rw [List.length_map, el]
      exact q
end
end Pf
namespace Pf
open PySem PySem.Spec PyProof.Rows L2
def kOf (t : Nat) (g : List Nat) : PKey := (.inl (Int.ofNat t), g.map fun n => .inl (Int.ofNat n))
theorem kOf_inj {t u : Nat} {g h : List Nat} (e : kOf t g = kOf u h) : t = u ∧ g = h := by
  obtain ⟨e1, e2⟩ := Prod.mk.inj e
  refine ⟨Int.ofNat.inj (Sum.inl.inj e1), ?_⟩
  exact (List.map_inj_right fun x y z => Int.ofNat.inj (Sum.inl.inj z)).mp e2
theorem kOf_nv (t : Nat) (g : List Nat) : (kOf t g).2.map kV = Nv g := by
  unfold kOf Nv
  rw [List.map_map]
  rfl
def DicG (prog : Program) (w : World) (Pl : Sx61.Plan) (H : Hp) (kn : Addr) (n : Nat) : Prop := ∃ xs, H kn = some (DicO prog w kn xs) ∧ xs.length ≤ n ∧ ∀ x ∈ xs, PrA H x.1 x.2.1 ∧ ∀ t g, x.1 = kOf t g → x.2.2 = Value.bool (Mx.can Pl t g)
theorem _root_.L2.PrA.same {H H' : Hp} {k : PKey} {b : Addr} (s : Same H H') (h : PrA H k b) : PrA H' k b := let ⟨c, h1, h2⟩ := h; ⟨c, s _ _ h1, s _ _ h2⟩
theorem _root_.L2.PrA.but {H H' : Hp} {k : PKey} {b kn : Addr} {xs : List PEnt} {prog : Program} {w : World} (e : H kn = some (DicO prog w kn xs)) (s : ∀ b o, H b = some o → b ≠ kn → H' b = some o) (h : PrA H k b) : PrA H' k b := by
  obtain ⟨c, h1, h2⟩ := h
  exact ⟨c, s _ _ h1 (ne_of h1 e (by intro z; cases z)), s _ _ h2 (ne_of h2 e (by intro z; cases z))⟩
theorem DicG.same {prog : Program} {w : World} {Pl : Sx61.Plan} {H H' : Hp} {kn : Addr} {n : Nat} (s : Same H H') (h : DicG prog w Pl H kn n) : DicG prog w Pl H' kn n :=
  let ⟨xs, h1, h2, h3⟩ := h; ⟨xs, s _ _ h1, h2, fun x hx => ⟨(h3 x hx).1.same s, (h3 x hx).2⟩⟩
theorem DicG.le {prog : Program} {w : World} {Pl : Sx61.Plan} {H : Hp} {kn : Addr} {n m : Nat} (h : DicG prog w Pl H kn n) (l : n ≤ m) : DicG prog w Pl H kn m :=
  let ⟨xs, h1, h2, h3⟩ := h; ⟨xs, h1, Nat.le_trans h2 l, h3⟩
def KpN (kn : Addr) (H H' : Hp) : Prop := ∀ b o, H b = some o → b ≠ kn → H' b = some o
theorem KpN.refl (kn : Addr) (H : Hp) : KpN kn H H := fun _ _ e _ => e
theorem KpN.trans {kn : Addr} {H H1 H2 : Hp} (a : KpN kn H H1) (b : KpN kn H1 H2) : KpN kn H H2 := fun c o e n => b c o (a c o e n) n
theorem KpN.of {kn : Addr} {H H' : Hp} (s : Same H H') : KpN kn H H' := fun b o e _ => s b o e
theorem KpN.sub {kn : Addr} {R H H' : Hp} (k : KpN kn H H') (s : Same R H) (n : R kn = none) : Same R H' := fun b o e => k b o (s b o e) (fun z => by rw [z, n] at e; cases e)
def spCanOn (prog : Program) (w : World) (cs : Cs) (Se : Addr) : Sp := fun vs H Q _ => ∃ (a ch tr le co mv kn : Addr) (R : Hp) (P : Sx61.Plan) (trs : List Nat) (t n : Nat), vs = [.ref a, .int (Int.ofNat t), .ref ch] ∧ Same R H ∧ R kn = none ∧ SeV cs Se R a tr le co mv kn P ∧ DicG prog w P H kn n ∧ n ≤ 100000 ∧
  R ch = some (.lst (Nv trs)) ∧ Sx61.rowOk P trs = true ∧ ∀ H' : Hp, KpN kn H H' → DicG prog w P H' kn (n + 1) → Q (.bl (Mx.can P t (Mx.grp trs t))) H'
def spIsWay (prog : Program) (w : World) (cs : Cs) (Se : Addr) : Sp := fun vs H Q _ => ∃ (a ch tr le co mv kn : Addr) (R : Hp) (P : Sx61.Plan) (trs : List Nat) (n : Nat), vs = [.ref a, .ref ch] ∧ Same R H ∧ R kn = none ∧ SeV cs Se R a tr le co mv kn P ∧ DicG prog w P H kn n ∧ n ≤ 50000 ∧
  R ch = some (.lst (Nv trs)) ∧ Sx61.rowOk P trs = true ∧ ∀ H' : Hp, KpN kn H H' → DicG prog w P H' kn (n + 4) → Q (.bl (P.right trs)) H'
section
variable {P : Program} {w : World} {K : Frag} {mg : Str → Option Value} {base : Heap}
theorem scCanOn : FnScope ["self", "track", "chosen", "group", "key", "number", "taken"] ["self", "track", "chosen"] (defScope sCanOn) := ⟨rfl, rfl, rfl, by decide +kernel, rfl, by decide +kernel, by decide +kernel⟩
theorem grp_snoc {trs : List Nat} {t i n : Nat} (h : trs[i]? = some n) : ((List.range (i + 1)).filter fun k => trs[k]? == some t) = ((List.range i).filter fun k => trs[k]? == some t) ++ (if n = t then [i] else []) := by
  rw [List.range_succ, List.filter_append, List.filter_cons, List.filter_nil]
  congr 1
  rw [h]
  by_cases c : n = t
  · subst c; simp
  · have : ¬ ((some n == some t) = true) := fun z => c (Option.some.inj (eq_of_beq z))
    rw [if_neg c, if_neg this]
theorem ok_canon {f fG Se : Addr} {cs : Cs} {fd fdG : FuncData} (F : Fun K "can_be_done_on" "Search.can_be_done_on" sCanOn f fd) (T : TxW K mg cs Se)
    (GG : FnOk P w K mg base CX0 5 fG fdG ["self", "group", "chosen"] (spCanGr cs Se)) (bG : Binds K fdG ["self", "group", "chosen"] []) (mG : Meth K Se "can_group_be_done" fG) : FnOk P w K mg base CX0 6 f fd ["self", "track", "chosen"] (spCanOn P w cs Se) := by
  refine F.ok scCanOn (fun vs H Q E h => ?_) (fun cdv A outer s H vs Q E hr h => ?_)
  · obtain ⟨a, ch, tr, le, co, mv, kn, R, Pl, trs, t, n, rfl, _⟩ := h
    rfl
  · obtain ⟨a, ch, tr, le, co, mv, kn, R, Pl, trs, t, n, rfl, sR, hRk, hV, hDG, hn, hch, hro, k⟩ := h
    have hu := hr.units
    refine ⟨_, pss_cons (ps_setLc (i := 3) (own := [("number", 5), ("taken", 6)]) (g := gTup K 2 (gCons (gName 5) (gCons (gName 6) gNil))) (tt := tTest (tOp rEq (tVar 6) (tVar 1))) (te := tVar 5) rfl scCanOn.nd rfl rfl (sw_true rfl rfl rfl rfl) (pi_enum rfl T.m.enum (pa_cons (pv 2) pa_nil)) (blkOk_by (by rfl))
        (fun _ _ _ _ _ => by exact pg_tup rfl (pgs_cons (pg_name (i := 5) scCanOn.nd rfl (Or.inl rfl) (.inr rfl)) (pgs_cons (pg_name (i := 6) scCanOn.nd rfl (Or.inl rfl) (.inr rfl)) pgs_nil))) (fun _ _ _ _ _ => by exact pts_one (pt_cmpR op_eq (pv 6) (pv 1) (nomark _))) (fun _ _ _ _ _ => by exact pv 5))
      (pss_cons (ps_set (i := 4) scCanOn.nd rfl (Or.inl rfl) (pe_tup (pa_cons (pv 1) (pa_cons (pe_callTy call_tuple_of (by rfl) T.tup PyProof.Rows.boot_tuple (pa_cons (pv 3) pa_nil)) pa_nil))))
      (pss_cons (ps_if (pt_cmp (pc_xnotin (by show A.units + 3 + 2 < cLine; have : A.units + 3 + 64 < cLine := hu; omega) (pv 4) (pe_fld (pv 0) rfl)))
        (pss_one (ps_xput (by show A.units + 3 + 2 < cLine; have : A.units + 3 + 64 < cLine := hu; omega) (pe_fld (pv 0) rfl) (pv 4) (pe_meth (pv 0) T.cl mG GG hr bG .nil pass0 (pa_cons (pv 3) (pa_cons (pv 2) pa_nil))) rfl)) pss_nil)
      (pss_one (ps_ret (pe_xget (by show A.units + 3 + 2 < cLine; have : A.units + 3 + 64 < cLine := hu; omega) (pe_fld (pv 0) rfl) (pv 4) (fun _ _ => rfl)))))), ?_⟩
    obtain ⟨⟨dx, h1⟩, hSt0, _⟩ := id hV
    have hok := hSt0.2.2
    obtain ⟨tl, tt⟩ := rowOk_len hro
    have hcl := hok.coms
    refine ⟨_, rfl, ch, _, rfl, SqL.of (sR _ _ hch), fun D hD => ?_⟩
    refine lc_enum (K := K) (a := ch) (xs := Nv trs) (fun i H' => Same H H' ∧ H' D = some (.lst (Nv ((List.range i).filter fun k => trs[k]? == some t)))) ⟨same_new hD, upd_same⟩ (fun i H' _ e => SqL.of (e.1 _ _ (sR _ _ hch))) ?_ ?_
    · rintro i v H' Tp hv ⟨sm, hDl⟩ hT
      obtain ⟨x, hx, rfl⟩ := nv_inv hv
      have sT : Same H' (upd H' Tp (.tup [.int (i : Nat), .int (Int.ofNat x)])) := same_new hT
      refine ⟨Tp, _, rfl, SqT.of upd_same, rfl, _, _, rfl, _, _, rfl, rfl, rfl, ?_⟩
      refine ⟨_, rfl, _, rfl, rfl, _, rfl, ?_⟩
      rw [grp_snoc hx]
      have hil := (List.getElem?_eq_some_iff.mp hx).1
      by_cases c : x = t
      · rw [if_pos c]
        refine iteY (decide_eq_true (show V.int (Int.ofNat x) = V.int (Int.ofNat t) by rw [c])) ?_
        refine ⟨_, rfl, _, sT _ _ hDl, ?_, ?_, ?_⟩
        · rw [nv_len, sizeLine_eq]
          have := List.length_filter_le (fun k => trs[k]? == some t) (List.range i)
          rw [List.length_range] at this
          omega
        · intro b o e
          rw [upd_ne (ne_of_none e hD)]
          exact sT _ _ (sm b o e)
        · rw [upd_same, nv_app]
          rfl
      · rw [if_neg c, List.append_nil]
        refine iteN (decide_eq_false (show ¬ V.int (Int.ofNat x) = V.int (Int.ofNat t) from fun z => c (Int.ofNat.inj (V.int.inj z)))) ?_
        exact ⟨sm.trans sT, sT _ _ hDl⟩
    rintro H1 ⟨s1, hD1⟩
    rw [nv_len] at hD1
    have hD1 : H1 D = some (.lst (Nv (Mx.grp trs t))) := hD1
    refine ⟨_, rfl, _, rfl, D, _, rfl, .inl ⟨SqL.of hD1, fun c hc => ⟨z2, fun b hb => ?_⟩⟩⟩
    have s2 : Same H1 (upd H1 c (.tup (Nv (Mx.grp trs t)))) := same_new hc
    have s3 : Same (upd H1 c (.tup (Nv (Mx.grp trs t)))) (upd (upd H1 c (.tup (Nv (Mx.grp trs t)))) b (.tup [V.int (Int.ofNat t), V.ref c])) := same_new hb
    have hb3 : PrA (upd (upd H1 c (.tup (Nv (Mx.grp trs t)))) b (.tup [V.int (Int.ofNat t), V.ref c])) (kOf t (Mx.grp trs t)) b := ⟨c, upd_same, by rw [kOf_nv]; exact s3 _ _ upd_same⟩
    generalize upd (upd H1 c (.tup (Nv (Mx.grp trs t)))) b (.tup [V.int (Int.ofNat t), V.ref c]) = H3 at s3 hb3
    have s03 : Same H H3 := s1.trans (s2.trans s3)
    have sR3 := sR.trans s03
    obtain ⟨xs, x1, x2, x3⟩ := hDG.same s03
    have hall : ∀ z ∈ xs, PrA H3 z.1 z.2.1 := fun z hz => (x3 z hz).1
    refine ⟨_, rfl, _, rfl, a, Se, dx, _, _, rfl, sR3 _ _ h1, T.cl, T.nk, se_kn, kn, xs, kOf t (Mx.grp trs t), b, rfl, rfl, x1, hall, hb3, _, rfl, ?_⟩
    cases hat : atKey xs (kOf t (Mx.grp trs t)) with
    | some p =>
      refine iteN rfl ?_
      have hm := at_mem hat
      have hv := (x3 _ hm).2 _ _ rfl
      refine ⟨_, rfl, a, Se, dx, _, _, rfl, sR3 _ _ h1, T.cl, T.nk, se_kn, _, rfl, kn, xs, kOf t (Mx.grp trs t), b, p, .bl (Mx.can Pl t (Mx.grp trs t)), rfl, rfl, x1, hall, hb3, hat, hv, ?_⟩
      exact k H3 (KpN.of s03) ⟨xs, x1, by omega, x3⟩
    | none =>
      refine iteY rfl ?_
      refine ⟨_, rfl, a, dx, _, rfl, sR3 _ _ h1, se_no (by decide +kernel) (by decide +kernel) (by decide +kernel) (by decide +kernel) (by decide +kernel), _, rfl, _, rfl, ?_⟩
      refine ⟨a, D, ch, tr, le, co, mv, kn, Pl, trs, t, rfl, hV.mono (Keep.of sR3), (s2.trans s3) _ _ hD1, sR3 _ _ hch, hro, fun H4 s4 => ?_⟩
      have hall4 : ∀ z ∈ xs, PrA H4 z.1 z.2.1 := fun z hz => (hall z hz).same s4
      refine ⟨_, rfl, a, Se, dx, _, _, rfl, s4 _ _ (sR3 _ _ h1), T.cl, T.nk, se_kn, _, rfl, kn, xs, kOf t (Mx.grp trs t), b, Mx.can Pl t (Mx.grp trs t), rfl, rfl, rfl, s4 _ _ x1, hall4, hb3.same s4, (by rw [sizeLine_eq]; omega), ?_⟩
      have kp5 : KpN kn H4 (upd H4 kn (DicO P w kn (storedH xs (kOf t (Mx.grp trs t)) b (.bool (Mx.can Pl t (Mx.grp trs t)))))) := fun c o e n => by rw [upd_ne n]; exact e
      have x14 : H4 kn = some (DicO P w kn xs) := s4 _ _ x1
      have good : ∀ z ∈ storedH xs (kOf t (Mx.grp trs t)) b (.bool (Mx.can Pl t (Mx.grp trs t))), PrA (upd H4 kn (DicO P w kn (storedH xs (kOf t (Mx.grp trs t)) b (.bool (Mx.can Pl t (Mx.grp trs t)))))) z.1 z.2.1 ∧ ∀ u g, z.1 = kOf u g → z.2.2 = Value.bool (Mx.can Pl u g) := by
        intro z hz
        rcases stored_mem hz with q | ⟨q1, q2, q3⟩
        · exact ⟨(hall4 z q).but x14 kp5, (x3 z q).2⟩
        · refine ⟨?_, fun u g e => ?_⟩
          · rcases q3 with q3 | ⟨y, y1, y2, y3⟩
            · rw [q1, q3]
              exact (hb3.same s4).but x14 kp5
            · have e4 := (hall4 y y1).but x14 kp5
              rw [y2, y3] at e4
              rw [q1]
              exact e4
          · rw [q1] at e
            obtain ⟨e1, e2⟩ := kOf_inj e
            rw [q2, e1, ← e2]
            rw [e1]
      obtain ⟨p, hp, hp2⟩ := at_stored (xs := xs) (k := kOf t (Mx.grp trs t)) (b := b) (v := Value.bool (Mx.can Pl t (Mx.grp trs t)))
      have nak : a ≠ kn := fun z => by rw [z, hRk] at h1; cases h1
      refine ⟨_, rfl, a, Se, dx, _, _, rfl, kp5 _ _ (s4 _ _ (sR3 _ _ h1)) nak, T.cl, T.nk, se_kn, _, rfl, kn, _, kOf t (Mx.grp trs t), b, p, .bl (Mx.can Pl t (Mx.grp trs t)), rfl, rfl, upd_same, fun z hz => (good z hz).1, (hb3.same s4).but x14 kp5, hp, hp2, ?_⟩
      have hsl := stored_len (xs := xs) (k := kOf t (Mx.grp trs t)) (b := b) (v := Value.bool (Mx.can Pl t (Mx.grp trs t)))
      exact k _ ((KpN.of (s03.trans s4)).trans kp5) ⟨_, upd_same, by omega, good⟩
theorem scIsWay : FnScope ["self", "chosen", "track"] ["self", "chosen"] (defScope sIsWay) := ⟨rfl, rfl, rfl, by decide +kernel, rfl, by decide +kernel, by decide +kernel⟩
theorem ok_isway {f fC Se : Addr} {cs : Cs} {fd fdC : FuncData} (F : Fun K "is_way" "Search.is_way" sIsWay f fd) (T : TxW K mg cs Se)
    (GC : FnOk P w K mg base CX0 6 fC fdC ["self", "track", "chosen"] (spCanOn P w cs Se)) (bC : Binds K fdC ["self", "track", "chosen"] []) (mC : Meth K Se "can_be_done_on" fC) : FnOk P w K mg base CX0 7 f fd ["self", "chosen"] (spIsWay P w cs Se) := by
  refine F.ok scIsWay (fun vs H Q E h => ?_) (fun cdv A outer s H vs Q E hr h => ?_)
  · obtain ⟨a, ch, tr, le, co, mv, kn, R, Pl, trs, n, rfl, _⟩ := h
    rfl
  · obtain ⟨a, ch, tr, le, co, mv, kn, R, Pl, trs, n, rfl, sR, hRk, hV, hDG, hn, hch, hro, k⟩ := h
    refine ⟨_, pss_cons (ps_for PassesOwn.never rfl (pi_range1 rfl T.f.e.d.p.range (pa_cons (pe_callB call_len_seq (by rfl) T.f.e.d.p.h.len PySem.boot_len (pa_cons (pe_fld (pv 0) rfl) pa_nil)) pa_nil)) (pg_name (i := 2) scIsWay.nd rfl (Or.inl rfl))
        (pss_one (ps_if (pt_not (pt_val (pe_meth (pv 0) T.cl mC GC hr bC .nil pass0 (pa_cons (pv 2) (pa_cons (pv 1) pa_nil))))) (pss_one (ps_ret pe_bl)) pss_nil)))
      (pss_one (ps_ret pe_bl)), ?_⟩
    obtain ⟨⟨dx, h1⟩, hSt0, _⟩ := id hV
    obtain ⟨⟨tas, ht1, ht2⟩, _, hok⟩ := id hSt0
    have er := Mx.right_can hok hro
    have etl : (tas.map V.ref).length = Pl.tracks.length := by rw [List.length_map, ht2.len]
    have htr := hok.tracks
    refine ⟨_, rfl, a, Se, dx, _, _, rfl, sR _ _ h1, T.cl, T.nt, se_tr, tr, _, rfl, .inl (SqL.of (sR _ _ ht1)), _, rfl, ?_, ?_, ?_⟩
    · show -(2 ^ 62) ≤ (((tas.map V.ref).length : Nat) : Int)
      omega
    · show (((tas.map V.ref).length : Nat) : Int) < 2 ^ 62
      rw [etl]
      omega
    rw [etl]
    refine for_range (lo := 0) (n := Pl.tracks.length) (fun i σ H' => (∃ v2, σ = [some (.ref a), some (.ref ch), v2]) ∧ KpN kn H H' ∧ DicG P w Pl H' kn (n + i) ∧ ∀ t, t < i → Mx.can Pl t (Mx.grp trs t) = true) ⟨⟨none, rfl⟩, KpN.refl _ _, hDG, fun t ht => absurd ht (Nat.not_lt_zero _)⟩ ?_ ?_
    · rintro i σ H1 hi ⟨⟨v2, rfl⟩, kp1, hDG1, hall⟩
      have sR1 := kp1.sub sR hRk
      refine ⟨_, rfl, a, dx, _, rfl, sR1 _ _ h1, se_no (by decide +kernel) (by decide +kernel) (by decide +kernel) (by decide +kernel) (by decide +kernel), _, rfl, _, rfl, ?_⟩
      refine ⟨a, ch, tr, le, co, mv, kn, R, Pl, trs, i, n + i, (by rw [Int.zero_add]; rfl), sR1, hRk, hV, hDG1, (by omega), hch, hro, fun H2 kp2 hDG2 => ⟨_, rfl, ?_⟩⟩
      cases hc : Mx.can Pl i (Mx.grp trs i) with
      | false =>
        refine iteY rfl ?_
        have ef : Pl.right trs = false := by
          rw [er, List.all_eq_false]
          exact ⟨i, List.mem_range.mpr hi, by rw [hc]; simp⟩
        have q := k H2 (kp1.trans kp2) (hDG2.le (by omega))
        rw [ef] at q
        exact q
      | true =>
        refine iteN rfl ?_
        refine ⟨⟨_, rfl⟩, kp1.trans kp2, hDG2.le (by omega), fun t ht => ?_⟩
        by_cases z : t = i
        · rw [z]; exact hc
        · exact hall t (by omega)
    · rintro σ H1 ⟨⟨v2, rfl⟩, kp1, hDG1, hall⟩
      have et : Pl.right trs = true := by
        rw [er, List.all_eq_true]
        exact fun t ht => hall t (List.mem_range.mp ht)
      have q := k H1 kp1 (hDG1.le (by omega))
      rw [et] at q
      exact q
end
end Pf
namespace Pf
open PySem PySem.Spec PyProof.Rows L2
def spWays (prog : Program) (w : World) (cs : Cs) (Se : Addr) : Sp := fun vs H Q _ => ∃ (a tr le co mv kn : Addr) (R : Hp) (P : Sx61.Plan), vs = [.ref a] ∧ Same R H ∧ R kn = none ∧ SeV cs Se R a tr le co mv kn P ∧ DicG prog w P H kn 0 ∧
  ∀ (H' : Hp) (D : Addr) (as : List Addr), KpN kn H H' → H' D = some (.lst (as.map V.ref)) → Each (fun _ a r => H' a = some (.lst (Nv r))) as P.ways → Q (.ref D) H'
def spAllWays (cs : Cs) : Sp := fun vs H Q _ => ∃ (p tr le co go : Addr) (coAs goAs : List Addr) (P : Sx61.Plan), vs = [.ref p] ∧ PlanV cs H p tr le co go coAs goAs P ∧ TabM cs.tab H ∧
  ∀ (H' : Hp) (D : Addr) (as : List Addr), KpT cs.tab H H' → TabM cs.tab H' → H' D = some (.lst (as.map V.ref)) → Each (fun _ a r => H' a = some (.lst (Nv r))) as P.ways → Q (.ref D) H'
section
variable {P : Program} {w : World} {K : Frag} {mg : Str → Option Value} {base : Heap}
theorem scWays : FnScope ["self", "choices", "chosen"] ["self"] (defScope sWays) := ⟨rfl, rfl, rfl, by decide +kernel, rfl, by decide +kernel, by decide +kernel⟩
theorem ok_ways {f fA fI Se : Addr} {cs : Cs} {fd fdA fdI : FuncData} (F : Fun K "ways" "Search.ways" sWays f fd) (T : TxW K mg cs Se)
    (FA : Fun K "all_choices" "all_choices" sChoices fA fdA) (bA : Binds K fdA ["trains", "tracks"] []) (mA : mg "all_choices" = some (.ref fA))
    (GI : FnOk P w K mg base CX0 7 fI fdI ["self", "chosen"] (spIsWay P w cs Se)) (bI : Binds K fdI ["self", "chosen"] []) (mI : Meth K Se "is_way" fI) : FnOk P w K mg base CX0 8 f fd ["self"] (spWays P w cs Se) := by
  have GA : FnOk P w K mg base CX0 1 fA fdA ["trains", "tracks"] spChoices := ok_choices FA T.f.e.d.p.range
  refine F.ok scWays (fun vs H Q E h => ?_) (fun cdv A outer s H vs Q E hr h => ?_)
  · obtain ⟨a, tr, le, co, mv, kn, R, Pl, rfl, _⟩ := h
    rfl
  · obtain ⟨a, tr, le, co, mv, kn, R, Pl, rfl, sR, hRk, hV, hDG, k⟩ := h
    have hr1 := hr.mono (show 1 ≤ 7 by decide)
    refine ⟨_, pss_cons (ps_set (i := 1) scWays.nd rfl (Or.inl rfl) (pe_call GA hr1 rfl mA FA.kp bA .nil pass0 (pa_cons (pe_callB call_len_seq (by rfl) T.f.e.d.p.h.len PySem.boot_len (pa_cons (pe_fld (pv 0) rfl) pa_nil)) (pa_cons (pe_callB call_len_seq (by rfl) T.f.e.d.p.h.len PySem.boot_len (pa_cons (pe_fld (pv 0) rfl) pa_nil)) pa_nil))))
      (pss_one (ps_ret (pe_lc (own := [("chosen", 2)]) (tt := tTest (tMeth Se "is_way" (spIsWay P w cs Se) [] E0 (tVar 0) (tCons (tVar 2) tNil))) (te := tVar 2) rfl scWays.nd (pi_list (pv 1)) (blkOk_by (by rfl)) (fun _ _ _ _ _ => by exact pg_name (i := 2) scWays.nd rfl (Or.inl rfl) (.inr rfl))
        (fun _ _ _ _ _ => by exact pts_one (pt_val (pe_meth (pv 0) T.cl mI GI hr bI .nil pass0 (pa_cons (pv 2) pa_nil)))) (fun _ _ _ _ _ => by exact pv 2)))), ?_⟩
    obtain ⟨⟨dx, h1⟩, hSt0, ⟨coAs, h3, hC⟩, _⟩ := id hV
    obtain ⟨⟨tas, ht1, ht2⟩, _, hok⟩ := id hSt0
    have ecl : (coAs.map V.ref).length = Pl.comings.length := by rw [List.length_map, hC.len]
    have etl : (tas.map V.ref).length = Pl.tracks.length := by rw [List.length_map, ht2.len]
    refine ⟨_, rfl, a, Se, dx, _, _, rfl, sR _ _ h1, T.cl, T.nc, se_co, co, _, rfl, .inl (SqL.of (sR _ _ h3)), _, rfl, a, Se, dx, _, _, rfl, sR _ _ h1, T.cl, T.nt, se_tr, tr, _, rfl, .inl (SqL.of (sR _ _ ht1)), ?_⟩
    refine ⟨Pl.comings.length, Pl.tracks.length, (by rw [ecl, etl]; rfl), hok.coms, hok.tracks, fun H1 D0 as0 s1 hD0 hE0 => ?_⟩
    have hfew := rows_few hok.coms hok.tracks
    obtain ⟨xs0, hkn, _⟩ := hDG.same s1
    have nk : ∀ b xs, H1 b = some (.lst xs) → b ≠ kn := fun b xs e => ne_of e hkn (by intro z; cases z)
    refine ⟨_, rfl, D0, rfl, ⟨_, SqL.of hD0⟩, fun D hD => ?_⟩
    have nDk : D ≠ kn := fun z => by rw [z, hkn] at hD; cases hD
    refine lc_list (K := K) (a := D0) (xs := as0.map V.ref) (fun i H' => KpN kn H1 H' ∧ DicG P w Pl H' kn (4 * i) ∧ ∃ bs : List Addr, H' D = some (.lst (bs.map V.ref)) ∧ bs.length ≤ i ∧ Each (fun _ a r => H1 a = some (.lst (Nv r))) bs (((Sx61.rows Pl.tracks.length Pl.comings.length).take i).filter Pl.right))
      ⟨KpN.of (same_new hD), (hDG.same s1).same (same_new hD), [], upd_same, Nat.le_refl _, Each.nil⟩ (fun i H' _ e => SqL.of (e.1 _ _ hD0 (nk _ _ hD0))) ?_ ?_
    · rintro i v H2 hv ⟨kp2, hDG2, bs, hDl, hbl, hEb⟩
      obtain ⟨ra, hra, rfl⟩ := ref_inv hv
      obtain ⟨row, hrow, hrr⟩ := hE0.of hra
      have hrw : Sx61.rowOk Pl row = true := Mx.rowOk_iff.mpr (List.mem_of_getElem? hrow)
      have hil := (List.getElem?_eq_some_iff.mp hrow).1
      have sB : Same (But H1 kn) H2 := kp2.sub (but_same _ _) (but_none _ _)
      have kB : Same R (But H1 kn) := fun b o e => but_get (s1 _ _ (sR _ _ e)) (fun z => by rw [z, hRk] at e; cases e)
      refine ⟨rfl, ?_⟩
      refine ⟨_, rfl, a, dx, _, rfl, sB _ _ (kB _ _ h1), se_no (by decide +kernel) (by decide +kernel) (by decide +kernel) (by decide +kernel) (by decide +kernel), _, rfl, ?_⟩
      refine ⟨a, ra, tr, le, co, mv, kn, But H1 kn, Pl, row, 4 * i, rfl, sB, but_none _ _, hV.mono (Keep.of kB), hDG2, (by omega), but_get hrr (nk _ _ hrr), hrw, fun H3 kp3 hDG3 => ⟨_, rfl, ?_⟩⟩
      have hDl3 := kp3 _ _ hDl nDk
      rw [Mx.take_snoc hrow, List.filter_append, List.filter_cons, List.filter_nil]
      show if Pl.right row = true then _ else _
      by_cases c : Pl.right row = true
      · rw [if_pos c, if_pos c]
        have s4 : KpN kn H1 (upd H3 D (.lst (bs.map V.ref ++ [V.ref ra]))) := fun b o e n => by
          rw [upd_ne (ne_of_none e hD)]
          exact kp3 _ _ (kp2 _ _ e n) n
        refine ⟨_, rfl, _, hDl3, ?_, s4, ?_, bs ++ [ra], ?_, ?_, hEb.snoc hrr⟩
        · rw [List.length_map, sizeLine_eq]
          omega
        · obtain ⟨xs, x1, x2, x3⟩ := hDG3
          refine ⟨xs, by rw [upd_ne nDk.symm]; exact x1, by omega, fun x hx => ⟨?_, (x3 x hx).2⟩⟩
          obtain ⟨c', e1, e2⟩ := (x3 x hx).1
          exact ⟨c', by rw [upd_ne (ne_of e1 hDl3 (by intro z; cases z))]; exact e1, by rw [upd_ne (ne_of e2 hDl3 (by intro z; cases z))]; exact e2⟩
        · rw [upd_same, List.map_append]
          rfl
        · rw [List.length_append]
          show bs.length + 1 ≤ i + 1
          omega
      · rw [if_neg c, if_neg c, List.append_nil]
        exact ⟨kp2.trans kp3, hDG3.le (by omega), bs, hDl3, Nat.le_succ_of_le hbl, hEb⟩
    rintro H2 ⟨kp2, hDG2, bs, hDl, hbl, hEb⟩
    rw [List.length_map, hE0.len, List.take_length] at hEb
    exact k H2 D bs ((KpN.of s1).trans kp2) hDl (hEb.mono fun _ b r q => kp2 _ _ q (nk _ _ q))
theorem scAllWays : FnScope ["self"] ["self"] (defScope sAllWays) := ⟨rfl, rfl, rfl, by decide +kernel, rfl, by decide +kernel, by decide +kernel⟩
theorem ok_allways {f fI fW Se : Addr} {cs : Cs} {fd fdI fdW : FuncData} (F : Fun K "all_ways" "Plan.all_ways" sAllWays f fd) (T : TxW K mg cs Se)
    (M : Mk K Se fI) (GI : FnOk P w K mg base CX0 4 fI fdI ["self", "tracks", "lengths", "coming", "going"] (spSeI P w cs Se)) (bI : Binds K fdI ["self", "tracks", "lengths", "coming", "going"] [])
    (GW : FnOk P w K mg base CX0 8 fW fdW ["self"] (spWays P w cs Se)) (bW : Binds K fdW ["self"] []) (mW : Meth K Se "ways" fW) : FnOk P w K mg base CX0 9 f fd ["self"] (spAllWays cs) := by
  refine F.ok scAllWays (fun vs H Q E h => ?_) (fun cdv A outer s H vs Q E hr h => ?_)
  · obtain ⟨p, tr, le, co, go, coAs, goAs, Pl, rfl, _⟩ := h
    rfl
  · obtain ⟨p, tr, le, co, go, coAs, goAs, Pl, rfl, hV, ht, k⟩ := h
    have hr5 := hr.mono (show 5 ≤ 8 by decide)
    refine ⟨_, pss_one (ps_ret (pe_meth0 (pe_make M GI hr5 rfl T.mgW bI .nil pass0 (pa_cons (pe_fld (pv 0) rfl) (pa_cons (pe_fld (pv 0) rfl) (pa_cons (pe_fld (pv 0) rfl) (pa_cons (pe_fld (pv 0) rfl) pa_nil))))) T.cl mW GW hr bW .nil pass0)), ?_⟩
    obtain ⟨⟨dx, h1⟩, h2, h3, h4, hT, hC, hG, hok⟩ := id hV
    have TP := T.f.e.d.p
    refine ⟨_, rfl, p, cs.pl, dx, _, _, rfl, h1, TP.cl, TP.nt, f4_1 (by decide +kernel) (by decide +kernel) (by decide +kernel), _, rfl, p, cs.pl, dx, _, _, rfl, h1, TP.cl, TP.nl, f4_2 (by decide +kernel) (by decide +kernel), _, rfl, p, cs.pl, dx, _, _, rfl, h1, TP.cl, TP.nc, f4_3 (by decide +kernel), _, rfl, p, cs.pl, dx, _, _, rfl, h1, TP.cl, TP.ng, f4_4, fun x dx' nx ndx nex => ?_⟩
    have s1 : Same H (upd (upd H dx' (.own x)) x (.ins Se dx' [])) := fun b o e => by
      rw [upd_ne (ne_of_none e nx), upd_ne (ne_of_none e ndx)]
      exact e
    refine ⟨x, dx', tr, le, co, go, coAs, goAs, Pl, H, rfl, upd_same, s1, nx, h3, h4, hC, hG, hok, TabM.same s1 ht, fun H2 D kn mvAs hx2 hD2 hE2 hkn2 hkn kp2 ht2 => ⟨rfl, ?_⟩⟩
    have kp02 : KpT cs.tab H H2 := fun b o e n => kp2 b o (s1 b o e) (ne_of_none e nx) n
    have ky02 : Keep H H2 := kp02.keep ht
    have hknH : H kn = none := s1.free hkn
    have kB : Keep H (But H2 kn) := fun b o e n => but_get (ky02 b o e n) (ne_of_none e hknH)
    have hVB := hV.mono kB
    have nxk : x ≠ kn := ne_of hx2 hkn2 (by intro z; cases z)
    have nDk : D ≠ kn := ne_of hD2 hkn2 (by intro z; cases z)
    refine ⟨x, dx', _, rfl, hx2, se_no (by decide +kernel) (by decide +kernel) (by decide +kernel) (by decide +kernel) (by decide +kernel), ?_⟩
    refine ⟨x, tr, le, co, D, kn, But H2 kn, Pl, rfl, but_same _ _, but_none _ _, ⟨⟨dx', but_get hx2 nxk⟩, hVB.st, ⟨coAs, kB.lst h3, hVB.2.2.2.2.2.1⟩, mvAs, but_get hD2 nDk, hE2.mono fun _ a m q => ?_⟩, ⟨[], hkn2, Nat.le_refl _, fun x hx => by cases hx⟩, fun H3 D3 as kp3 hD3 hE3 => ?_⟩
    · obtain ⟨dm, t, q1, q2⟩ := q
      exact ⟨dm, t, but_get q1 (ne_of q1 hkn2 (by intro z; cases z)), q2.mono kB⟩
    · have kp03 : KpT cs.tab H H3 := fun b o e n => kp3 b o (kp02 b o e n) (ne_of_none e hknH)
      have ht3 : TabM cs.tab H3 := TabM.same (kp3.sub (but_same _ _) (but_none _ _)) ht2
      exact k H3 D3 as kp03 ht3 hD3 hE3
end
end Pf
namespace Pf
open PySem PySem.Spec PyProof.Rows L2
def spOnTrk : Sp := fun vs H Q _ => ∃ (wa : Addr) (as : List Addr) (ws : List (List Nat)) (k t : Nat), vs = [.ref wa, .int (Int.ofNat k), .int (Int.ofNat t)] ∧ H wa = some (.lst (as.map V.ref)) ∧ Each (fun _ a r => H a = some (.lst (Nv r))) as ws ∧ ws.length ≤ 4096 ∧ (∀ r ∈ ws, k < r.length) ∧
  ∀ H' : Hp, Same H H' → Q (.bl (ws.all fun x => x.getD k 0 == t)) H'
def spCheap (cs : Cs) : Sp := fun vs H Q _ => ∃ (p wa tr le co go : Addr) (coAs goAs as : List Addr) (P : Sx61.Plan) (ws : List (List Nat)), vs = [.ref p, .ref wa] ∧ PlanV cs H p tr le co go coAs goAs P ∧ H wa = some (.lst (as.map V.ref)) ∧ Each (fun _ a r => H a = some (.lst (Nv r))) as ws ∧
  ws ≠ [] ∧ ws.length ≤ 4096 ∧ (∀ r ∈ ws, Sx61.rowOk P r = true ∧ Mx.Priced P r) ∧
  ∀ (H' : Hp) (D : Addr) (bs : List Addr) (m : Nat), Same H H' → H' D = some (.lst (bs.map V.ref)) → Each (fun _ a r => H' a = some (.lst (Nv r))) bs (ws.filter fun r => decide (P.cost r = m)) → (∃ r ∈ ws, P.cost r = m) → (∀ r ∈ ws, m ≤ P.cost r) → Q (.ref D) H'
structure TxB (K : Frag) (mg : Str → Option Value) (cs : Cs) : Prop where
  f : TxF K mg cs
  min : mg "min" = none
  set : mg "set" = none
  enum : mg "enumerate" = none
section
variable {P : Program} {w : World} {K : Frag} {mg : Str → Option Value} {base : Heap}
theorem getD_of {l : List Nat} {k : Nat} (h : k < l.length) : l[k]? = some (l.getD k 0) := by
  rw [List.getD_eq_getElem?_getD, List.getElem?_eq_getElem h]
  rfl
theorem scOnTrk : FnScope ["ways", "train", "track", "way"] ["ways", "train", "track"] (defScope sOnTrk) := ⟨rfl, rfl, rfl, by decide +kernel, rfl, by decide +kernel, by decide +kernel⟩
theorem ok_ontrk {f : Addr} {fd : FuncData} (F : Fun K "is_on_track" "is_on_track" sOnTrk f fd) (T : TxH K mg) : FnOk P w K mg base CX0 1 f fd ["ways", "train", "track"] spOnTrk := by
  refine F.ok scOnTrk (fun vs H Q E h => ?_) (fun cdv A outer s H vs Q E hr h => ?_)
  · obtain ⟨wa, as, ws, k, t, rfl, _⟩ := h
    rfl
  · obtain ⟨wa, as, ws, n, t, rfl, h1, hE, hz, hl, k⟩ := h
    refine ⟨_, pss_one (ps_ret (pe_callB (cr_all rfl) (by rfl) T.all boot_all (pa_cons (pe_lc (own := [("way", 3)]) (te := tOp rEq (tOp (rIxL K) (tVar 3) (tVar 1)) (tVar 2)) rfl scOnTrk.nd (pi_list (pv 0)) (blkOk_by (by rfl)) (fun _ _ _ _ _ => by exact pg_name (i := 3) scOnTrk.nd rfl (Or.inl rfl) (.inr rfl)) (fun _ _ _ _ _ => by exact pts_nil)
      (fun _ _ _ _ _ => by exact pe_cmpR op_eq (pe_ix ix_list (pv 3) (pv 1) (fun _ _ => rfl)) (pv 2) (nomark _))) pa_nil))), ?_⟩
    refine ⟨_, rfl, wa, rfl, ⟨_, SqL.of h1⟩, fun D hD => ?_⟩
    have sD : ∀ xs, Same H (upd H D (.lst xs)) := fun xs => same_new hD
    refine lc_list (K := K) (a := wa) (xs := as.map V.ref) (fun i H' => H' = upd H D (.lst (((ws.take i).map fun x => x.getD n 0 == t).map V.bl))) rfl (fun i H' _ e => by subst e; exact SqL.of (sD _ _ _ h1)) ?_ ?_
    · intro i v H' hv e
      subst e
      obtain ⟨ra, hra, rfl⟩ := ref_inv hv
      obtain ⟨row, hrow, hrr⟩ := hE.of hra
      have hx := getD_of (hl row (List.mem_of_getElem? hrow))
      refine ⟨rfl, yes_then ?_⟩
      refine ⟨_, rfl, _, rfl, ra, _, _, _, rfl, rfl, SqL.of (sD _ _ _ hrr), atI_nat (nv_at hx), _, rfl, rfl, _, upd_same, ?_, ?_⟩
      · rw [List.length_map, List.length_map, List.length_take, sizeLine_eq]
        omega
      · have e2 : decide (V.int (Int.ofNat (row.getD n 0)) = V.int (Int.ofNat t)) = (row.getD n 0 == t) := by
          rw [Bool.eq_iff_iff, decide_eq_true_eq, beq_iff_eq]
          exact ⟨fun z => Int.ofNat.inj (V.int.inj z), fun z => by rw [z]⟩
        rw [upd_upd, Mx.take_snoc hrow, List.map_append, List.map_append, e2]
        rfl
    · intro H' e
      subst e
      rw [List.length_map, hE.len, List.take_length]
      refine ⟨D, _, rfl, SqL.of upd_same, ?_⟩
      have q := k _ (sD ((ws.map fun x => x.getD n 0 == t).map V.bl))
      rw [List.all_map]
      exact q
theorem scCheap : FnScope ["self", "ways", "costs", "least", "way", "cost"] ["self", "ways"] (defScope sCheap) := ⟨rfl, rfl, rfl, by decide +kernel, rfl, by decide +kernel, by decide +kernel⟩
theorem ok_cheap {f fC : Addr} {cs : Cs} {fd fdC : FuncData} (F : Fun K "cheapest_of" "Plan.cheapest_of" sCheap f fd) (T : TxB K mg cs)
    (GC : FnOk P w K mg base CX0 2 fC fdC ["self", "chosen"] (spCostOf cs)) (bC : Binds K fdC ["self", "chosen"] []) (mC : Meth K cs.pl "cost_of" fC) : FnOk P w K mg base CX0 3 f fd ["self", "ways"] (spCheap cs) := by
  refine F.ok scCheap (fun vs H Q E h => ?_) (fun cdv A outer s H vs Q E hr h => ?_)
  · obtain ⟨p, wa, tr, le, co, go, coAs, goAs, as, Pl, ws, rfl, _⟩ := h
    rfl
  · obtain ⟨p, wa, tr, le, co, go, coAs, goAs, as, Pl, ws, rfl, hV, hwa, hE, hne, hfew, hpr, k⟩ := h
    have TP := T.f.e.d.p
    refine ⟨_, pss_cons (ps_setLc (i := 2) (own := [("way", 4)]) (te := tMeth cs.pl "cost_of" (spCostOf cs) [] E0 (tVar 0) (tCons (tVar 4) tNil)) rfl scCheap.nd rfl rfl (sw_true rfl rfl rfl rfl) (pi_list (pv 1)) (blkOk_by (by rfl)) (fun _ _ _ _ _ => by exact pg_name (i := 4) scCheap.nd rfl (Or.inl rfl) (.inr rfl)) (fun _ _ _ _ _ => by exact pts_nil)
        (fun _ _ _ _ _ => by exact pe_meth (pv 0) TP.cl mC GC hr bC .nil pass0 (pa_cons (pv 4) pa_nil)))
      (pss_cons (ps_set (i := 3) scCheap.nd rfl (Or.inr rfl) (pe_callB (cr_min rfl) (by rfl) T.min boot_min (pa_cons (pv 2) pa_nil)))
      (pss_one (ps_ret (pe_lc (own := [("way", 4), ("cost", 5)]) (g := gTup K 2 (gCons (gName 4) (gCons (gName 5) gNil))) (tt := tTest (tOp rEq (tVar 5) (tVar 3))) (te := tVar 4) rfl scCheap.nd (pi_zip rfl T.f.e.zip (pa_cons (pv 1) (pa_cons (pv 2) pa_nil))) (blkOk_by (by rfl)) (fun _ _ _ _ _ => by exact pg_tup rfl (pgs_cons (pg_name (i := 4) scCheap.nd rfl (Or.inl rfl) (.inr rfl)) (pgs_cons (pg_name (i := 5) scCheap.nd rfl (Or.inl rfl) (.inr rfl)) pgs_nil)))
        (fun _ _ _ _ _ => by exact pts_one (pt_cmpR op_eq (pv 5) (pv 3) (nomark _))) (fun _ _ _ _ _ => by exact pv 4))))), ?_⟩
    obtain ⟨⟨dx, h1⟩, _⟩ := id hV
    refine ⟨_, rfl, wa, rfl, ⟨_, SqL.of hwa⟩, fun C hC => ?_⟩
    refine lc_list (K := K) (a := wa) (xs := as.map V.ref) (fun i H' => Same H H' ∧ H' C = some (.lst (Nv ((ws.take i).map Pl.cost)))) ⟨same_new hC, upd_same⟩ (fun i H' _ e => SqL.of (e.1 _ _ hwa)) ?_ ?_
    · rintro i v H' hv ⟨sm, hCl⟩
      obtain ⟨ra, hra, rfl⟩ := ref_inv hv
      obtain ⟨row, hrow, hrr⟩ := hE.of hra
      have hil := (List.getElem?_eq_some_iff.mp hrow).1
      obtain ⟨p1, p2⟩ := hpr row (List.mem_of_getElem? hrow)
      refine ⟨rfl, yes_then ?_⟩
      refine ⟨_, rfl, p, dx, _, rfl, sm _ _ h1, f4_n (by decide +kernel), _, rfl, p, ra, tr, le, co, go, coAs, goAs, Pl, row, rfl, hV.mono (Keep.of sm), sm _ _ hrr, p1, p2, fun H2 s2 => ⟨_, s2 _ _ hCl, ?_, ?_, ?_⟩⟩
      · rw [nv_len, List.length_map, List.length_take, sizeLine_eq]
        omega
      · intro b o e
        rw [upd_ne (ne_of_none e hC)]
        exact s2 _ _ (sm b o e)
      · rw [upd_same, Mx.take_snoc hrow, List.map_append, nv_app]
        rfl
    rintro H1 ⟨s1, hC1⟩
    rw [List.length_map, hE.len, List.take_length] at hC1
    have hws : 0 < ws.length := by
      cases ws with
      | nil => exact absurd rfl hne
      | cons _ _ => exact Nat.succ_pos _
    refine ⟨_, rfl, C, (ws.map Pl.cost).map Int.ofNat, rfl, (by rw [show ((ws.map Pl.cost).map Int.ofNat).map V.int = Nv (ws.map Pl.cost) from nv_iv _]; exact SqL.of hC1), (by rw [List.length_map, List.length_map]; exact hws), fun z hz hmin => ?_⟩
    obtain ⟨c0, hc0, rfl⟩ := List.mem_map.mp hz
    obtain ⟨r0, hr0, rfl⟩ := List.mem_map.mp hc0
    have hmin' : ∀ r ∈ ws, Pl.cost r0 ≤ Pl.cost r := fun r hr => by
      have := hmin _ (List.mem_map.mpr ⟨_, List.mem_map.mpr ⟨r, hr, rfl⟩, rfl⟩)
      exact Int.ofNat_le.mp this
    refine ⟨_, rfl, _, rfl, wa, C, _, _, rfl, SqL.of (s1 _ _ hwa), SqL.of hC1, fun D hD => ?_⟩
    refine lc_zip (K := K) (a := wa) (b := C) (xs := as.map V.ref) (ys := Nv (ws.map Pl.cost)) (by rw [List.length_map, nv_len, List.length_map, hE.len]) (fun i H' => Same H1 H' ∧ ∃ bs : List Addr, H' D = some (.lst (bs.map V.ref)) ∧ bs.length ≤ i ∧ Each (fun _ a r => H a = some (.lst (Nv r))) bs ((ws.take i).filter fun r => decide (Pl.cost r = Pl.cost r0))) ⟨same_new hD, [], upd_same, Nat.le_refl _, Each.nil⟩ (fun i H' _ e => ⟨SqL.of (e.1 _ _ (s1 _ _ hwa)), SqL.of (e.1 _ _ hC1)⟩) ?_ ?_
    · rintro i x y H' Tp hx hy ⟨sm, bs, hDl, hbl, hEb⟩ hTp
      obtain ⟨ra, hra, rfl⟩ := ref_inv hx
      obtain ⟨c, hc, rfl⟩ := nv_inv hy
      obtain ⟨row, hrow, hrr⟩ := hE.of hra
      have hil := (List.getElem?_eq_some_iff.mp hrow).1
      have ec : c = Pl.cost row := by
        rw [List.getElem?_map, hrow] at hc
        exact (Option.some.inj hc).symm
      subst ec
      have sT : Same H' (upd H' Tp (.tup [.ref ra, .int (Int.ofNat (Pl.cost row))])) := same_new hTp
      refine ⟨Tp, _, rfl, SqT.of upd_same, rfl, _, _, rfl, _, _, rfl, rfl, rfl, ?_⟩
      refine ⟨_, rfl, _, rfl, rfl, _, rfl, ?_⟩
      rw [Mx.take_snoc hrow, List.filter_append, List.filter_cons, List.filter_nil]
      by_cases c : Pl.cost row = Pl.cost r0
      · rw [if_pos (decide_eq_true c)]
        refine iteY (decide_eq_true (show V.int (Int.ofNat (Pl.cost row)) = V.int (Int.ofNat (Pl.cost r0)) by rw [c])) ?_
        refine ⟨_, rfl, _, sT _ _ hDl, ?_, ?_, bs ++ [ra], ?_, ?_, hEb.snoc hrr⟩
        · rw [List.length_map, sizeLine_eq]
          omega
        · intro b o e
          rw [upd_ne (ne_of_none e hD)]
          exact sT _ _ (sm b o e)
        · rw [upd_same, List.map_append]
          rfl
        · rw [List.length_append]
          show bs.length + 1 ≤ i + 1
          omega
      · rw [if_neg (by simpa using c), List.append_nil]
        refine iteN (decide_eq_false (show ¬ V.int (Int.ofNat (Pl.cost row)) = V.int (Int.ofNat (Pl.cost r0)) from fun z => c (Int.ofNat.inj (V.int.inj z)))) ?_
        exact ⟨sm.trans sT, bs, sT _ _ hDl, Nat.le_succ_of_le hbl, hEb⟩
    rintro H2 ⟨s2, bs, hDl, hbl, hEb⟩
    rw [List.length_map, hE.len, List.take_length] at hEb
    exact k H2 D bs _ (s1.trans s2) hDl (hEb.mono fun _ _ _ q => s2 _ _ (s1 _ _ q)) ⟨r0, hr0, rfl⟩ hmin'
end
end Pf
namespace Pf
open PySem PySem.Spec PyProof.Rows L2
def spAsk (cs : Cs) (X : Sx61.Call) : Sp := fun vs H Q _ => ∃ (p le co go : Addr) (R : Hp) (P : Sx61.Plan), vs = [.ref p] ∧ PlanA cs R H p le co go P ∧ TabM cs.tab H ∧ R cs.tab = none ∧ Ends1 cs R H p le co go P X Q
section
variable {P : Program} {w : World} {K : Frag} {mg : Str → Option Value} {base : Heap}
theorem rows2_len {a b : List Nat} (h : a.length + b.length ≤ 1000) : (rowsOut [a, b]).length ≤ 100000 := by
  unfold rowsOut
  simp only [List.flatMap_cons, List.flatMap_nil, List.length_append, List.length_cons, List.length_map, List.append_nil]
  omega
theorem scBest : FnScope ["self", "ways", "cheapest"] ["self"] (defScope sBest) := ⟨rfl, rfl, rfl, by decide +kernel, rfl, by decide +kernel, by decide +kernel⟩
theorem ok_best {f fA fC fO fW : Addr} {cs : Cs} {fd fdA fdC fdO fdW : FuncData} (F : Fun K "best" "Plan.best" sBest f fd) (T : TxB K mg cs)
    (GA : FnOk P w K mg base CX0 9 fA fdA ["self"] (spAllWays cs)) (bA : Binds K fdA ["self"] []) (mA : Meth K cs.pl "all_ways" fA)
    (GC : FnOk P w K mg base CX0 3 fC fdC ["self", "ways"] (spCheap cs)) (bC : Binds K fdC ["self", "ways"] []) (mC : Meth K cs.pl "cheapest_of" fC)
    (GO : FnOk P w K mg base CX0 2 fO fdO ["self", "chosen"] (spCostOf cs)) (bO : Binds K fdO ["self", "chosen"] []) (mO : Meth K cs.pl "cost_of" fO)
    (FW : Fun K "with_lists" "with_lists" sWith fW fdW) (bW : Binds K fdW ["number", "rows"] []) (mW : mg "with_lists" = some (.ref fW)) : FnOk P w K mg base CX0 10 f fd ["self"] (spAsk cs .best) := by
  have GW : FnOk P w K mg base CX0 1 fW fdW ["number", "rows"] spWith := ok_with FW T.f.e.d.p.h
  obtain ⟨u6, g6⟩ := T.f.e.d.p.gNW
  refine F.ok scBest (fun vs H Q E h => ?_) (fun cdv A outer s H vs Q E hr h => ?_)
  · obtain ⟨p, le, co, go, R, Pl, rfl, _⟩ := h
    rfl
  · obtain ⟨p, le, co, go, R, Pl, rfl, hP, ht, hRt, k⟩ := h
    have hr1 := hr.mono (show 1 ≤ 9 by decide)
    have hr2 := hr.mono (show 2 ≤ 9 by decide)
    have hr3 := hr.mono (show 3 ≤ 9 by decide)
    have TP := T.f.e.d.p
    refine ⟨_, pss_cons (ps_set (i := 1) scBest.nd rfl (Or.inl rfl) (pe_meth0 (pv 0) TP.cl mA GA hr bA .nil pass0))
      (pss_cons (ps_if (pt_cmpR op_eq (pe_callB call_len_seq (by rfl) TP.h.len PySem.boot_len (pa_cons (pv 1) pa_nil)) pe_int (nomark _)) (pss_one (ps_ret (pe_lst (pa_cons (pe_glob (v := .int (-6)) rfl g6 ⟨_, rfl⟩) pa_nil)))) pss_nil)
      (pss_cons (ps_set (i := 2) scBest.nd rfl (Or.inl rfl) (pe_meth (pv 0) TP.cl mC GC hr3 bC .nil pass0 (pa_cons (pv 1) pa_nil)))
      (pss_one (ps_ret (pe_call GW hr1 rfl mW FW.kp bW .nil pass0 (pa_cons (pe_meth (pv 0) TP.cl mO GO hr2 bO .nil pass0 (pa_cons (pe_ix ix_list (pv 2) pe_int (fun _ _ => rfl)) pa_nil))
        (pa_cons (pe_lst (pa_cons (pe_lst (pa_cons (pe_callB call_len_seq (by rfl) TP.h.len PySem.boot_len (pa_cons (pv 1) pa_nil)) (pa_cons (pe_callB call_len_seq (by rfl) TP.h.len PySem.boot_len (pa_cons (pv 2) pa_nil)) pa_nil))) (pa_cons (pe_ix ix_list (pv 2) pe_int (fun _ _ => rfl)) pa_nil))) pa_nil))))))), ?_⟩
    obtain ⟨tr, coAs, goAs, hV⟩ := hP.view
    obtain ⟨⟨dx, h1⟩, h2, h3, h4, hT, hC, hG, hok⟩ := id hV
    have es := Mx.step_best Pl
    have hfew := Mx.ways_few hok
    have lk : ∀ m : Str, (¬ m = "going" ∧ ¬ m = "coming" ∧ ¬ m = "lengths" ∧ ¬ m = "tracks") → (plF tr le co go).lookup m = none := fun m z => f4_0 z.1 z.2.1 z.2.2.1 z.2.2.2
    refine ⟨_, rfl, p, dx, _, rfl, h1, lk _ (by decide +kernel), p, tr, le, co, go, coAs, goAs, Pl, rfl, hV, ht, fun H1 wa as kp1 ht1 hwa hE => ?_⟩
    have ky1 : Keep H H1 := kp1.keep ht
    have hV1 := hV.mono ky1
    have eal : (as.map V.ref).length = Pl.ways.length := by rw [List.length_map, hE.len]
    refine ⟨_, rfl, wa, _, rfl, .inl (SqL.of hwa), rfl, _, rfl, ?_⟩
    cases hw : Pl.ways with
    | nil =>
      rw [hw] at es eal
      have es : Sx61.step Pl .best = (Pl, Sx61.ok (-6)) := es
      refine iteY (by rw [eal]; rfl) ?_
      refine ⟨z1, fun r hr4 => ?_⟩
      have s2 : Same H1 (upd H1 r (.lst [V.int (-6)])) := same_new hr4
      exact k.stayK hP ht hRt (by rw [es]) (kp1.trans (KpT.of s2)) (TabM.same s2 ht1) (kp1.free ht1 hr4) (by rw [es]; exact upd_same)
    | cons w0 wr =>
    have hne : Pl.ways ≠ [] := by rw [hw]; intro z; cases z
    refine iteN (decide_eq_false (fun z => ?_)) ?_
    · have := V.int.inj z
      rw [eal, hw, List.length_cons] at this
      omega
    refine ⟨_, rfl, p, dx, _, rfl, ky1.ins h1, lk _ (by decide +kernel), _, rfl, p, wa, tr, le, co, go, coAs, goAs, as, Pl, Pl.ways, rfl, hV1, hwa, hE, hne, hfew, fun r hr => Mx.ways_priced hr, fun H2 D bs m s2 hD hEb hex hmin => ?_⟩
    cases hf : Pl.ways.filter fun r => decide (Pl.cost r = m) with
    | nil =>
      obtain ⟨r0, hr0, e0⟩ := hex
      have : r0 ∈ Pl.ways.filter fun r => decide (Pl.cost r = m) := List.mem_filter.mpr ⟨hr0, decide_eq_true e0⟩
      rw [hf] at this
      cases this
    | cons r rest =>
    have hleast := Mx.least_filter hf hmin
    have hrm : r ∈ Pl.ways.filter fun r => decide (Pl.cost r = m) := by rw [hf]; exact .head _
    have hrw : r ∈ Pl.ways := (List.mem_filter.mp hrm).1
    have hcr : Pl.cost r = m := by simpa using (List.mem_filter.mp hrm).2
    have ebl : (bs.map V.ref).length = (Pl.ways.filter fun x => Pl.cost x == Pl.cost r).length := by
      rw [List.length_map, hEb.len, hcr]
      rfl
    rw [hf] at hEb
    obtain ⟨b0, hb0, hb0r⟩ := hEb.get (i := 0) (x := r) rfl
    obtain ⟨p1, p2⟩ := Mx.ways_priced hrw
    obtain ⟨tl, tt⟩ := rowOk_len p1
    have hcm := hok.coms
    rw [hleast] at es
    have es : Sx61.step Pl .best = (Pl, ⟨Sx61.num (Pl.cost r), [[Pl.ways.length, (Pl.ways.filter fun x => Pl.cost x == Pl.cost r).length], r]⟩) := es
    have hix : atI (bs.map V.ref) 0 = some (V.ref b0) := atI_nat (j := 0) (ref_at hb0)
    have k02 : KpT cs.tab H H2 := kp1.trans (KpT.of s2)
    have ky2 : Keep H H2 := k02.keep ht
    refine ⟨_, rfl, p, dx, _, rfl, ky2.ins h1, lk _ (by decide +kernel), _, rfl, D, _, _, _, rfl, rfl, SqL.of hD, hix, p, b0, tr, le, co, go, coAs, goAs, Pl, r, rfl, hV.mono ky2, hb0r, p1, p2, fun H3 s3 => ?_⟩
    refine ⟨_, rfl, wa, _, rfl, .inl (SqL.of (s3 _ _ (s2 _ _ hwa))), _, rfl, D, _, rfl, .inl (SqL.of (s3 _ _ hD)), z2, fun q1 hq1 => ?_⟩
    rw [eal, ebl]
    have s4 : Same H3 (upd H3 q1 (.lst [V.int ((Pl.ways.length : Nat) : Int), V.int (((Pl.ways.filter fun x => Pl.cost x == Pl.cost r).length : Nat) : Int)])) := same_new hq1
    refine ⟨_, rfl, D, _, _, _, rfl, rfl, SqL.of (s4 _ _ (s3 _ _ hD)), hix, z2, fun q2 hq2 => ?_⟩
    have s5 := s4.trans (same_new (o := HO.lst [V.ref q1, V.ref b0]) hq2)
    have s25 := s3.trans s5
    refine ⟨q2, _, [q1, b0], [[Pl.ways.length, (Pl.ways.filter fun x => Pl.cost x == Pl.cost r).length], r], rfl, upd_same, ⟨rfl, fun i a row e1 e2 => ?_⟩, rows2_len (by show 2 + r.length ≤ 1000; omega), fun H6 r6 s6 hr6 hr7 => ?_⟩
    · match i with
      | 0 =>
        cases e1
        cases e2
        exact (same_new (o := HO.lst [V.ref q1, V.ref b0]) hq2) _ _ upd_same
      | 1 =>
        cases e1
        cases e2
        exact s25 _ _ hb0r
      | i + 2 => cases e1
    · have s26 := s25.trans s6
      exact k.stayK hP ht hRt (by rw [es]) (k02.trans (KpT.of s26)) (TabM.same (s2.trans s26) ht1) ((k02.trans (KpT.of s25)).free (TabM.same (s2.trans s25) ht1) hr6) (by rw [es]; exact hr7)
end
end Pf
namespace Pf
open PySem PySem.Spec PyProof.Rows L2
abbrev rLS : List V → Hp → VK → Prop := fun xs H Q => ∃ (a : Addr) (S : Int → Bool) (n : Nat), xs = [.ref a] ∧ H a = some (.set S n) ∧ n ≤ 1000 ∧ Q (.int n) H
abbrev rSI (K : Frag) : List V → Hp → VK → Prop := fun xs H Q => ∃ (a : Addr) (ns : List Int), xs = [.ref a] ∧ SqL K H a (ns.map V.int) ∧ ns.length ≤ 1000 ∧ ∀ l, H l = none → Q (.ref l) (upd H l (.set (fun k => (oncePy ns).any (· == k)) (oncePy ns).length))
section
variable {P : Program} {w : World} {K : Frag} {mg : Str → Option Value} {base : Heap}
theorem scFewest : FnScope ["self", "ways", "least", "chosen", "way"] ["self"] (defScope sFewest) := ⟨rfl, rfl, rfl, by decide +kernel, rfl, by decide +kernel, by decide +kernel⟩
theorem ok_fewest {f fA fC fO fW : Addr} {cs : Cs} {fd fdA fdC fdO fdW : FuncData} (F : Fun K "fewest" "Plan.fewest" sFewest f fd) (T : TxB K mg cs)
    (GA : FnOk P w K mg base CX0 9 fA fdA ["self"] (spAllWays cs)) (bA : Binds K fdA ["self"] []) (mA : Meth K cs.pl "all_ways" fA)
    (GC : FnOk P w K mg base CX0 3 fC fdC ["self", "ways"] (spCheap cs)) (bC : Binds K fdC ["self", "ways"] []) (mC : Meth K cs.pl "cheapest_of" fC)
    (GO : FnOk P w K mg base CX0 2 fO fdO ["self", "chosen"] (spCostOf cs)) (bO : Binds K fdO ["self", "chosen"] []) (mO : Meth K cs.pl "cost_of" fO)
    (FW : Fun K "with_lists" "with_lists" sWith fW fdW) (bW : Binds K fdW ["number", "rows"] []) (mW : mg "with_lists" = some (.ref fW)) : FnOk P w K mg base CX0 10 f fd ["self"] (spAsk cs .fewest) := by
  have GW : FnOk P w K mg base CX0 1 fW fdW ["number", "rows"] spWith := ok_with FW T.f.e.d.p.h
  obtain ⟨u6, g6⟩ := T.f.e.d.p.gNW
  refine F.ok scFewest (fun vs H Q E h => ?_) (fun cdv A outer s H vs Q E hr h => ?_)
  · obtain ⟨p, le, co, go, R, Pl, rfl, _⟩ := h
    rfl
  · obtain ⟨p, le, co, go, R, Pl, rfl, hP, ht, hRt, k⟩ := h
    have hr1 := hr.mono (show 1 ≤ 9 by decide)
    have hr2 := hr.mono (show 2 ≤ 9 by decide)
    have hr3 := hr.mono (show 3 ≤ 9 by decide)
    have TP := T.f.e.d.p
    refine ⟨_, pss_cons (ps_set (i := 1) scFewest.nd rfl (Or.inl rfl) (pe_meth0 (pv 0) TP.cl mA GA hr bA .nil pass0))
      (pss_cons (ps_if (pt_cmpR op_eq (pe_callB call_len_seq (by rfl) TP.h.len PySem.boot_len (pa_cons (pv 1) pa_nil)) pe_int (nomark _)) (pss_one (ps_ret (pe_lst (pa_cons (pe_glob (v := .int (-6)) rfl g6 ⟨_, rfl⟩) pa_nil)))) pss_nil)
      (pss_cons (ps_set (i := 2) scFewest.nd rfl (Or.inr rfl) (pe_callB (cr_min rfl) (by rfl) T.min boot_min (pa_cons (pe_lc (own := [("way", 4)]) (te := tCB rLS (tCons (tCB (rSI K) (tCons (tVar 4) tNil)) tNil)) rfl scFewest.nd (pi_list (pv 1)) (blkOk_by (by rfl)) (fun _ _ _ _ _ => by exact pg_name (i := 4) scFewest.nd rfl (Or.inl rfl) (.inr rfl)) (fun _ _ _ _ _ => by exact pts_nil)
        (fun _ _ _ _ _ => by exact pe_callB call_len_setP (by rfl) TP.h.len PySem.boot_len (pa_cons (pe_callTy (call_set_ints rfl) (by rfl) T.set PyProof.Rows.boot_set (pa_cons (pv 4) pa_nil)) pa_nil))) pa_nil)))
      (pss_cons (ps_set (i := 3) scFewest.nd rfl (Or.inl rfl) (pe_ix ix_list (pe_meth (pv 0) TP.cl mC GC hr3 bC .nil pass0 (pa_cons (pe_lc (own := [("way", 4)]) (tt := tTest (tOp rEq (tCB rLS (tCons (tCB (rSI K) (tCons (tVar 4) tNil)) tNil)) (tVar 2))) (te := tVar 4) rfl scFewest.nd (pi_list (pv 1)) (blkOk_by (by rfl)) (fun _ _ _ _ _ => by exact pg_name (i := 4) scFewest.nd rfl (Or.inl rfl) (.inr rfl))
        (fun _ _ _ _ _ => by exact pts_one (pt_cmpR op_eq (pe_callB call_len_setP (by rfl) TP.h.len PySem.boot_len (pa_cons (pe_callTy (call_set_ints rfl) (by rfl) T.set PyProof.Rows.boot_set (pa_cons (pv 4) pa_nil)) pa_nil)) (pv 2) (nomark _))) (fun _ _ _ _ _ => by exact pv 4)) pa_nil)) pe_int (fun _ _ => rfl)))
      (pss_one (ps_ret (pe_call GW hr1 rfl mW FW.kp bW .nil pass0 (pa_cons (pv 2) (pa_cons (pe_lst (pa_cons (pe_lst (pa_cons (pe_meth (pv 0) TP.cl mO GO hr2 bO .nil pass0 (pa_cons (pv 3) pa_nil)) pa_nil)) (pa_cons (pv 3) pa_nil))) pa_nil)))))))), ?_⟩
    obtain ⟨tr, coAs, goAs, hV⟩ := hP.view
    obtain ⟨⟨dx, h1⟩, h2, h3, h4, hT, hC, hG, hok⟩ := id hV
    have es := Mx.step_fewest Pl
    have hfew := Mx.ways_few hok
    have hcm := hok.coms
    have lk : ∀ m : Str, (¬ m = "going" ∧ ¬ m = "coming" ∧ ¬ m = "lengths" ∧ ¬ m = "tracks") → (plF tr le co go).lookup m = none := fun m z => f4_0 z.1 z.2.1 z.2.2.1 z.2.2.2
    have hwl : ∀ r ∈ Pl.ways, r.length ≤ 6 := fun r hr => by
      have := (rowOk_len (Mx.ways_priced hr).1).1
      omega
    refine ⟨_, rfl, p, dx, _, rfl, h1, lk _ (by decide +kernel), p, tr, le, co, go, coAs, goAs, Pl, rfl, hV, ht, fun H1 wa as kp1 ht1 hwa hE => ?_⟩
    have ky1 : Keep H H1 := kp1.keep ht
    have eal : (as.map V.ref).length = Pl.ways.length := by rw [List.length_map, hE.len]
    refine ⟨_, rfl, wa, _, rfl, .inl (SqL.of hwa), rfl, _, rfl, ?_⟩
    cases hw : Pl.ways with
    | nil =>
      rw [hw] at es eal
      have es : Sx61.step Pl .fewest = (Pl, Sx61.ok (-6)) := es
      refine iteY (by rw [eal]; rfl) ?_
      refine ⟨z1, fun r hr4 => ?_⟩
      have s2 : Same H1 (upd H1 r (.lst [V.int (-6)])) := same_new hr4
      exact k.stayK hP ht hRt (by rw [es]) (kp1.trans (KpT.of s2)) (TabM.same s2 ht1) (kp1.free ht1 hr4) (by rw [es]; exact upd_same)
    | cons w0 wr =>
    have hpos : 0 < Pl.ways.length := by rw [hw]; exact Nat.succ_pos _
    refine iteN (decide_eq_false (fun z => ?_)) ?_
    · have := V.int.inj z
      rw [eal] at this
      omega
    refine ⟨_, rfl, wa, rfl, ⟨_, SqL.of hwa⟩, fun C hCn => ?_⟩
    refine lc_list (K := K) (a := wa) (xs := as.map V.ref) (fun i H' => Same H1 H' ∧ H' C = some (.lst (Nv ((Pl.ways.take i).map Sx61.used)))) ⟨same_new hCn, upd_same⟩ (fun i H' _ e => SqL.of (e.1 _ _ hwa)) ?_ ?_
    · rintro i v H' hv ⟨sm, hCl⟩
      obtain ⟨ra, hra, rfl⟩ := ref_inv hv
      obtain ⟨row, hrow, hrr⟩ := hE.of hra
      have hil := (List.getElem?_eq_some_iff.mp hrow).1
      have hrl := hwl row (List.mem_of_getElem? hrow)
      have hol := once_le row
      refine ⟨rfl, yes_then ?_⟩
      refine ⟨_, rfl, ra, row.map Int.ofNat, rfl, (by rw [show (row.map Int.ofNat).map V.int = Nv row from nv_iv _]; exact SqL.of (sm _ _ hrr)), (by rw [List.length_map]; omega), fun sl hsl => ⟨sl, _, _, rfl, upd_same, (by omega), ?_⟩⟩
      have ss := same_new (o := HO.set (fun k => (oncePy (row.map Int.ofNat)).any (· == k)) (oncePy (row.map Int.ofNat)).length) hsl
      refine ⟨_, ss _ _ hCl, ?_, ?_, ?_⟩
      · rw [nv_len, List.length_map, List.length_take, sizeLine_eq]
        omega
      · intro b o e
        rw [upd_ne (ne_of_none e hCn)]
        exact ss _ _ (sm b o e)
      · rw [upd_same, Mx.take_snoc hrow, List.map_append, nv_app, once_used]
        rfl
    rintro H2 ⟨s2, hC2⟩
    rw [List.length_map, hE.len, List.take_length] at hC2
    refine ⟨C, (Pl.ways.map Sx61.used).map Int.ofNat, rfl, (by rw [show ((Pl.ways.map Sx61.used).map Int.ofNat).map V.int = Nv (Pl.ways.map Sx61.used) from nv_iv _]; exact SqL.of hC2), (by rw [List.length_map, List.length_map]; exact hpos), fun z hz hmin => ?_⟩
    obtain ⟨c0, hc0, rfl⟩ := List.mem_map.mp hz
    obtain ⟨r0, hr0, rfl⟩ := List.mem_map.mp hc0
    have hmin' : ∀ r ∈ Pl.ways, Sx61.used r0 ≤ Sx61.used r := fun r hr => by
      have := hmin _ (List.mem_map.mpr ⟨_, List.mem_map.mpr ⟨r, hr, rfl⟩, rfl⟩)
      exact Int.ofNat_le.mp this
    generalize hu : Sx61.used r0 = u at hmin'
    have k02 : KpT cs.tab H H2 := kp1.trans (KpT.of s2)
    have ky2 : Keep H H2 := k02.keep ht
    refine ⟨_, rfl, p, dx, _, rfl, ky2.ins h1, lk _ (by decide +kernel), _, rfl, wa, rfl, ⟨_, SqL.of (s2 _ _ hwa)⟩, fun D hD => ?_⟩
    refine lc_list (K := K) (a := wa) (xs := as.map V.ref) (fun i H' => Same H2 H' ∧ ∃ bs : List Addr, H' D = some (.lst (bs.map V.ref)) ∧ bs.length ≤ i ∧ Each (fun _ a r => H1 a = some (.lst (Nv r))) bs ((Pl.ways.take i).filter fun r => decide (Sx61.used r = u))) ⟨same_new hD, [], upd_same, Nat.le_refl _, Each.nil⟩ (fun i H' _ e => SqL.of (e.1 _ _ (s2 _ _ hwa))) ?_ ?_
    · rintro i v H' hv ⟨sm, bs, hDl, hbl, hEb⟩
      obtain ⟨ra, hra, rfl⟩ := ref_inv hv
      obtain ⟨row, hrow, hrr⟩ := hE.of hra
      have hil := (List.getElem?_eq_some_iff.mp hrow).1
      have hrl := hwl row (List.mem_of_getElem? hrow)
      have hol := once_le row
      refine ⟨rfl, ?_⟩
      refine ⟨_, rfl, ra, row.map Int.ofNat, rfl, (by rw [show (row.map Int.ofNat).map V.int = Nv row from nv_iv _]; exact SqL.of (sm _ _ (s2 _ _ hrr))), (by rw [List.length_map]; omega), fun sl hsl => ⟨sl, _, _, rfl, upd_same, (by omega), ?_⟩⟩
      have ss := same_new (o := HO.set (fun k => (oncePy (row.map Int.ofNat)).any (· == k)) (oncePy (row.map Int.ofNat)).length) hsl
      refine ⟨_, rfl, rfl, _, rfl, ?_⟩
      rw [Mx.take_snoc hrow, List.filter_append, List.filter_cons, List.filter_nil]
      by_cases c : Sx61.used row = u
      · rw [if_pos (decide_eq_true c)]
        refine iteY (decide_eq_true (show V.int (((oncePy (row.map Int.ofNat)).length : Nat) : Int) = V.int (Int.ofNat u) by rw [once_used, c]; rfl)) ?_
        refine ⟨_, rfl, _, ss _ _ hDl, ?_, ?_, bs ++ [ra], ?_, ?_, hEb.snoc hrr⟩
        · rw [List.length_map, sizeLine_eq]
          omega
        · intro b o e
          rw [upd_ne (ne_of_none e hD)]
          exact ss _ _ (sm b o e)
        · rw [upd_same, List.map_append]
          rfl
        · rw [List.length_append]
          show bs.length + 1 ≤ i + 1
          omega
      · rw [if_neg (by simpa using c), List.append_nil]
        refine iteN (decide_eq_false (show ¬ V.int (((oncePy (row.map Int.ofNat)).length : Nat) : Int) = V.int (Int.ofNat u) from fun z => c ?_)) ?_
        · rw [once_used] at z
          exact Int.ofNat.inj (V.int.inj z)
        · exact ⟨sm.trans ss, bs, ss _ _ hDl, Nat.le_succ_of_le hbl, hEb⟩
    rintro H3 ⟨s3, bs, hDl, hbl, hEb⟩
    rw [List.length_map, hE.len, List.take_length] at hEb
    have s13 : Same H1 H3 := s2.trans s3
    have k03 : KpT cs.tab H H3 := kp1.trans (KpT.of s13)
    have ky3 : Keep H H3 := k03.keep ht
    have hr0' : r0 ∈ Pl.ways.filter fun r => decide (Sx61.used r = u) := List.mem_filter.mpr ⟨hr0, decide_eq_true hu⟩
    refine ⟨p, D, tr, le, co, go, coAs, goAs, bs, Pl, Pl.ways.filter fun r => decide (Sx61.used r = u), rfl, hV.mono ky3, hDl, hEb.mono fun _ _ _ q => s13 _ _ q, (fun z => by rw [z] at hr0'; cases hr0'), Nat.le_trans (List.length_filter_le _ _) hfew, fun r hr => Mx.ways_priced (List.mem_filter.mp hr).1, fun H4 D4 es4 m s4 hD4 hE4 hex hm4 => ?_⟩
    cases hf : (Pl.ways.filter fun r => decide (Sx61.used r = u)).filter fun r => decide (Pl.cost r = m) with
    | nil =>
      obtain ⟨r1, hr1, e1⟩ := hex
      have : r1 ∈ (Pl.ways.filter fun r => decide (Sx61.used r = u)).filter fun r => decide (Pl.cost r = m) := List.mem_filter.mpr ⟨hr1, decide_eq_true e1⟩
      rw [hf] at this
      cases this
    | cons r rest =>
    have hleast := Mx.fewest_filter hok hf hmin' hm4
    have hrm : r ∈ (Pl.ways.filter fun r => decide (Sx61.used r = u)).filter fun r => decide (Pl.cost r = m) := by rw [hf]; exact .head _
    have hrm2 := (List.mem_filter.mp hrm).1
    have hrw : r ∈ Pl.ways := (List.mem_filter.mp hrm2).1
    have hur : Sx61.used r = u := by simpa using (List.mem_filter.mp hrm2).2
    rw [hf] at hE4
    obtain ⟨b0, hb0, hb0r⟩ := hE4.get (i := 0) (x := r) rfl
    obtain ⟨p1, p2⟩ := Mx.ways_priced hrw
    have hrl := hwl r hrw
    rw [hleast] at es
    have es : Sx61.step Pl .fewest = (Pl, ⟨Sx61.num (Sx61.used r), [[Pl.cost r], r]⟩) := es
    have hix : atI (es4.map V.ref) 0 = some (V.ref b0) := atI_nat (j := 0) (ref_at hb0)
    have k04 : KpT cs.tab H H4 := k03.trans (KpT.of s4)
    have ky4 : Keep H H4 := k04.keep ht
    refine ⟨D4, _, _, _, rfl, rfl, SqL.of hD4, hix, ?_⟩
    refine ⟨_, rfl, _, rfl, p, dx, _, rfl, ky4.ins h1, lk _ (by decide +kernel), _, rfl, p, b0, tr, le, co, go, coAs, goAs, Pl, r, rfl, hV.mono ky4, hb0r, p1, p2, fun H5 s5 => ⟨z1, fun q1 hq1 => ?_⟩⟩
    have s6 : Same H5 (upd H5 q1 (.lst [V.int (Int.ofNat (Pl.cost r))])) := same_new hq1
    refine ⟨_, rfl, z2, fun q2 hq2 => ?_⟩
    have s67 := same_new (o := HO.lst [V.ref q1, V.ref b0]) hq2
    have s47 := s5.trans (s6.trans s67)
    refine ⟨q2, _, [q1, b0], [[Pl.cost r], r], rfl, upd_same, ⟨rfl, fun i a row e1 e2 => ?_⟩, rows2_len (by show 1 + r.length ≤ 1000; omega), fun H8 r8 s8 hr8 hr9 => ?_⟩
    · match i with
      | 0 =>
        cases e1
        cases e2
        exact s67 _ _ upd_same
      | 1 =>
        cases e1
        cases e2
        exact s47 _ _ hb0r
      | i + 2 => cases e1
    · have s48 := s47.trans s8
      have ht4 : TabM cs.tab H4 := TabM.same (s13.trans s4) ht1
      rw [← hur] at hr9
      exact k.stayK hP ht hRt (by rw [es]) (k04.trans (KpT.of s48)) (TabM.same s48 ht4) ((k04.trans (KpT.of s47)).free (TabM.same s47 ht4) hr8) (by rw [es]; exact hr9)
end
end Pf
namespace Pf
open PySem PySem.Spec PyProof.Rows L2
section
variable {P : Program} {w : World} {K : Frag} {mg : Str → Option Value} {base : Heap}
theorem pairs_len (f : Nat → Nat) (l : List Nat) : (rowsOut (l.map fun k => [k, f k])).length = 3 * l.length := by
  unfold rowsOut
  induction l with
  | nil => rfl
  | cons k l ih =>
    rw [List.map_cons, List.flatMap_cons, List.length_append, ih, List.length_cons]
    simp only [List.length_cons, List.length_map, List.length_nil]
    omega
theorem scForced : FnScope ["self", "ways", "rows", "train", "track"] ["self"] (defScope sForced) := ⟨rfl, rfl, rfl, by decide +kernel, rfl, by decide +kernel, by decide +kernel⟩
theorem ok_forced {f fA fT fW : Addr} {cs : Cs} {fd fdA fdT fdW : FuncData} (F : Fun K "forced" "Plan.forced" sForced f fd) (T : TxB K mg cs)
    (GA : FnOk P w K mg base CX0 9 fA fdA ["self"] (spAllWays cs)) (bA : Binds K fdA ["self"] []) (mA : Meth K cs.pl "all_ways" fA)
    (FT : Fun K "is_on_track" "is_on_track" sOnTrk fT fdT) (bT : Binds K fdT ["ways", "train", "track"] []) (mT : mg "is_on_track" = some (.ref fT))
    (FW : Fun K "with_lists" "with_lists" sWith fW fdW) (bW : Binds K fdW ["number", "rows"] []) (mW : mg "with_lists" = some (.ref fW)) : FnOk P w K mg base CX0 10 f fd ["self"] (spAsk cs .forced) := by
  have GW : FnOk P w K mg base CX0 1 fW fdW ["number", "rows"] spWith := ok_with FW T.f.e.d.p.h
  have GT : FnOk P w K mg base CX0 1 fT fdT ["ways", "train", "track"] spOnTrk := ok_ontrk FT T.f.e.d.p.h
  obtain ⟨u6, g6⟩ := T.f.e.d.p.gNW
  refine F.ok scForced (fun vs H Q E h => ?_) (fun cdv A outer s H vs Q E hr h => ?_)
  · obtain ⟨p, le, co, go, R, Pl, rfl, _⟩ := h
    rfl
  · obtain ⟨p, le, co, go, R, Pl, rfl, hP, ht, hRt, k⟩ := h
    have hr1 := hr.mono (show 1 ≤ 9 by decide)
    have TP := T.f.e.d.p
    refine ⟨_, pss_cons (ps_set (i := 1) scForced.nd rfl (Or.inr rfl) (pe_meth0 (pv 0) TP.cl mA GA hr bA .nil pass0))
      (pss_cons (ps_if (pt_cmpR op_eq (pe_callB call_len_seq (by rfl) TP.h.len PySem.boot_len (pa_cons (pv 1) pa_nil)) pe_int (nomark _)) (pss_one (ps_ret (pe_lst (pa_cons (pe_glob (v := .int (-6)) rfl g6 ⟨_, rfl⟩) pa_nil)))) pss_nil)
      (pss_cons (ps_setLc (i := 2) (own := [("train", 3), ("track", 4)]) (g := gTup K 2 (gCons (gName 3) (gCons (gName 4) gNil))) (tt := tTest (tCall spOnTrk [] E0 (tCons (tVar 1) (tCons (tVar 3) (tCons (tVar 4) tNil))))) (te := tLst (tCons (tVar 3) (tCons (tVar 4) tNil))) rfl scForced.nd rfl rfl (sw_true rfl rfl rfl rfl) (pi_enum rfl T.enum (pa_cons (pe_ix ix_list (pv 1) pe_int (fun _ _ => rfl)) pa_nil)) (blkOk_by (by rfl))
        (fun _ _ _ _ _ => by exact pg_tup rfl (pgs_cons (pg_name (i := 3) scForced.nd rfl (Or.inl rfl) (.inr rfl)) (pgs_cons (pg_name (i := 4) scForced.nd rfl (Or.inl rfl) (.inr rfl)) pgs_nil))) (fun _ _ _ _ _ => by exact pts_one (pt_val (pe_call GT hr1 rfl mT FT.kp bT .nil pass0 (pa_cons (pv 1) (pa_cons (pv 3) (pa_cons (pv 4) pa_nil))))))
        (fun _ _ _ _ _ => by exact pe_lst (pa_cons (pv 3) (pa_cons (pv 4) pa_nil))))
      (pss_one (ps_ret (pe_call GW hr1 rfl mW FW.kp bW .nil pass0 (pa_cons (pe_callB call_len_seq (by rfl) TP.h.len PySem.boot_len (pa_cons (pv 2) pa_nil)) (pa_cons (pv 2) pa_nil))))))), ?_⟩
    obtain ⟨tr, coAs, goAs, hV⟩ := hP.view
    obtain ⟨⟨dx, h1⟩, h2, h3, h4, hT, hC, hG, hok⟩ := id hV
    have es := Mx.step_forced Pl
    have hfew := Mx.ways_few hok
    have hcm := hok.coms
    have lk : ∀ m : Str, (¬ m = "going" ∧ ¬ m = "coming" ∧ ¬ m = "lengths" ∧ ¬ m = "tracks") → (plF tr le co go).lookup m = none := fun m z => f4_0 z.1 z.2.1 z.2.2.1 z.2.2.2
    have hwl : ∀ r ∈ Pl.ways, r.length = Pl.comings.length := fun r hr => (rowOk_len (Mx.ways_priced hr).1).1
    refine ⟨_, rfl, p, dx, _, rfl, h1, lk _ (by decide +kernel), p, tr, le, co, go, coAs, goAs, Pl, rfl, hV, ht, fun H1 wa as kp1 ht1 hwa hE => ?_⟩
    have eal : (as.map V.ref).length = Pl.ways.length := by rw [List.length_map, hE.len]
    refine ⟨_, rfl, wa, _, rfl, .inl (SqL.of hwa), rfl, _, rfl, ?_⟩
    cases hw : Pl.ways with
    | nil =>
      rw [hw] at es eal
      have es : Sx61.step Pl .forced = (Pl, Sx61.ok (-6)) := es
      refine iteY (by rw [eal]; rfl) ?_
      refine ⟨z1, fun r hr4 => ?_⟩
      have s2 : Same H1 (upd H1 r (.lst [V.int (-6)])) := same_new hr4
      exact k.stayK hP ht hRt (by rw [es]) (kp1.trans (KpT.of s2)) (TabM.same s2 ht1) (kp1.free ht1 hr4) (by rw [es]; exact upd_same)
    | cons w0 wr =>
    have hpos : 0 < Pl.ways.length := by rw [hw]; exact Nat.succ_pos _
    refine iteN (decide_eq_false (fun z => ?_)) ?_
    · have := V.int.inj z
      rw [eal] at this
      omega
    rw [hw] at es
    have es : Sx61.step Pl .forced = (Pl, ⟨Sx61.num ((List.range Pl.comings.length).filter fun k => wr.all fun x => x.getD k 0 == w0.getD k 0).length, ((List.range Pl.comings.length).filter fun k => wr.all fun x => x.getD k 0 == w0.getD k 0).map fun k => [k, w0.getD k 0]⟩) := es
    have hw0 : Pl.ways[0]? = some w0 := by rw [hw]; rfl
    have hw0m : w0 ∈ Pl.ways := List.mem_of_getElem? hw0
    have hw0l := hwl w0 hw0m
    obtain ⟨b0, hb0, hb0r⟩ := hE.get hw0
    have hix : atI (as.map V.ref) 0 = some (V.ref b0) := atI_nat (j := 0) (ref_at hb0)
    have hon : ∀ n, (Pl.ways.all fun x => x.getD n 0 == w0.getD n 0) = wr.all fun x => x.getD n 0 == w0.getD n 0 := fun n => by
      rw [hw, List.all_cons, beq_self_eq_true, Bool.true_and]
    refine ⟨_, rfl, wa, _, _, _, rfl, rfl, SqL.of hwa, hix, b0, _, rfl, SqL.of hb0r, fun D hD => ?_⟩
    refine lc_enum (K := K) (a := b0) (xs := Nv w0) (fun i H' => Same H1 H' ∧ ∃ bs : List Addr, H' D = some (.lst (bs.map V.ref)) ∧ bs.length ≤ i ∧ Each (fun _ a r => H' a = some (.lst (Nv r)) ∧ a ≠ D) bs (((List.range i).filter fun k => wr.all fun x => x.getD k 0 == w0.getD k 0).map fun k => [k, w0.getD k 0])) ⟨same_new hD, [], upd_same, Nat.le_refl _, Each.nil⟩ (fun i H' _ e => SqL.of (e.1 _ _ hb0r)) ?_ ?_
    · rintro i v H' Tp hv ⟨sm, bs, hDl, hbl, hEb⟩ hTp
      obtain ⟨x, hx, rfl⟩ := nv_inv hv
      have hil := (List.getElem?_eq_some_iff.mp hx).1
      have ex : x = w0.getD i 0 := by rw [getD_of hil] at hx; exact (Option.some.inj hx).symm
      subst ex
      have sT : Same H' (upd H' Tp (.tup [.int (i : Nat), .int (Int.ofNat (w0.getD i 0))])) := same_new hTp
      refine ⟨Tp, _, rfl, SqT.of upd_same, rfl, _, _, rfl, _, _, rfl, rfl, rfl, ?_⟩
      refine ⟨_, rfl, _, rfl, _, rfl, wa, as, Pl.ways, i, w0.getD i 0, rfl, sT _ _ (sm _ _ hwa), hE.mono (fun _ _ _ q => sT _ _ (sm _ _ q)), hfew, (fun r hr => by rw [hwl r hr]; omega), fun H3 s3 => ⟨_, rfl, ?_⟩⟩
      rw [List.range_succ, List.filter_append, List.filter_cons, List.filter_nil, List.map_append]
      show if (Pl.ways.all fun x => x.getD i 0 == w0.getD i 0) = true then _ else _
      rw [hon]
      have s4 := sT.trans s3
      by_cases c : (wr.all fun x => x.getD i 0 == w0.getD i 0) = true
      · rw [if_pos c, if_pos c]
        refine ⟨_, rfl, _, rfl, z2, fun q hq => ?_⟩
        have s5 := s4.trans (same_new (o := HO.lst [V.int ((i : Nat) : Int), V.int (Int.ofNat (w0.getD i 0))]) hq)
        have nqD : q ≠ D := fun z => by
          have := s4 _ _ hDl
          rw [← z, hq] at this
          cases this
        refine ⟨_, s5 _ _ hDl, ?_, ?_, bs ++ [q], ?_, ?_, ?_⟩
        · rw [List.length_map, sizeLine_eq]
          omega
        · intro b o e
          rw [upd_ne (ne_of_none e hD)]
          exact s5 _ _ (sm b o e)
        · rw [upd_same, List.map_append]
          rfl
        · rw [List.length_append]
          show bs.length + 1 ≤ i + 1
          omega
        · refine Each.snoc (hEb.mono fun _ a r e => ?old) ?new
          case new =>
            refine ⟨?_, nqD⟩
            rw [upd_ne nqD, upd_same]
            rfl
          case old =>
            refine ⟨?_, e.2⟩
            rw [upd_ne e.2]
            exact s5 _ _ e.1
      · rw [if_neg c, if_neg c, List.map_nil, List.append_nil]
        exact ⟨sm.trans s4, bs, s4 _ _ hDl, Nat.le_succ_of_le hbl, hEb.mono fun _ a r e => ⟨s4 _ _ e.1, e.2⟩⟩
    rintro H2 ⟨s2, bs, hDl, hbl, hEb⟩
    rw [nv_len, hw0l] at hEb hbl
    have k02 : KpT cs.tab H H2 := kp1.trans (KpT.of s2)
    have ht2 : TabM cs.tab H2 := TabM.same s2 ht1
    have ebl : (bs.map V.ref).length = ((List.range Pl.comings.length).filter fun k => wr.all fun x => x.getD k 0 == w0.getD k 0).length := by rw [List.length_map, hEb.len, List.length_map]
    refine ⟨_, rfl, D, _, rfl, .inl (SqL.of hDl), _, rfl, D, _, bs, _, rfl, hDl, hEb.mono (fun _ _ _ q => q.1), ?_, fun H3 r3 s3 hr3 hr4 => ?_⟩
    · rw [pairs_len]
      have h5 := List.length_filter_le (fun k => wr.all fun x => x.getD k 0 == w0.getD k 0) (List.range Pl.comings.length)
      rw [List.length_range] at h5
      omega
    · rw [ebl] at hr4
      exact k.stayK hP ht hRt (by rw [es]) (k02.trans (KpT.of s3)) (TabM.same s3 ht2) (k02.free ht2 hr3) (by rw [es]; exact hr4)
end
end Pf
namespace Pf
open PySem PySem.Spec PyProof.Rows L2
abbrev sTo : Stmt := top 52
structure TxT (K : Frag) (mg : Str → Option Value) (Ca : Addr) : Prop where
  cl : Cls K Ca
  n1 : NoAttr K Ca "number"
  n2 : NoAttr K Ca "numbers"
  n3 : NoAttr K Ca "rows"
  g0 : ∃ u, mg "BEGINS" = some (.int 0 u)
  g1 : ∃ u, mg "COME" = some (.int 1 u)
  g2 : ∃ u, mg "GO" = some (.int 2 u)
  g3 : ∃ u, mg "UNDO" = some (.int 3 u)
  g4 : ∃ u, mg "TRY_TRACKS" = some (.int 4 u)
  g5 : ∃ u, mg "STANDS" = some (.int 5 u)
  g6 : ∃ u, mg "BEST" = some (.int 6 u)
  g7 : ∃ u, mg "FEWEST" = some (.int 7 u)
section
variable {P : Program} {w : World} {K : Frag} {mg : Str → Option Value} {base : Heap}
theorem scTo : FnScope ["plan", "call", "numbers", "rows"] ["plan", "call"] (defScope sTo) := ⟨rfl, rfl, rfl, by decide +kernel, rfl, by decide +kernel, by decide +kernel⟩
theorem ok_to {f Ca fB fC fG fU fT fS fE fF fO : Addr} {cs : Cs} {fd fdB fdC fdG fdU fdT fdS fdE fdF fdO : FuncData} (F : Fun K "answer_to" "answer_to" sTo f fd) (T : TxT K mg Ca) (cl : Cls K cs.pl)
    (GB : FnOk P w K mg base CX0 2 fB fdB ["self", "numbers"] (spBegins cs)) (bB : Binds K fdB ["self", "numbers"] []) (mB : Meth K cs.pl "begins" fB)
    (GC : FnOk P w K mg base CX0 3 fC fdC ["self", "minute", "side", "lengths", "costs"] (spCome cs)) (bC : Binds K fdC ["self", "minute", "side", "lengths", "costs"] []) (mC : Meth K cs.pl "come" fC)
    (GG : FnOk P w K mg base CX0 3 fG fdG ["self", "minute", "side", "parts"] (spGo cs)) (bG : Binds K fdG ["self", "minute", "side", "parts"] []) (mG : Meth K cs.pl "go" fG)
    (GU : FnOk P w K mg base CX0 1 fU fdU ["self"] (spUndo cs)) (bU : Binds K fdU ["self"] []) (mU : Meth K cs.pl "undo" fU)
    (GT : FnOk P w K mg base CX0 5 fT fdT ["self", "chosen"] (spTry cs)) (bT : Binds K fdT ["self", "chosen"] []) (mT : Meth K cs.pl "try_tracks" fT)
    (GS : FnOk P w K mg base CX0 5 fS fdS ["self", "minute", "chosen"] (spStands cs)) (bS : Binds K fdS ["self", "minute", "chosen"] []) (mS : Meth K cs.pl "stands" fS)
    (GE : FnOk P w K mg base CX0 10 fE fdE ["self"] (spAsk cs .best)) (bE : Binds K fdE ["self"] []) (mE : Meth K cs.pl "best" fE)
    (GF : FnOk P w K mg base CX0 10 fF fdF ["self"] (spAsk cs .fewest)) (bF : Binds K fdF ["self"] []) (mF : Meth K cs.pl "fewest" fF)
    (GO : FnOk P w K mg base CX0 10 fO fdO ["self"] (spAsk cs .forced)) (bO : Binds K fdO ["self"] []) (mO : Meth K cs.pl "forced" fO) : FnOk P w K mg base CX0 11 f fd ["plan", "call"] (spTo cs Ca) := by
  obtain ⟨u0, g0⟩ := T.g0
  obtain ⟨u1, g1⟩ := T.g1
  obtain ⟨u2, g2⟩ := T.g2
  obtain ⟨u3, g3⟩ := T.g3
  obtain ⟨u4, g4⟩ := T.g4
  obtain ⟨u5, g5⟩ := T.g5
  obtain ⟨u6, g6⟩ := T.g6
  obtain ⟨u7, g7⟩ := T.g7
  refine F.ok scTo (fun vs H Q E h => ?_) (fun cdv A outer s H vs Q E hr h => ?_)
  · obtain ⟨p, le, co, go, x, R, Pl, c, b, X, rfl, _⟩ := h
    rfl
  · obtain ⟨p, le, co, go, x, R, Pl, c, b, X, rfl, hP, ht, hRt, hA, hM, k⟩ := h
    have hr1 := hr.mono (show 1 ≤ 10 by decide)
    have hr2 := hr.mono (show 2 ≤ 10 by decide)
    have hr3 := hr.mono (show 3 ≤ 10 by decide)
    have hr5 := hr.mono (show 5 ≤ 10 by decide)
    refine ⟨_, pss_cons (ps_set (i := 2) scTo.nd rfl (Or.inl rfl) (pe_fld (pv 1) rfl)) (pss_cons (ps_set (i := 3) scTo.nd rfl (Or.inl rfl) (pe_fld (pv 1) rfl))
      (pss_cons (ps_if (pt_cmpR op_eq (pe_fld (pv 1) rfl) (pe_glob (v := .int 0) rfl g0 ⟨_, rfl⟩) (nomark _)) (pss_one (ps_ret (pe_meth (pv 0) cl mB GB hr2 bB .nil pass0 (pa_cons (pe_ix ix_list (pv 3) pe_int (fun _ _ => rfl)) pa_nil)))) pss_nil)
      (pss_cons (ps_if (pt_cmpR op_eq (pe_fld (pv 1) rfl) (pe_glob (v := .int 1) rfl g1 ⟨_, rfl⟩) (nomark _)) (pss_one (ps_ret (pe_meth (pv 0) cl mC GC hr3 bC .nil pass0 (pa_cons (pe_ix ix_list (pv 2) pe_int (fun _ _ => rfl)) (pa_cons (pe_ix ix_list (pv 2) pe_int (fun _ _ => rfl)) (pa_cons (pe_ix ix_list (pv 3) pe_int (fun _ _ => rfl)) (pa_cons (pe_ix ix_list (pv 3) pe_int (fun _ _ => rfl)) pa_nil))))))) pss_nil)
      (pss_cons (ps_if (pt_cmpR op_eq (pe_fld (pv 1) rfl) (pe_glob (v := .int 2) rfl g2 ⟨_, rfl⟩) (nomark _)) (pss_one (ps_ret (pe_meth (pv 0) cl mG GG hr3 bG .nil pass0 (pa_cons (pe_ix ix_list (pv 2) pe_int (fun _ _ => rfl)) (pa_cons (pe_ix ix_list (pv 2) pe_int (fun _ _ => rfl)) (pa_cons (pe_ix ix_list (pv 3) pe_int (fun _ _ => rfl)) pa_nil)))))) pss_nil)
      (pss_cons (ps_if (pt_cmpR op_eq (pe_fld (pv 1) rfl) (pe_glob (v := .int 3) rfl g3 ⟨_, rfl⟩) (nomark _)) (pss_one (ps_ret (pe_meth0 (pv 0) cl mU GU hr1 bU .nil pass0))) pss_nil)
      (pss_cons (ps_if (pt_cmpR op_eq (pe_fld (pv 1) rfl) (pe_glob (v := .int 4) rfl g4 ⟨_, rfl⟩) (nomark _)) (pss_one (ps_ret (pe_meth (pv 0) cl mT GT hr5 bT .nil pass0 (pa_cons (pe_ix ix_list (pv 3) pe_int (fun _ _ => rfl)) pa_nil)))) pss_nil)
      (pss_cons (ps_if (pt_cmpR op_eq (pe_fld (pv 1) rfl) (pe_glob (v := .int 5) rfl g5 ⟨_, rfl⟩) (nomark _)) (pss_one (ps_ret (pe_meth (pv 0) cl mS GS hr5 bS .nil pass0 (pa_cons (pe_ix ix_list (pv 2) pe_int (fun _ _ => rfl)) (pa_cons (pe_ix ix_list (pv 3) pe_int (fun _ _ => rfl)) pa_nil))))) pss_nil)
      (pss_cons (ps_if (pt_cmpR op_eq (pe_fld (pv 1) rfl) (pe_glob (v := .int 6) rfl g6 ⟨_, rfl⟩) (nomark _)) (pss_one (ps_ret (pe_meth0 (pv 0) cl mE GE hr bE .nil pass0))) pss_nil)
      (pss_cons (ps_if (pt_cmpR op_eq (pe_fld (pv 1) rfl) (pe_glob (v := .int 7) rfl g7 ⟨_, rfl⟩) (nomark _)) (pss_one (ps_ret (pe_meth0 (pv 0) cl mF GF hr bF .nil pass0))) pss_nil)
      (pss_one (ps_ret (pe_meth0 (pv 0) cl mO GO hr bO .nil pass0)))))))))))), ?_⟩
    obtain ⟨num, nums, xs, dx, na, ra, ras, h0, hx, hna, hra, hE⟩ := hA
    have sR := hP.sub
    obtain ⟨dp, tr, coAs, goAs, hp, _⟩ := id hP
    have lk : ∀ m : Str, (¬ m = "going" ∧ ¬ m = "coming" ∧ ¬ m = "lengths" ∧ ¬ m = "tracks") → (plF tr le co go).lookup m = none := fun m z => f4_0 z.1 z.2.1 z.2.2.1 z.2.2.2
    have hx' := sR _ _ hx
    have hna' := sR _ _ hna
    have hra' := sR _ _ hra
    refine ⟨_, rfl, x, Ca, dx, _, _, rfl, hx', T.cl, T.n2, f4_2 (by decide +kernel) (by decide +kernel), ?_⟩
    refine ⟨_, rfl, x, Ca, dx, _, _, rfl, hx', T.cl, T.n3, f4_3 (by decide +kernel), ?_⟩
    have fN : (f4 "number" (.int num) "numbers" (.ref na) "rows" (.ref ra) "behind" (.int (Int.ofNat b))).lookup ("number" : Str) = some (.int num) := f4_1 (by decide +kernel) (by decide +kernel) (by decide +kernel)
    cases hM with
    | begins ts hl =>
      cases h0
      obtain ⟨ra0, hra, hr0⟩ := hE.get (i := 0) rfl
      rw [nv_iv] at hr0
      refine ⟨_, rfl, x, Ca, dx, _, _, rfl, hx', T.cl, T.n1, fN, rfl, _, rfl, iteY rfl ?_⟩
      exact ⟨_, rfl, p, dp, _, rfl, hp, lk _ (by decide +kernel), _, rfl, ra, _, _, _, rfl, rfl, SqL.of hra', atI_nat (j := 0) (ref_at hra), p, le, co, go, ra0, R, Pl, ts, rfl, hP, ht, hr0, (by omega), k⟩
    | come m b ms ks hl =>
      cases h0
      obtain ⟨ra0, hra, hr0⟩ := hE.get (i := 0) rfl
      rw [nv_iv] at hr0
      obtain ⟨ra1, hrb, hr1'⟩ := hE.get (i := 1) rfl
      rw [nv_iv] at hr1'
      refine ⟨_, rfl, x, Ca, dx, _, _, rfl, hx', T.cl, T.n1, fN, rfl, _, rfl, iteN rfl ?_⟩
      refine ⟨_, rfl, x, Ca, dx, _, _, rfl, hx', T.cl, T.n1, fN, rfl, _, rfl, iteY rfl ?_⟩
      exact ⟨_, rfl, p, dp, _, rfl, hp, lk _ (by decide +kernel), _, rfl, na, _, _, _, rfl, rfl, SqL.of hna', atI_nat (j := 0) rfl, _, rfl, na, _, _, _, rfl, rfl, SqL.of hna', atI_nat (j := 1) rfl, _, rfl, ra, _, _, _, rfl, rfl, SqL.of hra', atI_nat (j := 0) (ref_at hra), _, rfl, ra, _, _, _, rfl, rfl, SqL.of hra', atI_nat (j := 1) (ref_at hrb), p, le, co, go, ra0, ra1, R, Pl, m, b, ms, ks, rfl, hP, ht, hr0, hr1', hl, k⟩
    | go m b ms hl =>
      cases h0
      obtain ⟨ra0, hra, hr0⟩ := hE.get (i := 0) rfl
      rw [nv_iv] at hr0
      refine ⟨_, rfl, x, Ca, dx, _, _, rfl, hx', T.cl, T.n1, fN, rfl, _, rfl, iteN rfl ?_⟩
      refine ⟨_, rfl, x, Ca, dx, _, _, rfl, hx', T.cl, T.n1, fN, rfl, _, rfl, iteN rfl ?_⟩
      refine ⟨_, rfl, x, Ca, dx, _, _, rfl, hx', T.cl, T.n1, fN, rfl, _, rfl, iteY rfl ?_⟩
      exact ⟨_, rfl, p, dp, _, rfl, hp, lk _ (by decide +kernel), _, rfl, na, _, _, _, rfl, rfl, SqL.of hna', atI_nat (j := 0) rfl, _, rfl, na, _, _, _, rfl, rfl, SqL.of hna', atI_nat (j := 1) rfl, _, rfl, ra, _, _, _, rfl, rfl, SqL.of hra', atI_nat (j := 0) (ref_at hra), p, le, co, go, ra0, R, Pl, m, b, ms, rfl, hP, ht, hr0, hl, k⟩
    | undo =>
      cases h0
      refine ⟨_, rfl, x, Ca, dx, _, _, rfl, hx', T.cl, T.n1, fN, rfl, _, rfl, iteN rfl ?_⟩
      refine ⟨_, rfl, x, Ca, dx, _, _, rfl, hx', T.cl, T.n1, fN, rfl, _, rfl, iteN rfl ?_⟩
      refine ⟨_, rfl, x, Ca, dx, _, _, rfl, hx', T.cl, T.n1, fN, rfl, _, rfl, iteN rfl ?_⟩
      refine ⟨_, rfl, x, Ca, dx, _, _, rfl, hx', T.cl, T.n1, fN, rfl, _, rfl, iteY rfl ?_⟩
      exact ⟨_, rfl, p, dp, _, rfl, hp, lk _ (by decide +kernel), p, le, co, go, R, Pl, rfl, hP, ht, k⟩
    | try_ ms hl =>
      cases h0
      obtain ⟨ra0, hra, hr0⟩ := hE.get (i := 0) rfl
      rw [nv_iv] at hr0
      refine ⟨_, rfl, x, Ca, dx, _, _, rfl, hx', T.cl, T.n1, fN, rfl, _, rfl, iteN rfl ?_⟩
      refine ⟨_, rfl, x, Ca, dx, _, _, rfl, hx', T.cl, T.n1, fN, rfl, _, rfl, iteN rfl ?_⟩
      refine ⟨_, rfl, x, Ca, dx, _, _, rfl, hx', T.cl, T.n1, fN, rfl, _, rfl, iteN rfl ?_⟩
      refine ⟨_, rfl, x, Ca, dx, _, _, rfl, hx', T.cl, T.n1, fN, rfl, _, rfl, iteN rfl ?_⟩
      refine ⟨_, rfl, x, Ca, dx, _, _, rfl, hx', T.cl, T.n1, fN, rfl, _, rfl, iteY rfl ?_⟩
      exact ⟨_, rfl, p, dp, _, rfl, hp, lk _ (by decide +kernel), _, rfl, ra, _, _, _, rfl, rfl, SqL.of hra', atI_nat (j := 0) (ref_at hra), p, le, co, go, ra0, R, Pl, ms, rfl, hP, ht, hRt, hr0, (by omega), k⟩
    | stands m ms hl =>
      cases h0
      obtain ⟨ra0, hra, hr0⟩ := hE.get (i := 0) rfl
      rw [nv_iv] at hr0
      refine ⟨_, rfl, x, Ca, dx, _, _, rfl, hx', T.cl, T.n1, fN, rfl, _, rfl, iteN rfl ?_⟩
      refine ⟨_, rfl, x, Ca, dx, _, _, rfl, hx', T.cl, T.n1, fN, rfl, _, rfl, iteN rfl ?_⟩
      refine ⟨_, rfl, x, Ca, dx, _, _, rfl, hx', T.cl, T.n1, fN, rfl, _, rfl, iteN rfl ?_⟩
      refine ⟨_, rfl, x, Ca, dx, _, _, rfl, hx', T.cl, T.n1, fN, rfl, _, rfl, iteN rfl ?_⟩
      refine ⟨_, rfl, x, Ca, dx, _, _, rfl, hx', T.cl, T.n1, fN, rfl, _, rfl, iteN rfl ?_⟩
      refine ⟨_, rfl, x, Ca, dx, _, _, rfl, hx', T.cl, T.n1, fN, rfl, _, rfl, iteY rfl ?_⟩
      exact ⟨_, rfl, p, dp, _, rfl, hp, lk _ (by decide +kernel), _, rfl, na, _, _, _, rfl, rfl, SqL.of hna', atI_nat (j := 0) rfl, _, rfl, ra, _, _, _, rfl, rfl, SqL.of hra', atI_nat (j := 0) (ref_at hra), p, le, co, go, ra0, R, Pl, m, ms, rfl, hP, ht, hRt, hr0, (by omega), k⟩
    | best =>
      cases h0
      refine ⟨_, rfl, x, Ca, dx, _, _, rfl, hx', T.cl, T.n1, fN, rfl, _, rfl, iteN rfl ?_⟩
      refine ⟨_, rfl, x, Ca, dx, _, _, rfl, hx', T.cl, T.n1, fN, rfl, _, rfl, iteN rfl ?_⟩
      refine ⟨_, rfl, x, Ca, dx, _, _, rfl, hx', T.cl, T.n1, fN, rfl, _, rfl, iteN rfl ?_⟩
      refine ⟨_, rfl, x, Ca, dx, _, _, rfl, hx', T.cl, T.n1, fN, rfl, _, rfl, iteN rfl ?_⟩
      refine ⟨_, rfl, x, Ca, dx, _, _, rfl, hx', T.cl, T.n1, fN, rfl, _, rfl, iteN rfl ?_⟩
      refine ⟨_, rfl, x, Ca, dx, _, _, rfl, hx', T.cl, T.n1, fN, rfl, _, rfl, iteN rfl ?_⟩
      refine ⟨_, rfl, x, Ca, dx, _, _, rfl, hx', T.cl, T.n1, fN, rfl, _, rfl, iteY rfl ?_⟩
      exact ⟨_, rfl, p, dp, _, rfl, hp, lk _ (by decide +kernel), p, le, co, go, R, Pl, rfl, hP, ht, hRt, k⟩
    | fewest =>
      cases h0
      refine ⟨_, rfl, x, Ca, dx, _, _, rfl, hx', T.cl, T.n1, fN, rfl, _, rfl, iteN rfl ?_⟩
      refine ⟨_, rfl, x, Ca, dx, _, _, rfl, hx', T.cl, T.n1, fN, rfl, _, rfl, iteN rfl ?_⟩
      refine ⟨_, rfl, x, Ca, dx, _, _, rfl, hx', T.cl, T.n1, fN, rfl, _, rfl, iteN rfl ?_⟩
      refine ⟨_, rfl, x, Ca, dx, _, _, rfl, hx', T.cl, T.n1, fN, rfl, _, rfl, iteN rfl ?_⟩
      refine ⟨_, rfl, x, Ca, dx, _, _, rfl, hx', T.cl, T.n1, fN, rfl, _, rfl, iteN rfl ?_⟩
      refine ⟨_, rfl, x, Ca, dx, _, _, rfl, hx', T.cl, T.n1, fN, rfl, _, rfl, iteN rfl ?_⟩
      refine ⟨_, rfl, x, Ca, dx, _, _, rfl, hx', T.cl, T.n1, fN, rfl, _, rfl, iteN rfl ?_⟩
      refine ⟨_, rfl, x, Ca, dx, _, _, rfl, hx', T.cl, T.n1, fN, rfl, _, rfl, iteY rfl ?_⟩
      exact ⟨_, rfl, p, dp, _, rfl, hp, lk _ (by decide +kernel), p, le, co, go, R, Pl, rfl, hP, ht, hRt, k⟩
    | forced =>
      cases h0
      refine ⟨_, rfl, x, Ca, dx, _, _, rfl, hx', T.cl, T.n1, fN, rfl, _, rfl, iteN rfl ?_⟩
      refine ⟨_, rfl, x, Ca, dx, _, _, rfl, hx', T.cl, T.n1, fN, rfl, _, rfl, iteN rfl ?_⟩
      refine ⟨_, rfl, x, Ca, dx, _, _, rfl, hx', T.cl, T.n1, fN, rfl, _, rfl, iteN rfl ?_⟩
      refine ⟨_, rfl, x, Ca, dx, _, _, rfl, hx', T.cl, T.n1, fN, rfl, _, rfl, iteN rfl ?_⟩
      refine ⟨_, rfl, x, Ca, dx, _, _, rfl, hx', T.cl, T.n1, fN, rfl, _, rfl, iteN rfl ?_⟩
      refine ⟨_, rfl, x, Ca, dx, _, _, rfl, hx', T.cl, T.n1, fN, rfl, _, rfl, iteN rfl ?_⟩
      refine ⟨_, rfl, x, Ca, dx, _, _, rfl, hx', T.cl, T.n1, fN, rfl, _, rfl, iteN rfl ?_⟩
      refine ⟨_, rfl, x, Ca, dx, _, _, rfl, hx', T.cl, T.n1, fN, rfl, _, rfl, iteN rfl ?_⟩
      exact ⟨_, rfl, p, dp, _, rfl, hp, lk _ (by decide +kernel), p, le, co, go, R, Pl, rfl, hP, ht, hRt, k⟩
end
end Pf
namespace L2
open PySem PySem.Spec PyProof.Rows
open PySem.W (WData Codec OpenSpec Well WellAll ReadsW ReadsAllW)
mutual
inductive Dw (K : Frag) (H : Hp) : V → WData → Prop
  | non : Dw K H .non .none
  | bl (b : Bool) : Dw K H (.bl b) (.bool b)
  | int (i : Int) : Dw K H (.int i) (.int i)
  | str (x : Str) : Dw K H (.str x) (.str x)
  | byt (b : Array UInt8) : Dw K H (.byt b) (.bytes b.toList)
  | lst {a : Addr} {xs : List V} {ds : List WData} : SqL K H a xs → DwAll K H xs ds → Dw K H (.ref a) (.list ds)
  | tup {a : Addr} {xs : List V} {ds : List WData} : SqT K H a xs → DwAll K H xs ds → Dw K H (.ref a) (.tuple ds)
inductive DwAll (K : Frag) (H : Hp) : List V → List WData → Prop
  | nil : DwAll K H [] []
  | cons {v : V} {vs : List V} {d : WData} {ds : List WData} : Dw K H v d → DwAll K H vs ds → DwAll K H (v :: vs) (d :: ds)
end
theorem dw_ints {K : Frag} {H : Hp} : ∀ ns : List Int, DwAll K H (ns.map V.int) (ns.map WData.int)
  | [] => .nil
  | n :: r => .cons (.int n) (dw_ints r)
theorem ints_dw {K : Frag} {H : Hp} : ∀ (ns : List Int) (xs : List V), DwAll K H xs (ns.map WData.int) → xs = ns.map V.int
  | [], xs, h => by
    cases h
    rfl
  | n :: r, xs, h => by
    cases h with
    | cons h1 h2 =>
      cases h1
      rw [ints_dw r _ h2] <;> rfl
section
variable {P : Program} {w : World} {K : Frag} {H : Hp} {h : Heap} {R : PySem.W.WRecords} {cl : Str → Option Addr}
theorem sqL_at {a : Addr} {xs : List V} (hok : HOk P w H h) (KX : K.In h) (q : SqL K H a xs) : ∃ (its : List Value) (o : Obj) (n : Nat), Vals xs its ∧ h.get? a = some o ∧ o.cls = .type "list" ∧ o.data = .seq its.toArray n := by
  rcases q with q | ⟨o, its, n, e, hc, _, hd, _, hv⟩
  · obtain ⟨_, its, n, hv, e⟩ := (show ObjOk P w H h a (.lst xs) from q.ok hok)
    exact ⟨its, _, n, hv, e, rfl, rfl⟩
  · exact ⟨its.toList, o, n, hv, KX _ _ e, hc, by simp [hd]⟩
theorem sqT_at {a : Addr} {xs : List V} (hok : HOk P w H h) (KX : K.In h) (q : SqT K H a xs) : ∃ (its : List Value) (o : Obj) (n : Nat), Vals xs its ∧ h.get? a = some o ∧ o.cls = .type "tuple" ∧ o.data = .seq its.toArray n := by
  rcases q with q | ⟨o, its, n, e, hc, hd, _, hv⟩
  · obtain ⟨_, its, hv, o, e, hc, n, hd⟩ := (show ObjOk P w H h a (.tup xs) from q.ok hok)
    exact ⟨its, o, n, hv, e, hc, hd⟩
  · exact ⟨its.toList, o, n, hv, KX _ _ e, hc, by simp [hd]⟩
mutual
theorem Dw.reads (hok : HOk P w H h) (KX : K.In h) : ∀ (d : WData) (v : V) (u : Value), Dw K H v d → RelV v u → ∃ as, ReadsW R cl h u d as
  | .none, _, _, x, r => by
    cases x
    cases r
    exact ⟨_, ReadsW.none⟩
  | .bool b, _, _, x, r => by
    cases x
    cases r
    exact ⟨_, ReadsW.bool b⟩
  | .int i, _, _, x, r => by
    cases x
    obtain ⟨t, rfl⟩ := r
    exact ⟨_, ReadsW.int i t⟩
  | .str s, _, _, x, r => by
    cases x
    obtain ⟨t, rfl⟩ := r
    exact ⟨_, ReadsW.str s t⟩
  | .bytes b, _, _, x, r => by
    cases x
    obtain ⟨t, rfl⟩ := r
    exact ⟨_, ReadsW.bytes _ t⟩
  | .list ds, _, _, x, r => by
    cases x with
    | lst hs ha =>
      cases r
      obtain ⟨its, o, n, rv, ho, hc, hd⟩ := sqL_at hok KX hs
      obtain ⟨as, hr⟩ := Dw.readsAll hok KX ds _ its ha rv
      exact ⟨_, ReadsW.list ho hc hd hr⟩
  | .tuple ds, _, _, x, r => by
    cases x with
    | tup hs ha =>
      cases r
      obtain ⟨its, o, n, rv, ho, hc, hd⟩ := sqT_at hok KX hs
      obtain ⟨as, hr⟩ := Dw.readsAll hok KX ds _ its ha rv
      exact ⟨_, ReadsW.tuple ho hc hd hr⟩
  | .float _, _, _, x, _ => by cases x
  | .dict _, _, _, x, _ => by cases x
  | .bytearray _, _, _, x, _ => by cases x
  | .set _, _, _, x, _ => by cases x
  | .frozenset _, _, _, x, _ => by cases x
  | .obj _ _, _, _, x, _ => by cases x
theorem Dw.readsAll (hok : HOk P w H h) (KX : K.In h) : ∀ (ds : List WData) (vs : List V) (us : List Value), DwAll K H vs ds → Vals vs us → ∃ as, ReadsAllW R cl h us ds as
  | [], _, _, x, r => by
    cases x
    cases r
    exact ⟨_, ReadsAllW.nil⟩
  | d :: ds, _, _, x, r => by
    cases x with
    | cons h1 h2 =>
      cases r with
      | cons r1 r2 =>
        obtain ⟨as, q1⟩ := Dw.reads hok KX d _ _ h1 r1
        obtain ⟨bs, q2⟩ := Dw.readsAll hok KX ds _ _ h2 r2
        exact ⟨_, ReadsAllW.cons q1 q2⟩
end
end
mutual
def plW : WData → Bool
  | .none => true
  | .bool _ => true
  | .int _ => true
  | .str _ => true
  | .bytes _ => true
  | .list xs => plWs xs
  | .tuple xs => plWs xs
  | _ => false
def plWs : List WData → Bool
  | [] => true
  | x :: r => plW x && plWs r
end
theorem plWs_map {α : Type} {f : α → WData} (h : ∀ a, plW (f a) = true) : ∀ l : List α, plWs (l.map f) = true
  | [] => rfl
  | x :: r => by
    show (plW (f x) && plWs (r.map f)) = true
    rw [h x, plWs_map h r] <;> rfl
theorem weight_mem : ∀ {xs : List WData} {d : WData}, d ∈ xs → d.weight ≤ WData.weightAll xs
  | [], d, h => absurd h (by simp)
  | x :: r, d, h => by
    show d.weight ≤ x.weight + 1 + WData.weightAll r
    rcases List.mem_cons.mp h with e | m
    · rw [e]
      omega
    · have z := weight_mem m
      omega
def toV : Value → V
  | .none => .non
  | .bool b => .bl b
  | .int i _ => .int i
  | .str x _ => .str x
  | .bytes b _ => .byt b
  | .ref a => .ref a
  | _ => .non
def OkU (A : List Addr) : Value → Prop
  | .none => True
  | .bool _ => True
  | .int _ _ => True
  | .str _ _ => True
  | .bytes _ _ => True
  | .ref a => a ∈ A
  | _ => False
theorem OkU.mono {A B : List Addr} (h : ∀ a ∈ A, a ∈ B) : ∀ {u : Value}, OkU A u → OkU B u := fun {u} x => by
  cases u with
  | ref a => exact h a x
  | none => trivial
  | bool b => trivial
  | int i t => trivial
  | str s t => trivial
  | bytes b t => trivial
  | _ => exact False.elim x
theorem relV_toV {A : List Addr} {u : Value} (x : OkU A u) : RelV (toV u) u := by
  cases u with
  | ref a => rfl
  | none => rfl
  | bool b => rfl
  | int i t => exact ⟨t, rfl⟩
  | str s t => exact ⟨t, rfl⟩
  | bytes b t => exact ⟨t, rfl⟩
  | _ => exact False.elim x
theorem vals_toV {A : List Addr} : ∀ {vs : List Value}, (∀ u ∈ vs, OkU A u) → Vals (vs.map toV) vs
  | [], _ => .nil
  | u :: r, h => .cons (relV_toV (h u (List.mem_cons_self ..))) (vals_toV fun x hx => h x (List.mem_cons_of_mem _ hx))
def ArgOb (h : Heap) (A : List Addr) (a : Addr) : Prop := ∃ vs : List Value, vs.length ≤ sizeLine ∧ (∀ u ∈ vs, OkU A u) ∧
  (h.get? a = some { cls := .type "list", data := .seq vs.toArray } ∨ h.get? a = some { cls := .type "tuple", data := .seq vs.toArray })
theorem ArgOb.mono {h : Heap} {A B : List Addr} {a : Addr} (k : ∀ a ∈ A, a ∈ B) (x : ArgOb h A a) : ArgOb h B a := by
  obtain ⟨vs, h1, h2, h3⟩ := x
  exact ⟨vs, h1, fun u hu => (h2 u hu).mono k, h3⟩
theorem wellAll_len {P : Params} {h : Heap} : ∀ {vs : List Value} {ds : List WData}, WellAll P h vs ds → vs.length = ds.length
  | _, _, .nil => rfl
  | _, _, .cons _ b => by
    show _ + 1 = _ + 1
    rw [wellAll_len b]
theorem well_list {P : Params} {h : Heap} {v : Value} {ds : List WData} (x : Well P h v (.list ds)) : ∃ (a : Addr) (vs : List Value), v = .ref a ∧ h.get? a = some { cls := .type "list", data := .seq vs.toArray } ∧ WellAll P h vs ds := by
  cases x with
  | list ho hall => exact ⟨_, _, rfl, ho, hall⟩
theorem well_tuple {P : Params} {h : Heap} {v : Value} {ds : List WData} (x : Well P h v (.tuple ds)) : ∃ (a : Addr) (vs : List Value), v = .ref a ∧ h.get? a = some { cls := .type "tuple", data := .seq vs.toArray } ∧ WellAll P h vs ds := by
  cases x with
  | tuple ho hall => exact ⟨_, _, rfl, ho, hall⟩
theorem well_cons {P : Params} {h : Heap} {us : List Value} {d : WData} {ds : List WData} (x : WellAll P h us (d :: ds)) : ∃ (v : Value) (vs : List Value), us = v :: vs ∧ Well P h v d ∧ WellAll P h vs ds := by
  cases x with
  | cons a b => exact ⟨_, _, rfl, a, b⟩
theorem line_of {n : Nat} (h : n ≤ 1048576) : n ≤ sizeLine := Nat.le_trans h (by decide)
section
variable {P : Params} {h : Heap}
mutual
theorem area_one : ∀ (d : WData) (v : Value), Well P h v d → plW d = true → d.weight ≤ 1048576 → ∃ A : List Addr, OkU A v ∧ ∀ a ∈ A, ArgOb h A a
  | .none, _, x, _, _ => by
    cases x
    exact ⟨[], trivial, fun a m => absurd m (by simp)⟩
  | .bool b, _, x, _, _ => by
    cases x
    exact ⟨[], trivial, fun a m => absurd m (by simp)⟩
  | .int i, _, x, _, _ => by
    cases x
    exact ⟨[], trivial, fun a m => absurd m (by simp)⟩
  | .str s, _, x, _, _ => by
    cases x
    exact ⟨[], trivial, fun a m => absurd m (by simp)⟩
  | .bytes b, _, x, _, _ => by
    cases x
    exact ⟨[], trivial, fun a m => absurd m (by simp)⟩
  | .list ds, _, x, p, z => by
    obtain ⟨a, vs, rfl, ho, hall⟩ := well_list x
    have z2 : WData.weightAll ds ≤ 1048576 := z
    obtain ⟨A, h1, h2⟩ := area_all ds _ hall p fun d hd => Nat.le_trans (weight_mem hd) z2
    have k : ∀ b ∈ A, b ∈ a :: A := fun b hb => List.mem_cons_of_mem _ hb
    refine ⟨a :: A, List.mem_cons_self .., fun b hb => ?_⟩
    rcases List.mem_cons.mp hb with e | m
    · rw [e]
      exact ⟨vs, line_of (by rw [wellAll_len hall]; exact Nat.le_trans (PySem.W.length_le_weightAllW ds) z2), fun u hu => (h1 u hu).mono k, .inl ho⟩
    · exact (h2 b m).mono k
  | .tuple ds, _, x, p, z => by
    obtain ⟨a, vs, rfl, ho, hall⟩ := well_tuple x
    have z2 : WData.weightAll ds ≤ 1048576 := z
    obtain ⟨A, h1, h2⟩ := area_all ds _ hall p fun d hd => Nat.le_trans (weight_mem hd) z2
    have k : ∀ b ∈ A, b ∈ a :: A := fun b hb => List.mem_cons_of_mem _ hb
    refine ⟨a :: A, List.mem_cons_self .., fun b hb => ?_⟩
    rcases List.mem_cons.mp hb with e | m
    · rw [e]
      exact ⟨vs, line_of (by rw [wellAll_len hall]; exact Nat.le_trans (PySem.W.length_le_weightAllW ds) z2), fun u hu => (h1 u hu).mono k, .inr ho⟩
    · exact (h2 b m).mono k
  | .float _, _, _, p, _ => Bool.noConfusion (show false = true from p)
  | .dict _, _, _, p, _ => Bool.noConfusion (show false = true from p)
  | .bytearray _, _, _, p, _ => Bool.noConfusion (show false = true from p)
  | .set _, _, _, p, _ => Bool.noConfusion (show false = true from p)
  | .frozenset _, _, _, p, _ => Bool.noConfusion (show false = true from p)
  | .obj _ _, _, _, p, _ => Bool.noConfusion (show false = true from p)
theorem area_all : ∀ (ds : List WData) (vs : List Value), WellAll P h vs ds → plWs ds = true → (∀ d ∈ ds, d.weight ≤ 1048576) → ∃ A : List Addr, (∀ u ∈ vs, OkU A u) ∧ ∀ a ∈ A, ArgOb h A a
  | [], _, x, _, _ => by
    cases x
    exact ⟨[], fun u m => absurd m (by simp), fun a m => absurd m (by simp)⟩
  | d :: ds, _, x, p, z => by
    obtain ⟨v, vs, rfl, x1, x2⟩ := well_cons x
    have q : plW d = true ∧ plWs ds = true := Bool.and_eq_true_iff.mp p
    obtain ⟨A, a1, a2⟩ := area_one d v x1 q.1 (z d (List.mem_cons_self ..))
    obtain ⟨B, b1, b2⟩ := area_all ds vs x2 q.2 fun e he => z e (List.mem_cons_of_mem _ he)
    have kA : ∀ b ∈ A, b ∈ A ++ B := fun b hb => List.mem_append.mpr (.inl hb)
    have kB : ∀ b ∈ B, b ∈ A ++ B := fun b hb => List.mem_append.mpr (.inr hb)
    refine ⟨A ++ B, fun u hu => ?_, fun b hb => ?_⟩
    · rcases List.mem_cons.mp hu with e | m
      · rw [e]
        exact a1.mono kA
      · exact (b1 u m).mono kB
    · rcases List.mem_append.mp hb with m | m
      · exact (a2 b m).mono kA
      · exact (b2 b m).mono kB
end
end
def hoOf (o : Obj) : Option HO := match o.data with
  | .seq vs _ => if (o.cls == Value.type "list") = true then some (.frz o (.lst (vs.toList.map toV))) else some (.frz o (.tup (vs.toList.map toV)))
  | _ => none
def argH (K : Frag) (h : Heap) (A : List Addr) : Hp := fun b => if b ∈ A then (if (K.lookup b).isNone = true then (h.get? b).bind hoOf else none) else none
def OnlyF (H : Hp) : Prop := ∀ b, H b = none ∨ ∃ o u, H b = some (.frz o u)
theorem hoOf_lst (vs : List Value) : hoOf { cls := .type "list", data := .seq vs.toArray } = some (.frz { cls := .type "list", data := .seq vs.toArray } (.lst (vs.map toV))) := by
  show (if (Value.type "list" == Value.type "list") = true then some (HO.frz { cls := .type "list", data := .seq vs.toArray } (.lst (vs.toArray.toList.map toV))) else some (HO.frz { cls := .type "list", data := .seq vs.toArray } (.tup (vs.toArray.toList.map toV)))) = _
  rw [if_pos (beq_self_eq_true _)]
theorem hoOf_tup (vs : List Value) : hoOf { cls := .type "tuple", data := .seq vs.toArray } = some (.frz { cls := .type "tuple", data := .seq vs.toArray } (.tup (vs.map toV))) := by
  show (if (Value.type "tuple" == Value.type "list") = true then some (HO.frz { cls := .type "tuple", data := .seq vs.toArray } (.lst (vs.toArray.toList.map toV))) else some (HO.frz { cls := .type "tuple", data := .seq vs.toArray } (.tup (vs.toArray.toList.map toV)))) = _
  rw [if_neg (by decide)]
section
variable {P : Program} {w : World} {K : Frag} {h : Heap} {A : List Addr}
theorem argH_at {b : Addr} {o : Obj} (hb : b ∈ A) (hk : K.lookup b = none) (e : h.get? b = some o) : argH K h A b = hoOf o := by
  unfold argH
  rw [if_pos hb, hk, if_pos (show (none : Option Obj).isNone = true from rfl), e] <;> rfl
theorem of_argH {b : Addr} {u : HO} (q : argH K h A b = some u) : b ∈ A ∧ K.lookup b = none := by
  unfold argH at q
  by_cases hb : b ∈ A
  · rw [if_pos hb] at q
    cases hk : K.lookup b with
    | none => exact ⟨hb, rfl⟩
    | some o =>
      rw [hk, if_neg (by simp)] at q
      cases q
  · rw [if_neg hb] at q
    cases q
theorem argH_is (ar : ∀ a ∈ A, ArgOb h A a) {b : Addr} {u : HO} (q : argH K h A b = some u) : K.lookup b = none ∧ ∃ vs : List Value, vs.length ≤ sizeLine ∧ (∀ u ∈ vs, OkU A u) ∧
    ((h.get? b = some { cls := .type "list", data := .seq vs.toArray } ∧ u = .frz { cls := .type "list", data := .seq vs.toArray } (.lst (vs.map toV))) ∨
     (h.get? b = some { cls := .type "tuple", data := .seq vs.toArray } ∧ u = .frz { cls := .type "tuple", data := .seq vs.toArray } (.tup (vs.map toV)))) := by
  obtain ⟨hb, hk⟩ := of_argH q
  obtain ⟨vs, h1, h2, h3⟩ := ar b hb
  refine ⟨hk, vs, h1, h2, ?_⟩
  rcases h3 with e | e
  · rw [argH_at hb hk e, hoOf_lst] at q
    exact .inl ⟨e, (Option.some.inj q).symm⟩
  · rw [argH_at hb hk e, hoOf_tup] at q
    exact .inr ⟨e, (Option.some.inj q).symm⟩
theorem argH_only (ar : ∀ a ∈ A, ArgOb h A a) : OnlyF (argH K h A) := fun b => by
  cases q : argH K h A b with
  | none => exact .inl rfl
  | some u =>
    obtain ⟨_, vs, _, _, ⟨_, e⟩ | ⟨_, e⟩⟩ := argH_is ar q
    · exact .inr ⟨_, _, by rw [e]⟩
    · exact .inr ⟨_, _, by rw [e]⟩
theorem argH_ok (ar : ∀ a ∈ A, ArgOb h A a) : HOk P w (argH K h A) h := fun b u q => by
  obtain ⟨_, vs, h1, h2, ⟨e, rfl⟩ | ⟨e, rfl⟩⟩ := argH_is ar q
  · exact ⟨e, by rw [List.length_map]; exact h1, vs, _, vals_toV h2, e⟩
  · exact ⟨e, by rw [List.length_map]; exact h1, vs, vals_toV h2, _, e, rfl, _, rfl⟩
theorem seq_inj {c c' : Value} {vs us : List Value} (e : (some { cls := c, data := .seq vs.toArray } : Option Obj) = some { cls := c', data := .seq us.toArray }) : c = c' ∧ vs = us := by
  have e1 := Option.some.inj e
  have e2 : c = c' := congrArg Obj.cls e1
  have e3 : Data.seq vs.toArray = Data.seq us.toArray := congrArg Obj.data e1
  injection e3 with e4
  refine ⟨e2, ?_⟩
  have e5 := congrArg Array.toList e4
  simpa using e5
theorem argL (KX : K.In h) (ar : ∀ a ∈ A, ArgOb h A a) {a : Addr} {vs : List Value} (ha : a ∈ A) (e : h.get? a = some { cls := .type "list", data := .seq vs.toArray }) : (∀ u ∈ vs, OkU A u) ∧ SqL K (argH K h A) a (vs.map toV) := by
  obtain ⟨us, h1, h2, h3⟩ := ar a ha
  have hu : us = vs := by
    rcases h3 with q | q
    · rw [e] at q
      exact (seq_inj q).2.symm
    · rw [e] at q
      exact absurd (Value.type.inj (seq_inj q).1) (by decide)
  subst hu
  refine ⟨h2, ?_⟩
  cases hk : K.lookup a with
  | none => exact .inl (.inr ⟨_, by rw [argH_at ha hk e, hoOf_lst]⟩)
  | some o =>
    have e2 := KX a o hk
    rw [e] at e2
    obtain rfl := Option.some.inj e2
    exact .inr ⟨_, us.toArray, _, hk, rfl, rfl, rfl, by rw [List.size_toArray]; exact h1, by simpa using vals_toV h2⟩
theorem argT (KX : K.In h) (ar : ∀ a ∈ A, ArgOb h A a) {a : Addr} {vs : List Value} (ha : a ∈ A) (e : h.get? a = some { cls := .type "tuple", data := .seq vs.toArray }) : (∀ u ∈ vs, OkU A u) ∧ SqT K (argH K h A) a (vs.map toV) := by
  obtain ⟨us, h1, h2, h3⟩ := ar a ha
  have hu : us = vs := by
    rcases h3 with q | q
    · rw [e] at q
      exact absurd (Value.type.inj (seq_inj q).1) (by decide)
    · rw [e] at q
      exact (seq_inj q).2.symm
  subst hu
  refine ⟨h2, ?_⟩
  cases hk : K.lookup a with
  | none => exact .inl (.inr ⟨_, by rw [argH_at ha hk e, hoOf_tup]⟩)
  | some o =>
    have e2 := KX a o hk
    rw [e] at e2
    obtain rfl := Option.some.inj e2
    exact .inr ⟨_, us.toArray, _, hk, rfl, rfl, by rw [List.size_toArray]; exact h1, by simpa using vals_toV h2⟩
mutual
theorem dw_one {Pm : Params} (KX : K.In h) (ar : ∀ a ∈ A, ArgOb h A a) : ∀ (d : WData) (v : Value), Well Pm h v d → plW d = true → OkU A v → Dw K (argH K h A) (toV v) d
  | .none, _, x, _, _ => by
    cases x
    exact .non
  | .bool b, _, x, _, _ => by
    cases x
    exact .bl b
  | .int i, _, x, _, _ => by
    cases x
    exact .int i
  | .str s, _, x, _, _ => by
    cases x
    exact .str s
  | .bytes b, _, x, _, _ => by
    cases x
    have z := Dw.byt (K := K) (H := argH K h A) b.toArray
    exact z
  | .list ds, _, x, p, hu => by
    obtain ⟨a, vs, rfl, ho, hall⟩ := well_list x
    obtain ⟨h2, hs⟩ := argL KX ar hu ho
    exact .lst hs (dw_all KX ar ds _ hall p h2)
  | .tuple ds, _, x, p, hu => by
    obtain ⟨a, vs, rfl, ho, hall⟩ := well_tuple x
    obtain ⟨h2, hs⟩ := argT KX ar hu ho
    exact .tup hs (dw_all KX ar ds _ hall p h2)
  | .float _, _, _, p, _ => Bool.noConfusion (show false = true from p)
  | .dict _, _, _, p, _ => Bool.noConfusion (show false = true from p)
  | .bytearray _, _, _, p, _ => Bool.noConfusion (show false = true from p)
  | .set _, _, _, p, _ => Bool.noConfusion (show false = true from p)
  | .frozenset _, _, _, p, _ => Bool.noConfusion (show false = true from p)
  | .obj _ _, _, _, p, _ => Bool.noConfusion (show false = true from p)
theorem dw_all {Pm : Params} (KX : K.In h) (ar : ∀ a ∈ A, ArgOb h A a) : ∀ (ds : List WData) (vs : List Value), WellAll Pm h vs ds → plWs ds = true → (∀ u ∈ vs, OkU A u) → DwAll K (argH K h A) (vs.map toV) ds
  | [], _, x, _, _ => by
    cases x
    exact .nil
  | d :: ds, _, x, p, hu => by
    obtain ⟨v, vs, rfl, x1, x2⟩ := well_cons x
    have q : plW d = true ∧ plWs ds = true := Bool.and_eq_true_iff.mp p
    exact .cons (dw_one KX ar d v x1 q.1 (hu _ (List.mem_cons_self ..))) (dw_all KX ar ds vs x2 q.2 fun u m => hu u (List.mem_cons_of_mem _ m))
end
end
theorem layable_weight {ds : List WData} (h : WData.layableAll ds = true) : ∀ d ∈ ds, d.weight ≤ 1048576 := fun d hd =>
  (PySem.W.layableW_iff.mp (List.all_eq_true.mp h d hd)).2.2
end L2
namespace L2
open PySem PySem.Spec PyProof.Rows
open PySem.W (WData Codec OpenSpec Well WellAll ReadsW ReadsAllW)
theorem spec_callT {P : Program} {w : World} {K : Frag} {mg mb : Str → Option Value} {CX : CXT} {k : Nat} {fa : Addr} {fd : FuncData} {x : Str} {sp : Sp} {s₁ : Shared} {vals : List Value} {ns : List Int} {R : PySem.W.WRecords} {cl : Str → Option Addr} {d0 : WData} {c tab : Addr}
    (KX : K.In s₁.heap) (hns : s₁.heap.Ns mainGlobals mg) (hb : s₁.heap.Ns builtinsNs mb) (hbb : ∀ x : Str, x ≠ "__name__" → mb x = bootBuiltins x) (hlim : s₁.heap.NoLimit) (hg : s₁.gens = #[])
    (hwl : WellAll w.params s₁.heap vals [.list (ns.map WData.int)]) (hwt : (WData.list (ns.map WData.int)).weight ≤ 1048576) (hr : Room k callerA)
    (hC : PySem.W.CodeHd s₁.heap c tab) (htab : s₁.heap.get? tab = some (PySem.W.tabObj #[])) (hKt : K.lookup tab = none) (hBm : ∃ bm ob, mg "__builtins__" = some (.ref bm) ∧ bm ≠ builtinsNs ∧ s₁.heap.get? bm = some ob ∧ ob.cls = .type "module" ∧ ob.dict = some builtinsNs ∧ ob.data = .plain)
    (F : ∀ base : Heap, K.In base → base.Ns mainGlobals mg → PySem.W.CodeHd base c tab → base.BuiltinsAt mg tab → mainGlobals ≠ tab → FnOk P w K mg base CX k fa fd [x] sp) (hbind : ∀ (s : Shared) (us : List Value), us.length = [x].length → BindsTo s fd ⟨us, []⟩ ([x].zip us))
    (hsp : ∀ (H : Hp) (a : Addr), H tab = some (.tbl #[]) → SqL K H a (ns.map V.int) → sp [.ref a] H (fun v H' => Dw K H' v d0) fun _ _ _ => False)
    (hCX : ∀ H e s', CX [] H s₁ (fun _ _ _ => False) e s' → False) :
    codeAny (model P w) callerA (.call (.ref fa) ⟨vals, []⟩) (fun r s' => ∃ u as, r = .ok (.ret u) ∧ ReadsW R cl s'.heap u d0 as ∧ OldK s₁.heap s'.heap ∧ s'.os = s₁.os ∧ AllBare s'.gens) s₁ := by
  have hpl : plWs [WData.list (ns.map WData.int)] = true := by
    show (plWs (ns.map WData.int) && true) = true
    rw [Bool.and_true]
    exact plWs_map (fun _ => rfl) ns
  obtain ⟨A, ho, ar⟩ := area_all _ vals hwl hpl fun d hd => by rw [List.mem_singleton.mp hd]; exact hwt
  have hok0 : HOk P w (argH K s₁.heap A) s₁.heap := argH_ok ar
  have hS0 := dw_all KX ar _ vals hwl hpl ho
  have hV := vals_toV ho
  have tA : argH K s₁.heap A tab = none := by
    cases q : argH K s₁.heap A tab with
    | none => rfl
    | some u =>
      obtain ⟨_, vs, _, _, ⟨e, _⟩ | ⟨e, _⟩⟩ := argH_is ar q
      · rw [htab] at e; cases e
      · rw [htab] at e; cases e
  have hfz : ∀ b u, argH K s₁.heap A b = some u → ∃ o v, u = .frz o v := fun b u q => by
    rcases argH_only ar b with z | ⟨o, v, z⟩
    · rw [z] at q; cases q
    · rw [z] at q; cases q; exact ⟨o, v, rfl⟩
  generalize hH : argH K s₁.heap A = Ha at *
  have hb2 : ∀ b u, Ha b = some u → b ≠ tab := fun b u e z => by rw [z, tA] at e; cases e
  obtain ⟨H, hHt, hHo⟩ : ∃ H : Hp, H tab = some (.tbl #[]) ∧ ∀ b, b ≠ tab → H b = Ha b := ⟨fun b => if b = tab then some (.tbl #[]) else Ha b, if_pos rfl, fun b h => if_neg h⟩
  have sH : Same Ha H := fun b o e => by rw [hHo b (hb2 b o e)]; exact e
  have hok : HOk P w H s₁.heap := fun b u e => by
    by_cases z : b = tab
    · subst z
      rw [hHt] at e
      cases e
      exact htab
    · rw [hHo b z] at e
      exact (hok0 b u e).stay (fun _ _ _ q => q) (fun c q => sH _ _ q) fun c xs q => sH _ _ q
  have hK : ∀ b u, H b = some u → K.lookup b = none := fun b u q => by
    by_cases z : b = tab
    · rw [z]; exact hKt
    · rw [hHo b z, ← hH] at q
      exact (argH_is ar q).1
  have noA : ∀ {b : Addr} {o : Obj} {es : Array DictEntry} {ep : Nat}, s₁.heap.get? b = some o → o.data = .dict es ep → H b = none := fun {b o es ep} e d => by
    by_cases z : b = tab
    · rw [z, htab] at e
      cases e
      cases d
    · rw [hHo b z]
      cases q : Ha b with
      | none => rfl
      | some u =>
        rw [← hH] at q
        obtain ⟨_, vs, _, _, ⟨e2, _⟩ | ⟨e2, _⟩⟩ := argH_is ar q
        · rw [e2] at e
          cases e
          have d' : Data.seq vs.toArray _ = Data.dict es ep := d
          cases d'
        · rw [e2] at e
          cases e
          have d' : Data.seq vs.toArray _ = Data.dict es ep := d
          cases d'
  have noP : ∀ {b : Addr} {o : Obj}, s₁.heap.get? b = some o → o.data = .plain → H b = none := fun {b o} e d => by
    by_cases z : b = tab
    · rw [z, htab] at e
      cases e
      cases d
    · rw [hHo b z]
      cases q : Ha b with
      | none => rfl
      | some u =>
        rw [← hH] at q
        obtain ⟨_, vs, _, _, ⟨e2, _⟩ | ⟨e2, _⟩⟩ := argH_is ar q
        · rw [e2] at e
          cases e
          cases d
        · rw [e2] at e
          cases e
          cases d
  have noC : ∀ {b : Addr} {o : Obj} {vs : Array Value}, s₁.heap.get? b = some o → o.data = .fields vs → b ≠ tab → H b = none := fun {b o vs} e d z => by
    rw [hHo b z]
    cases q : Ha b with
    | none => rfl
    | some u =>
      rw [← hH] at q
      obtain ⟨_, vs2, _, _, ⟨e2, _⟩ | ⟨e2, _⟩⟩ := argH_is ar q
      · rw [e2] at e
        cases e
        cases d
      · rw [e2] at e
        cases e
        cases d
  have base_of : ∀ {b : Addr} {o : Obj}, s₁.heap.get? b = some o → H b = none → (hidT s₁.heap H).get? b = some o := fun e n => hidT_get e n
  have nsK : ∀ {b : Addr} {m : Str → Option Value}, s₁.heap.Ns b m → (hidT s₁.heap H).Ns b m := fun {b m} ⟨o, es, ep, e, d, r⟩ => ⟨o, es, ep, base_of e (noA e d), d, r⟩
  have nK : ∀ b o, K.lookup b = some o → H b = none := fun b o e => by
    cases q : H b with
    | none => rfl
    | some u =>
      rw [hK b u q] at e
      cases e
  have hKb : K.In (hidT s₁.heap H) := fun b o e => base_of (KX b o e) (nK b o e)
  have hM : Mod K mg (hidT s₁.heap H) := ⟨hKb, nsK hns, ⟨mb, nsK hb, hbb⟩, let ⟨mc, h1, h2⟩ := hlim; ⟨mc, nsK h1, h2⟩⟩
  have e0 : Env0 P w K mg (hidT s₁.heap H) callerA [] s₁ H := ⟨rfl, hM, fun b o e => of_hidT e, Nat.le_of_eq (hidT_size _ _), trivial, fun b hb => absurd (show b ∈ ([] : List Addr) from hb) (by simp), hok, .of_eq hg⟩
  have hgt : mainGlobals ≠ tab := fun z => by
    obtain ⟨o, es, ep, e, d, _⟩ := hns
    rw [z, htab] at e
    cases e
    cases d
  have hCb : PySem.W.CodeHd (hidT s₁.heap H) c tab := by
    obtain ⟨o, vs, file, tf, flags, tg, inF, text, tt, e1, r1, r2, r3, r4, r5, r6, r7, r8, hne⟩ := id hC
    exact ⟨o, vs, file, tf, flags, tg, inF, text, tt, base_of e1 (noC e1 r2 hne), r1, r2, r3, r4, r5, r6, r7, r8, hne⟩
  have hBb : (hidT s₁.heap H).BuiltinsAt mg tab := by
    obtain ⟨bm, ob, b1, b2, b3, b4, b5, b6⟩ := hBm
    refine ⟨bm, ob, b1, b2, fun z => ?_, fun z => ?_, base_of b3 (noP b3 b6), b4, b5, b6⟩
    · obtain ⟨o, es, ep, e, d, _⟩ := hns
      rw [← z, b3] at e
      cases e
      rw [b6] at d
      cases d
    · rw [z, htab] at b3
      cases b3
      cases b6
  have hl : vals.length = [x].length := by rw [wellAll_len hwl]; rfl
  have hxs : ∃ a, vals.map toV = [.ref a] ∧ SqL K H a (ns.map V.int) := by
    cases e : vals.map toV with
    | nil => rw [e] at hS0; cases hS0
    | cons v vs =>
      rw [e] at hS0
      cases hS0 with
      | cons h1 h2 =>
        cases h2
        cases h1 with
        | lst hs hall =>
          have e3 := ints_dw ns _ hall
          subst e3
          exact ⟨_, rfl, sH.seq hs⟩
  obtain ⟨a, hxa, hSq⟩ := hxs
  have hsp1 := hsp H a hHt hSq
  rw [← hxa] at hsp1
  refine codeAny_mono ((F _ hKb (nsK hns) hCb hBb hgt).run callerA [] s₁ H ⟨vals, []⟩ vals (vals.map toV) _ _ hr e0 (hbind s₁ vals hl) hV hsp1) fun r s' x => ?_
  cases r with
  | error e => exact (hCX H e s' x).elim
  | ok fl =>
    cases fl with
    | next => exact False.elim x
    | brk => exact False.elim x
    | cont => exact False.elim x
    | ret u =>
      obtain ⟨v, H', os, bare, un, hok', r', q⟩ := x
      have kept : ∀ b o, b ≠ tab → s₁.heap.get? b = some o → s'.heap.get? b = some o := fun b o hbt e => by
        cases q2 : H b with
        | none => exact un.keep b o e q2 (by intro z; exact absurd (show b ∈ ([] : List Addr) from z) (by simp)) (by simp)
        | some u2 =>
          rw [hHo b hbt] at q2
          obtain ⟨ob, u3, rfl⟩ := hfz b u2 q2
          have z2 := un.frzs b ob _ (sH _ _ q2)
          obtain ⟨e1, _⟩ := hok0 b _ q2
          obtain ⟨e2, _⟩ := hok' b _ z2
          rw [e] at e1
          cases e1
          exact e2
      obtain ⟨more, hmore⟩ := un.tbls tab _ hHt
      have hgrown : s'.heap.get? tab = some (PySem.W.tabObj (#[] ++ more)) := hok' tab _ hmore
      have KX' : K.In s'.heap := fun b o e => kept b o (fun z => by rw [z, hKt] at e; cases e) (KX b o e)
      obtain ⟨as, hrd⟩ := Dw.reads (R := R) (cl := cl) hok' KX' d0 v u q r'
      refine ⟨u, as, rfl, hrd, ⟨fun b o e => ?_, fun b o e => ?_⟩, os, bare⟩
      · by_cases z : b = tab
        · subst z
          rw [htab] at e
          cases e
          exact .inr (.inl ⟨(hC.tab htab).isCodeTable, rfl, #[], more, rfl, hgrown⟩)
        · exact .inl (kept b o z e)
      · by_cases z : b = tab
        · subst z
          exact ⟨_, hgrown⟩
        · exact ⟨o, kept b o z e⟩
theorem walk_specT {r : OpenSpec} {k : Nat} {q : Program} {loose : List Str} {XP : (Str → Option Value) → Heap → Prop} {YP : World → Heap → Prop} {d dM : DefRec} {K : Params → Frag} {CX : CXT} {x y : Str} {sp : Frag → Sp} {c tab : Addr}
    (hwell : r.wellSaid = true) (hr : Room k callerA)
    (hY : ∀ (w : World) (h : Heap), YP w h → (K w.params).In h)
    (hrec : (recsOf q).find? (fun e => e.name == y) = some dM) (htabIn : ∀ w : World, PySem.W.tabIn (K w.params) y = some (c, tab)) (hKt : ∀ w : World, (K w.params).lookup tab = none)
    (F : ∀ (w : World) (mg : Str → Option Value) (fa : Addr) (h : Heap), YP w h → (K w.params).In h → h.Ns mainGlobals mg → mg d.name = some (.ref fa) →
      ∃ fd : FuncData, (∀ (s : Shared) (us : List Value), us.length = [x].length → BindsTo s fd ⟨us, []⟩ ([x].zip us)) ∧
        ∀ base : Heap, (K w.params).In base → base.Ns mainGlobals mg → PySem.W.CodeHd base c tab → base.BuiltinsAt mg tab → mainGlobals ≠ tab → FnOk r.prog w (K w.params) mg base CX k fa fd [x] (sp (K w.params)))
    (hsp : ∀ a : Codec.denoteAll r.args, Codec.withinAll r.args a = true → Codec.app r.args r.asked a = true → ∃ ns : List Int, Codec.encAll r.args a = [WData.list (ns.map WData.int)] ∧
      ∀ (K : Frag) (H : Hp) (b : Addr), H tab = some (.tbl #[]) → SqL K H b (ns.map V.int) → sp K [.ref b] H (fun v H' => Dw K H' v (r.ret.enc (Codec.app r.args r.f a))) fun _ _ _ => False)
    (hCX : ∀ (H : Hp) (s : Shared) (e : Value) (s' : Shared), CX [] H s (fun _ _ _ => False) e s' → False) :
    PySem.W.WalkOS q loose XP YP r d [] (fun f vs => PySem.call f vs) := by
  intro w s_0 s₁ mg mb G Y fa o pm cd doc dV kV ho hd hcd hD hmg hg args vals as hpre hlay hrd hwl hlo
  obtain ⟨a, e1, e2⟩ := PySem.W.os_pre_some hpre
  obtain ⟨e3, hwi⟩ := Codec.encAll_of_decAll r.args args a e1
  subst e3
  have KX := hY w _ Y
  obtain ⟨fd, hb, hF⟩ := F w mg fa _ Y KX G.T.g hmg
  obtain ⟨ns, en, hs⟩ := hsp a hwi e2
  rw [en] at hwl
  have hwt : (WData.list (ns.map WData.int)).weight ≤ 1048576 := layable_weight hlay _ (by rw [en]; exact .head _)
  obtain ⟨hC, htab⟩ := PySem.W.tab_of (x := y) G.T KX hrec (htabIn w)
  have hBm : ∃ bm ob, mg "__builtins__" = some (.ref bm) ∧ bm ≠ builtinsNs ∧ s₁.heap.get? bm = some ob ∧ ob.cls = .type "module" ∧ ob.dict = some builtinsNs ∧ ob.data = .plain := by
    obtain ⟨bm, ob, b1, b2, b3, b4, b5, b6⟩ := G.T.bmain
    exact ⟨bm, ob, b1, b2, b3, b4, b5, b6⟩
  refine PySem.W.enter_call (codeAny_mono (spec_callT (R := []) (cl := classAt s_0.heap) (d0 := r.ret.enc (Codec.app r.args r.f a)) KX G.T.g G.T.b G.T.builtins G.T.nolimit hg hwl hwt hr hC htab (hKt w) hBm hF hb
    (fun H b ht hS => hs _ H b ht hS) fun H e s' => hCX H s₁ e s') fun r' s' hq => ?_)
  obtain ⟨u, as', rfl, h1, h2, h3, h4⟩ := hq
  exact ⟨.inl ⟨u, _, as', rfl, fun _ => rfl, h1, (OpenSpec.post_iff hwell hwi _ _).mpr rfl, fun z => Bool.noConfusion (show false = true from z)⟩, h2, h3, h4⟩
end L2
namespace Pf
open PySem PySem.Spec PyProof.Rows L2
theorem tabIn_of {K : Frag} {y : Str} {f c tab : Addr} {oc oc2 : Value} {od od2 : Option Addr} {fd : FuncData} {sl sl2 : Array (Option Value)} {vs : Array Value} (a : PySem.W.nsIn K mainGlobals y = some (some (.ref f))) (l : K.lookup f = some ⟨oc, od, .func fd, sl⟩) (hc : fd.code = .ref c) (l2 : K.lookup c = some ⟨oc2, od2, .fields vs, sl2⟩) (hv : vs[11]? = some (.ref tab)) : PySem.W.tabIn K y = some (c, tab) := by
  unfold PySem.W.tabIn
  rw [a]
  dsimp only
  rw [l]
  dsimp only
  rw [hc]
  dsimp only
  rw [l2]
  dsimp only
  rw [hv]
theorem sq_pair {K : Frag} {a : Addr} {d : Option Addr} {sl : Array (Option Value)} {m : Nat} {u v : Tok} {n k : Nat} {i j : Int} (hi : i = Int.ofNat n) (hj : j = Int.ofNat k) (l : K.lookup a = some ⟨.type "tuple", d, .seq #[.int i u, .int j v] m, sl⟩) (H : Hp) : SqT K H a [.int (Int.ofNat n), .int (Int.ofNat k)] := by
  subst hi hj
  exact .inr ⟨_, _, _, l, rfl, rfl, z2, .cons ⟨_, rfl⟩ (.cons ⟨_, rfl⟩ .nil)⟩
theorem txr_mk {K : Frag} {mg : Str → Option Value} {Ca shp t0 t1 t2 t3 t4 t5 t6 t7 t8 : Addr} {d d0 d1 d2 d3 d4 d5 d6 d7 d8 : Option Addr} {sl sl0 sl1 sl2 sl3 sl4 sl5 sl6 sl7 sl8 : Array (Option Value)} {n n0 n1 n2 n3 n4 n5 n6 n7 n8 : Nat} {u0 u1 u2 u3 u4 u5 u6 u7 u8 v0 v1 v2 v3 v4 v5 v6 v7 v8 : Tok}
    (cl : Cls K Ca) (e1 : NoAttr K Ca "number") (e2 : NoAttr K Ca "numbers") (e3 : NoAttr K Ca "rows") (e4 : NoAttr K Ca "behind") (mC : mg "Call" = some (.ref Ca)) (mS : mg "SHAPES" = some (.ref shp)) (hr : mg "range" = none) (hl : mg "len" = none)
    (l : K.lookup shp = some ⟨.type "tuple", d, .seq #[.ref t0, .ref t1, .ref t2, .ref t3, .ref t4, .ref t5, .ref t6, .ref t7, .ref t8] n, sl⟩)
    (l0 : K.lookup t0 = some ⟨.type "tuple", d0, .seq #[.int 0 u0, .int 1 v0] n0, sl0⟩) (l1 : K.lookup t1 = some ⟨.type "tuple", d1, .seq #[.int 2 u1, .int 2 v1] n1, sl1⟩) (l2 : K.lookup t2 = some ⟨.type "tuple", d2, .seq #[.int 2 u2, .int 1 v2] n2, sl2⟩)
    (l3 : K.lookup t3 = some ⟨.type "tuple", d3, .seq #[.int 0 u3, .int 0 v3] n3, sl3⟩) (l4 : K.lookup t4 = some ⟨.type "tuple", d4, .seq #[.int 0 u4, .int 1 v4] n4, sl4⟩) (l5 : K.lookup t5 = some ⟨.type "tuple", d5, .seq #[.int 1 u5, .int 1 v5] n5, sl5⟩)
    (l6 : K.lookup t6 = some ⟨.type "tuple", d6, .seq #[.int 0 u6, .int 0 v6] n6, sl6⟩) (l7 : K.lookup t7 = some ⟨.type "tuple", d7, .seq #[.int 0 u7, .int 0 v7] n7, sl7⟩) (l8 : K.lookup t8 = some ⟨.type "tuple", d8, .seq #[.int 0 u8, .int 0 v8] n8, sl8⟩) :
    TxR K mg Ca shp [.ref t0, .ref t1, .ref t2, .ref t3, .ref t4, .ref t5, .ref t6, .ref t7, .ref t8] := by
  refine ⟨cl, e1, e2, e3, e4, mC, mS, fun H => ?_, fun p n k h => ?_, hr, hl⟩
  · exact .inr ⟨_, _, _, l, rfl, rfl, (by show 9 ≤ sizeLine; decide), .cons rfl (.cons rfl (.cons rfl (.cons rfl (.cons rfl (.cons rfl (.cons rfl (.cons rfl (.cons rfl .nil))))))))⟩
  · unfold PySx61.shape at h
    by_cases h0 : p = 0
    · rw [if_pos h0] at h; cases h; subst h0; exact ⟨t0, rfl, sq_pair rfl rfl l0⟩
    rw [if_neg h0] at h
    by_cases h1 : p = 1
    · rw [if_pos h1] at h; cases h; subst h1; exact ⟨t1, rfl, sq_pair rfl rfl l1⟩
    rw [if_neg h1] at h
    by_cases h2 : p = 2
    · rw [if_pos h2] at h; cases h; subst h2; exact ⟨t2, rfl, sq_pair rfl rfl l2⟩
    rw [if_neg h2] at h
    by_cases h3 : p = 3
    · rw [if_pos h3] at h; cases h; subst h3; exact ⟨t3, rfl, sq_pair rfl rfl l3⟩
    rw [if_neg h3] at h
    by_cases h4 : p = 4
    · rw [if_pos h4] at h; cases h; subst h4; exact ⟨t4, rfl, sq_pair rfl rfl l4⟩
    rw [if_neg h4] at h
    by_cases h5 : p = 5
    · rw [if_pos h5] at h; cases h; subst h5; exact ⟨t5, rfl, sq_pair rfl rfl l5⟩
    rw [if_neg h5] at h
    by_cases h6 : p = 6
    · rw [if_pos h6] at h; cases h; subst h6; exact ⟨t6, rfl, sq_pair rfl rfl l6⟩
    rw [if_neg h6] at h
    by_cases h7 : p = 7
    · rw [if_pos h7] at h; cases h; subst h7; exact ⟨t7, rfl, sq_pair rfl rfl l7⟩
    rw [if_neg h7] at h
    by_cases h8 : p = 8
    · rw [if_pos h8] at h; cases h; subst h8; exact ⟨t8, rfl, sq_pair rfl rfl l8⟩
    rw [if_neg h8] at h
    cases h
open PySem.W in
theorem asks {tab : Addr} (a : Codec.denoteAll PySem.Challenge.rw_platforms_s01_answers.args) (hw : Codec.withinAll PySem.Challenge.rw_platforms_s01_answers.args a = true) (ha : Codec.app PySem.Challenge.rw_platforms_s01_answers.args PySem.Challenge.rw_platforms_s01_answers.asked a = true) :
    ∃ ns : List Int, Codec.encAll PySem.Challenge.rw_platforms_s01_answers.args a = [WData.list (ns.map WData.int)] ∧
      ∀ (K : Frag) (H : Hp) (b : Addr), H tab = some (.tbl #[]) → SqL K H b (ns.map V.int) → spAns tab K [.ref b] H (fun v H' => Dw K H' v (PySem.Challenge.rw_platforms_s01_answers.ret.enc (Codec.app PySem.Challenge.rw_platforms_s01_answers.args PySem.Challenge.rw_platforms_s01_answers.f a))) fun _ _ _ => False := by
  have ha : PySx61.answers_asked a.1 = true := ha
  obtain ⟨cl, Xs, hA⟩ := Mx.asked_of ha
  refine ⟨a.1, rfl, fun K H b ht hS => ⟨b, a.1, cl, Xs, rfl, hS, ?_, hA, ht, fun H' r hr => ?_⟩⟩
  · have hw : ((Codec.inLen 0 31000 a.1 && a.1.all (Codec.inInt (Int.ofNat 0) (Int.ofNat 4294967295))) && true) = true := hw
    rw [Bool.and_eq_true, Bool.and_eq_true] at hw
    have := (Codec.inNat_iff.mp hw.1.1).2
    omega
  · exact .lst (SqL.of hr) (dw_ints _)
end Pf
namespace Pf
open PySem PySem.Spec PyProof.Rows L2
noncomputable abbrev kS (x : Str) (t : Nat) : Value := .str x t
noncomputable abbrev kC (x : Str) (a : Nat) (q : Str) (b c : Nat) (d e f g h : Int) (i : Nat) (j : Int) (k l m n : Nat) (r s : Int) (t : Nat) : Obj := { cls := .type "code", data := .fields #[.str x a, .str q b, .str "/claim/cut.py" c, .int d 0, .int e 0, .int f 0, .int g 0, .int h 0, .ref i, .bool true, .int j 0, .ref k, .none, .ref l, .ref m, .ref n, .int r 0, .int s 0, .str "/claim/cut.py" t] }
noncomputable abbrev kF (x q : Str) (s : Stmt) (m : Str) (t c : Nat) : Obj := { cls := .type "function", data := .func (PySem.W.fnOf x q (defArgs s) (defBody s) (defScope s) .none .none .none (.str m t) none (.ref c) .none) }
noncomputable abbrev kE (P : Params) (x : Str) (t : Nat) (v : Value) : DictEntry := ⟨PyData.keyHash P x, .str x t, v⟩
noncomputable abbrev kD (l : List DictEntry) (n : Nat) : Obj := { cls := .type "dict", data := .dict l.toArray n }
noncomputable abbrev kT (x : Str) (a n s t : Nat) : Obj := { cls := .type "type", data := .cls { name := x, bases := [.type "object"], mro := [.ref a, .type "object"], ns := n, qualname := x }, slots := #[none, none, some (.str x s), some (.str x t), some (.builtin "object.__new__"), some (.bool true)] }
noncomputable def Kf (P : Params) : Frag := (nat_lit 3, kD [kE P "__name__" 165 (kS "platforms.station" 768), kE P "__doc__" 166 .none, kE P "__package__" 167 .none, kE P "__loader__" 168 (.builtin "__main__.__loader__#opaque"), kE P "__spec__" 169 .none, kE P "__annotations__" 170 (.ref 6), kE P "__builtins__" 171 (.ref 4), kE P "__file__" 173 (kS "/claim/cut.py" 172), kE P "__cached__" 174 .none, kE P "COMES" 190 (.int 0 189), kE P "GOES" 192 (.int 1 191), kE P "Coming" 243 (.ref 45), kE P "Going" 276 (.ref 66), kE P "Move" 309 (.ref 87), kE P "moves_in_order" 315 (.ref 96), kE P "LEFT" 319 (.int 0 318), kE P "STANDS_NOWHERE" 321 (.int 1 320), kE P "NOT_IN_A_ROW" 323 (.int 2 322), kE P "OTHERS_AHEAD" 325 (.int 3 324), kE P "CLOSED" 327 (.int 4 326), kE P "NOT_ALLOWED" 329 (.int 5 328), kE P "NO_ROOM" 331 (.int 6 330), kE P "Standing" 420 (.ref 156), kE P "all_choices" 428 (.ref 165), kE P "share_a_part" 434 (.ref 170), kE P "Search" 497 (.ref 209), kE P "MOST_TRACKS" 501 (.int 4 500), kE P "MOST_PARTS" 503 (.int 4 502), kE P "MOST_COMING" 505 (.int 6 504), kE P "MOST_GOING" 507 (.int 12 506), kE P "LONGEST" 509 (.int 100 508), kE P "LATEST" 511 (.int 10000 510), kE P "DEAREST" 513 (.int 1000 512), kE P "WRONG" 516 (.int (-1) 515), kE P "NOT_THERE" 519 (.int (-2) 518), kE P "GOES_ALREADY" 522 (.int (-3) 521), kE P "TOO_MANY" 525 (.int (-5) 524), kE P "NO_WAY" 528 (.int (-6) 527), kE P "are_lengths" 534 (.ref 218), kE P "are_costs" 540 (.ref 223), kE P "with_lists" 550 (.ref 230), kE P "is_on_track" 556 (.ref 235), kE P "Plan" 687 (.ref 332), kE P "SHAPES" 708 (.ref 346), kE P "Call" 743 (.ref 363), kE P "read_call" 757 (.ref 374), kE P "read_calls" 767 (.ref 381), kE P "BEGINS" 771 (.int 0 770), kE P "COME" 773 (.int 1 772), kE P "GO" 775 (.int 2 774), kE P "UNDO" 777 (.int 3 776), kE P "TRY_TRACKS" 779 (.int 4 778), kE P "STANDS" 781 (.int 5 780), kE P "BEST" 783 (.int 6 782), kE P "FEWEST" 785 (.int 7 784), kE P "answer_to" 795 (.ref 388), kE P "answers" 806 (.ref 395)] 57) ::
 (nat_lit 27, kC "__init__" 205 "Coming.__init__" 206 207 6 5 0 0 3 22 181 23 24 25 26 213 6 214) ::
 (nat_lit 28, kF "__init__" "Coming.__init__" sCoI "platforms.trains" 187 27) ::
 (nat_lit 34, kC "can_stand_on" 216 "Coming.can_stand_on" 217 218 12 2 0 0 3 29 181 30 31 32 33 221 12 222) ::
 (nat_lit 35, kF "can_stand_on" "Coming.can_stand_on" sCan "platforms.trains" 187 34) ::
 (nat_lit 41, kC "cost_on" 224 "Coming.cost_on" 225 226 15 2 0 0 3 36 181 37 38 39 40 229 15 230) ::
 (nat_lit 42, kF "cost_on" "Coming.cost_on" sCost "platforms.trains" 187 41) ::
 (nat_lit 44, kD [kE P "__module__" 200 (kS "platforms.trains" 187), kE P "__firstlineno__" 204 (.int 4 203), kE P "__init__" 215 (.ref 28), kE P "can_stand_on" 223 (.ref 35), kE P "cost_on" 231 (.ref 42), kE P "__static_attributes__" 236 (.ref 43), kE P "__dict__" 238 (.ref 46), kE P "__weakref__" 240 (.ref 47), kE P "__doc__" 241 .none] 4) ::
 (nat_lit 45, kT "Coming" 45 44 193 201) ::
 (nat_lit 62, kC "__init__" 256 "Going.__init__" 257 258 19 4 0 0 3 57 181 58 59 60 61 263 19 264) ::
 (nat_lit 63, kF "__init__" "Going.__init__" sGoI "platforms.trains" 187 62) ::
 (nat_lit 65, kD [kE P "__module__" 251 (kS "platforms.trains" 187), kE P "__firstlineno__" 255 (.int 17 254), kE P "__init__" 265 (.ref 63), kE P "__static_attributes__" 269 (.ref 64), kE P "__dict__" 271 (.ref 67), kE P "__weakref__" 273 (.ref 68), kE P "__doc__" 274 .none] 4) ::
 (nat_lit 66, kT "Going" 66 65 244 252) ::
 (nat_lit 83, kC "__init__" 289 "Move.__init__" 290 291 25 4 0 0 3 78 181 79 80 81 82 296 25 297) ::
 (nat_lit 84, kF "__init__" "Move.__init__" sMvI "platforms.trains" 187 83) ::
 (nat_lit 86, kD [kE P "__module__" 284 (kS "platforms.trains" 187), kE P "__firstlineno__" 288 (.int 23 287), kE P "__init__" 298 (.ref 84), kE P "__static_attributes__" 302 (.ref 85), kE P "__dict__" 304 (.ref 88), kE P "__weakref__" 306 (.ref 89), kE P "__doc__" 307 .none] 4) ::
 (nat_lit 87, kT "Move" 87 86 277 285) ::
 (nat_lit 95, ⟨.type "code", none, .fields #[kS "moves_in_order" 310, kS "moves_in_order" 311, kS "/claim/cut.py" 312, .int 29 0, .int 2 0, .int 0 0, .int 0 0, .int 3 0, .ref 92, .bool true, .int 181 0, .ref 93, .none, .none, .none, .ref 94, .int 313 0, .int 29 0, kS "/claim/cut.py" 314], #[]⟩) ::
 (nat_lit 96, kF "moves_in_order" "moves_in_order" sMoves "platforms.trains" 187 95) ::
 (nat_lit 107, ⟨.type "code", none, .fields #[kS "__init__" 344, kS "Standing.__init__" 345, kS "/claim/cut.py" 346, .int 43 0, .int 3 0, .int 0 0, .int 0 0, .int 3 0, .ref 104, .bool true, .int 181 0, .ref 105, .none, .none, .none, .ref 106, .int 347 0, .int 43 0, kS "/claim/cut.py" 348], #[]⟩) ::
 (nat_lit 108, kF "__init__" "Standing.__init__" sStI "platforms.standing" 316 107) ::
 (nat_lit 114, kC "first_obstacle" 350 "Standing.first_obstacle" 351 352 48 3 0 0 3 109 181 110 111 112 113 358 48 359) ::
 (nat_lit 115, kF "first_obstacle" "Standing.first_obstacle" sFirst "platforms.standing" 316 114) ::
 (nat_lit 121, kC "do_move" 361 "Standing.do_move" 362 363 55 3 0 0 3 116 181 117 118 119 120 367 55 368) ::
 (nat_lit 122, kF "do_move" "Standing.do_move" sDo "platforms.standing" 316 121) ::
 (nat_lit 128, kC "bring" 370 "Standing.bring" 371 372 60 3 0 0 3 123 181 124 125 126 127 376 60 377) ::
 (nat_lit 129, kF "bring" "Standing.bring" sBring "platforms.standing" 316 128) ::
 (nat_lit 133, ⟨.type "code", none, .fields #[kS "take" 379, kS "Standing.take" 380, kS "/claim/cut.py" 381, .int 73 0, .int 2 0, .int 0 0, .int 0 0, .int 3 0, .ref 130, .bool true, .int 181 0, .ref 131, .none, .none, .none, .ref 132, .int 382 0, .int 73 0, kS "/claim/cut.py" 383], #[]⟩) ::
 (nat_lit 134, kF "take" "Standing.take" sTake "platforms.standing" 316 133) ::
 (nat_lit 140, kC "leads_to" 385 "Standing.leads_to" 386 387 92 3 0 0 3 135 181 136 137 138 139 391 92 392) ::
 (nat_lit 141, kF "leads_to" "Standing.leads_to" sLeads "platforms.standing" 316 140) ::
 (nat_lit 145, ⟨.type "code", none, .fields #[kS "length_of" 394, kS "Standing.length_of" 395, kS "/claim/cut.py" 396, .int 95 0, .int 2 0, .int 0 0, .int 0 0, .int 3 0, .ref 142, .bool true, .int 181 0, .ref 143, .none, .none, .none, .ref 144, .int 397 0, .int 95 0, kS "/claim/cut.py" 398], #[]⟩) ::
 (nat_lit 146, kF "length_of" "Standing.length_of" sLong "platforms.standing" 316 145) ::
 (nat_lit 152, kC "track_of" 400 "Standing.track_of" 401 402 98 2 0 0 3 147 181 148 149 150 151 407 98 408) ::
 (nat_lit 153, kF "track_of" "Standing.track_of" sTrack "platforms.standing" 316 152) ::
 (nat_lit 155, kD [kE P "__module__" 339 (kS "platforms.standing" 316), kE P "__firstlineno__" 343 (.int 41 342), kE P "__init__" 349 (.ref 108), kE P "first_obstacle" 360 (.ref 115), kE P "do_move" 369 (.ref 122), kE P "bring" 378 (.ref 129), kE P "take" 384 (.ref 134), kE P "leads_to" 393 (.ref 141), kE P "length_of" 399 (.ref 146), kE P "track_of" 409 (.ref 153), kE P "__static_attributes__" 413 (.ref 154), kE P "__dict__" 415 (.ref 157), kE P "__weakref__" 417 (.ref 158), kE P "__doc__" 418 .none] 4) ::
 (nat_lit 156, kT "Standing" 156 155 332 340) ::
 (nat_lit 164, ⟨.type "code", none, .fields #[kS "all_choices" 423, kS "all_choices" 424, kS "/claim/cut.py" 425, .int 104 0, .int 2 0, .int 0 0, .int 0 0, .int 3 0, .ref 161, .bool true, .int 181 0, .ref 162, .none, .none, .none, .ref 163, .int 426 0, .int 104 0, kS "/claim/cut.py" 427], #[]⟩) ::
 (nat_lit 165, kF "all_choices" "all_choices" sChoices "platforms.ways" 421 164) ::
 (nat_lit 169, ⟨.type "code", none, .fields #[kS "share_a_part" 429, kS "share_a_part" 430, kS "/claim/cut.py" 431, .int 112 0, .int 2 0, .int 0 0, .int 0 0, .int 3 0, .ref 166, .bool true, .int 181 0, .ref 167, .none, .none, .none, .ref 168, .int 432 0, .int 112 0, kS "/claim/cut.py" 433], #[]⟩) ::
 (nat_lit 170, kF "share_a_part" "share_a_part" sShare "platforms.ways" 421 169) ::
 (nat_lit 183, kC "__init__" 447 "Search.__init__" 448 449 116 5 0 0 3 178 181 179 180 181 182 455 116 456) ::
 (nat_lit 184, kF "__init__" "Search.__init__" sSeI "platforms.ways" 421 183) ::
 (nat_lit 188, ⟨.type "code", none, .fields #[kS "ways" 458, kS "Search.ways" 459, kS "/claim/cut.py" 460, .int 123 0, .int 1 0, .int 0 0, .int 0 0, .int 3 0, .ref 185, .bool true, .int 181 0, .ref 186, .none, .none, .none, .ref 187, .int 461 0, .int 123 0, kS "/claim/cut.py" 462], #[]⟩) ::
 (nat_lit 189, kF "ways" "Search.ways" sWays "platforms.ways" 421 188) ::
 (nat_lit 195, kC "is_way" 464 "Search.is_way" 465 466 127 2 0 0 3 190 181 191 192 193 194 470 127 471) ::
 (nat_lit 196, kF "is_way" "Search.is_way" sIsWay "platforms.ways" 421 195) ::
 (nat_lit 200, ⟨.type "code", none, .fields #[kS "can_be_done_on" 473, kS "Search.can_be_done_on" 474, kS "/claim/cut.py" 475, .int 133 0, .int 3 0, .int 0 0, .int 0 0, .int 3 0, .ref 197, .bool true, .int 181 0, .ref 198, .none, .none, .none, .ref 199, .int 476 0, .int 133 0, kS "/claim/cut.py" 477], #[]⟩) ::
 (nat_lit 201, kF "can_be_done_on" "Search.can_be_done_on" sCanOn "platforms.ways" 421 200) ::
 (nat_lit 205, ⟨.type "code", none, .fields #[kS "can_group_be_done" 479, kS "Search.can_group_be_done" 480, kS "/claim/cut.py" 481, .int 140 0, .int 3 0, .int 0 0, .int 0 0, .int 3 0, .ref 202, .bool true, .int 181 0, .ref 203, .none, .none, .none, .ref 204, .int 482 0, .int 140 0, kS "/claim/cut.py" 483], #[]⟩) ::
 (nat_lit 206, kF "can_group_be_done" "Search.can_group_be_done" sCanGr "platforms.ways" 421 205) ::
 (nat_lit 208, kD [kE P "__module__" 442 (kS "platforms.ways" 421), kE P "__firstlineno__" 446 (.int 114 445), kE P "__init__" 457 (.ref 184), kE P "ways" 463 (.ref 189), kE P "is_way" 472 (.ref 196), kE P "can_be_done_on" 478 (.ref 201), kE P "can_group_be_done" 484 (.ref 206), kE P "__static_attributes__" 490 (.ref 207), kE P "__dict__" 492 (.ref 210), kE P "__weakref__" 494 (.ref 211), kE P "__doc__" 495 .none] 4) ::
 (nat_lit 209, kT "Search" 209 208 435 443) ::
 (nat_lit 217, ⟨.type "code", none, .fields #[kS "are_lengths" 529, kS "are_lengths" 530, kS "/claim/cut.py" 531, .int 160 0, .int 1 0, .int 0 0, .int 0 0, .int 3 0, .ref 214, .bool true, .int 181 0, .ref 215, .none, .none, .none, .ref 216, .int 532 0, .int 160 0, kS "/claim/cut.py" 533], #[]⟩) ::
 (nat_lit 218, kF "are_lengths" "are_lengths" sLens "platforms.plan" 498 217) ::
 (nat_lit 222, ⟨.type "code", none, .fields #[kS "are_costs" 535, kS "are_costs" 536, kS "/claim/cut.py" 537, .int 162 0, .int 1 0, .int 0 0, .int 0 0, .int 3 0, .ref 219, .bool true, .int 181 0, .ref 220, .none, .none, .none, .ref 221, .int 538 0, .int 162 0, kS "/claim/cut.py" 539], #[]⟩) ::
 (nat_lit 223, kF "are_costs" "are_costs" sCosts "platforms.plan" 498 222) ::
 (nat_lit 229, kC "with_lists" 541 "with_lists" 542 543 164 2 0 0 3 224 181 225 226 227 228 548 164 549) ::
 (nat_lit 230, kF "with_lists" "with_lists" sWith "platforms.plan" 498 229) ::
 (nat_lit 234, ⟨.type "code", none, .fields #[kS "is_on_track" 551, kS "is_on_track" 552, kS "/claim/cut.py" 553, .int 170 0, .int 3 0, .int 0 0, .int 0 0, .int 3 0, .ref 231, .bool true, .int 181 0, .ref 232, .none, .none, .none, .ref 233, .int 554 0, .int 170 0, kS "/claim/cut.py" 555], #[]⟩) ::
 (nat_lit 235, kF "is_on_track" "is_on_track" sOnTrk "platforms.plan" 498 234) ::
 (nat_lit 248, kC "__init__" 569 "Plan.__init__" 570 571 174 1 0 0 3 243 181 244 245 246 247 573 174 574) ::
 (nat_lit 249, kF "__init__" "Plan.__init__" sPlI "platforms.plan" 498 248) ::
 (nat_lit 253, ⟨.type "code", none, .fields #[kS "begins" 576, kS "Plan.begins" 577, kS "/claim/cut.py" 578, .int 180 0, .int 2 0, .int 0 0, .int 0 0, .int 3 0, .ref 250, .bool true, .int 181 0, .ref 251, .none, .none, .none, .ref 252, .int 579 0, .int 180 0, kS "/claim/cut.py" 580], #[]⟩) ::
 (nat_lit 254, kF "begins" "Plan.begins" sBegins "platforms.plan" 498 253) ::
 (nat_lit 260, kC "come" 582 "Plan.come" 583 584 190 5 0 0 3 255 181 256 257 258 259 592 190 593) ::
 (nat_lit 261, kF "come" "Plan.come" sCome "platforms.plan" 498 260) ::
 (nat_lit 265, ⟨.type "code", none, .fields #[kS "go" 595, kS "Plan.go" 596, kS "/claim/cut.py" 597, .int 203 0, .int 4 0, .int 0 0, .int 0 0, .int 3 0, .ref 262, .bool true, .int 181 0, .ref 263, .none, .none, .none, .ref 264, .int 598 0, .int 203 0, kS "/claim/cut.py" 599], #[]⟩) ::
 (nat_lit 266, kF "go" "Plan.go" sGo "platforms.plan" 498 265) ::
 (nat_lit 272, kC "undo" 601 "Plan.undo" 602 603 215 1 0 0 3 267 181 268 269 270 271 605 215 606) ::
 (nat_lit 273, kF "undo" "Plan.undo" sUndo "platforms.plan" 498 272) ::
 (nat_lit 279, kC "try_tracks" 608 "Plan.try_tracks" 609 610 221 2 0 0 3 274 181 275 276 277 278 615 221 616) ::
 (nat_lit 280, kF "try_tracks" "Plan.try_tracks" sTry "platforms.plan" 498 279) ::
 (nat_lit 284, ⟨.type "code", none, .fields #[kS "stands" 618, kS "Plan.stands" 619, kS "/claim/cut.py" 620, .int 230 0, .int 3 0, .int 0 0, .int 0 0, .int 3 0, .ref 281, .bool true, .int 181 0, .ref 282, .none, .none, .none, .ref 283, .int 621 0, .int 230 0, kS "/claim/cut.py" 622], #[]⟩) ::
 (nat_lit 285, kF "stands" "Plan.stands" sStands "platforms.plan" 498 284) ::
 (nat_lit 291, kC "best" 624 "Plan.best" 625 626 240 1 0 0 3 286 181 287 288 289 290 630 240 631) ::
 (nat_lit 292, kF "best" "Plan.best" sBest "platforms.plan" 498 291) ::
 (nat_lit 296, ⟨.type "code", none, .fields #[kS "fewest" 633, kS "Plan.fewest" 634, kS "/claim/cut.py" 635, .int 247 0, .int 1 0, .int 0 0, .int 0 0, .int 3 0, .ref 293, .bool true, .int 181 0, .ref 294, .none, .none, .none, .ref 295, .int 636 0, .int 247 0, kS "/claim/cut.py" 637], #[]⟩) ::
 (nat_lit 297, kF "fewest" "Plan.fewest" sFewest "platforms.plan" 498 296) ::
 (nat_lit 301, ⟨.type "code", none, .fields #[kS "forced" 639, kS "Plan.forced" 640, kS "/claim/cut.py" 641, .int 255 0, .int 1 0, .int 0 0, .int 0 0, .int 3 0, .ref 298, .bool true, .int 181 0, .ref 299, .none, .none, .none, .ref 300, .int 642 0, .int 255 0, kS "/claim/cut.py" 643], #[]⟩) ::
 (nat_lit 302, kF "forced" "Plan.forced" sForced "platforms.plan" 498 301) ::
 (nat_lit 306, ⟨.type "code", none, .fields #[kS "goes_already" 645, kS "Plan.goes_already" 646, kS "/claim/cut.py" 647, .int 262 0, .int 2 0, .int 0 0, .int 0 0, .int 3 0, .ref 303, .bool true, .int 181 0, .ref 304, .none, .none, .none, .ref 305, .int 648 0, .int 262 0, kS "/claim/cut.py" 649], #[]⟩) ::
 (nat_lit 307, kF "goes_already" "Plan.goes_already" sAlready "platforms.plan" 498 306) ::
 (nat_lit 311, ⟨.type "code", none, .fields #[kS "are_tracks_for_all" 651, kS "Plan.are_tracks_for_all" 652, kS "/claim/cut.py" 653, .int 265 0, .int 2 0, .int 0 0, .int 0 0, .int 3 0, .ref 308, .bool true, .int 181 0, .ref 309, .none, .none, .none, .ref 310, .int 654 0, .int 265 0, kS "/claim/cut.py" 655], #[]⟩) ::
 (nat_lit 312, kF "are_tracks_for_all" "Plan.are_tracks_for_all" sForAll "platforms.plan" 498 311) ::
 (nat_lit 316, ⟨.type "code", none, .fields #[kS "cost_of" 657, kS "Plan.cost_of" 658, kS "/claim/cut.py" 659, .int 268 0, .int 2 0, .int 0 0, .int 0 0, .int 3 0, .ref 313, .bool true, .int 181 0, .ref 314, .none, .none, .none, .ref 315, .int 660 0, .int 268 0, kS "/claim/cut.py" 661], #[]⟩) ::
 (nat_lit 317, kF "cost_of" "Plan.cost_of" sCostOf "platforms.plan" 498 316) ::
 (nat_lit 323, kC "all_ways" 663 "Plan.all_ways" 664 665 271 1 0 0 3 318 181 319 320 321 322 667 271 668) ::
 (nat_lit 324, kF "all_ways" "Plan.all_ways" sAllWays "platforms.plan" 498 323) ::
 (nat_lit 328, ⟨.type "code", none, .fields #[kS "cheapest_of" 670, kS "Plan.cheapest_of" 671, kS "/claim/cut.py" 672, .int 274 0, .int 2 0, .int 0 0, .int 0 0, .int 3 0, .ref 325, .bool true, .int 181 0, .ref 326, .none, .none, .none, .ref 327, .int 673 0, .int 274 0, kS "/claim/cut.py" 674], #[]⟩) ::
 (nat_lit 329, kF "cheapest_of" "Plan.cheapest_of" sCheap "platforms.plan" 498 328) ::
 (nat_lit 331, kD [kE P "__module__" 564 (kS "platforms.plan" 498), kE P "__firstlineno__" 568 (.int 172 567), kE P "__init__" 575 (.ref 249), kE P "begins" 581 (.ref 254), kE P "come" 594 (.ref 261), kE P "go" 600 (.ref 266), kE P "undo" 607 (.ref 273), kE P "try_tracks" 617 (.ref 280), kE P "stands" 623 (.ref 285), kE P "best" 632 (.ref 292), kE P "fewest" 638 (.ref 297), kE P "forced" 644 (.ref 302), kE P "goes_already" 650 (.ref 307), kE P "are_tracks_for_all" 656 (.ref 312), kE P "cost_of" 662 (.ref 317), kE P "all_ways" 669 (.ref 324), kE P "cheapest_of" 675 (.ref 329), kE P "__static_attributes__" 680 (.ref 330), kE P "__dict__" 682 (.ref 333), kE P "__weakref__" 684 (.ref 334), kE P "__doc__" 685 .none] 4) ::
 (nat_lit 332, kT "Plan" 332 331 557 565) ::
 (nat_lit 337, ⟨.type "tuple", none, .seq #[.int 0 690, .int 1 691], #[]⟩) ::
 (nat_lit 338, ⟨.type "tuple", none, .seq #[.int 2 692, .int 2 693], #[]⟩) ::
 (nat_lit 339, ⟨.type "tuple", none, .seq #[.int 2 694, .int 1 695], #[]⟩) ::
 (nat_lit 340, ⟨.type "tuple", none, .seq #[.int 0 696, .int 0 697], #[]⟩) ::
 (nat_lit 341, ⟨.type "tuple", none, .seq #[.int 0 698, .int 1 699], #[]⟩) ::
 (nat_lit 342, ⟨.type "tuple", none, .seq #[.int 1 700, .int 1 701], #[]⟩) ::
 (nat_lit 343, ⟨.type "tuple", none, .seq #[.int 0 702, .int 0 703], #[]⟩) ::
 (nat_lit 344, ⟨.type "tuple", none, .seq #[.int 0 704, .int 0 705], #[]⟩) ::
 (nat_lit 345, ⟨.type "tuple", none, .seq #[.int 0 706, .int 0 707], #[]⟩) ::
 (nat_lit 346, ⟨.type "tuple", none, .seq #[.ref 337, .ref 338, .ref 339, .ref 340, .ref 341, .ref 342, .ref 343, .ref 344, .ref 345], #[]⟩) ::
 (nat_lit 359, kC "__init__" 721 "Call.__init__" 722 723 282 5 0 0 3 354 181 355 356 357 358 729 282 730) ::
 (nat_lit 360, kF "__init__" "Call.__init__" sCaI "platforms.reading" 688 359) ::
 (nat_lit 362, kD [kE P "__module__" 716 (kS "platforms.reading" 688), kE P "__firstlineno__" 720 (.int 280 719), kE P "__init__" 731 (.ref 360), kE P "__static_attributes__" 736 (.ref 361), kE P "__dict__" 738 (.ref 364), kE P "__weakref__" 740 (.ref 365), kE P "__doc__" 741 .none] 4) ::
 (nat_lit 363, kT "Call" 363 362 709 717) ::
 (nat_lit 373, kC "read_call" 744 "read_call" 745 746 287 2 0 0 3 368 181 369 370 371 372 755 287 756) ::
 (nat_lit 374, kF "read_call" "read_call" sRead "platforms.reading" 688 373) ::
 (nat_lit 380, kC "read_calls" 758 "read_calls" 759 760 297 1 0 0 3 375 181 376 377 378 379 765 297 766) ::
 (nat_lit 381, kF "read_calls" "read_calls" sReads "platforms.reading" 688 380) ::
 (nat_lit 387, kC "answer_to" 786 "answer_to" 787 788 314 2 0 0 3 382 181 383 384 385 386 793 314 794) ::
 (nat_lit 388, kF "answer_to" "answer_to" sTo "platforms.station" 768 387) ::
 (nat_lit 394, kC "answers" 796 "answers" 797 798 334 1 0 0 3 389 181 390 391 392 393 804 334 805) ::
 (nat_lit 395, kF "answers" "answers" sAns "platforms.station" 768 394) :: []
def asK : List Addr := [nat_lit 3, nat_lit 27, nat_lit 28, nat_lit 34, nat_lit 35, nat_lit 41, nat_lit 42, nat_lit 44, nat_lit 45, nat_lit 62, nat_lit 63, nat_lit 65, nat_lit 66, nat_lit 83, nat_lit 84, nat_lit 86, nat_lit 87, nat_lit 95, nat_lit 96, nat_lit 107, nat_lit 108, nat_lit 114, nat_lit 115, nat_lit 121, nat_lit 122, nat_lit 128, nat_lit 129, nat_lit 133, nat_lit 134, nat_lit 140, nat_lit 141, nat_lit 145, nat_lit 146, nat_lit 152, nat_lit 153, nat_lit 155, nat_lit 156, nat_lit 164, nat_lit 165, nat_lit 169, nat_lit 170, nat_lit 183, nat_lit 184, nat_lit 188, nat_lit 189, nat_lit 195, nat_lit 196, nat_lit 200, nat_lit 201, nat_lit 205, nat_lit 206, nat_lit 208, nat_lit 209, nat_lit 217, nat_lit 218, nat_lit 222, nat_lit 223, nat_lit 229, nat_lit 230, nat_lit 234, nat_lit 235, nat_lit 248, nat_lit 249, nat_lit 253, nat_lit 254, nat_lit 260, nat_lit 261, nat_lit 265, nat_lit 266, nat_lit 272, nat_lit 273, nat_lit 279, nat_lit 280, nat_lit 284, nat_lit 285, nat_lit 291, nat_lit 292, nat_lit 296, nat_lit 297, nat_lit 301, nat_lit 302, nat_lit 306, nat_lit 307, nat_lit 311, nat_lit 312, nat_lit 316, nat_lit 317, nat_lit 323, nat_lit 324, nat_lit 328, nat_lit 329, nat_lit 331, nat_lit 332, nat_lit 337, nat_lit 338, nat_lit 339, nat_lit 340, nat_lit 341, nat_lit 342, nat_lit 343, nat_lit 344, nat_lit 345, nat_lit 346, nat_lit 359, nat_lit 360, nat_lit 362, nat_lit 363, nat_lit 373, nat_lit 374, nat_lit 380, nat_lit 381, nat_lit 387, nat_lit 388, nat_lit 394, nat_lit 395]
end Pf
namespace Pf
open PySem PySem.W PyProof.Rows
noncomputable section
abbrev pwx : Program := PySem.Challenge.pw_platforms_s01_answers
def qv : Program := view pwx ((List.range 54).filter fun i => !([0, 7, 16, 20, 38, 43].contains i))
theorem asK_eq : ∀ P, asK = (Kf P).map (·.1) := fun _ => by kernel_rfl
abbrev xtK (s : Shared) : Bool := xlAt qv [] s && recOk [] s
abbrev moK : List Str := importedModules pwx.main.body
abbrev stX (w : World) (os : OsState) : Shared := ⟨boot_heap w.params, Array.mk [], boot_drawn, boot_toks, os⟩
abbrev runX (w : World) (os : OsState) : Option Shared := topRun treeTable pwx w (boot_heap w.params).objs.size ((boot_heap w.params).nsMap mainGlobals "__annotations__") 6348 (stX w os) (topStub pwx)
abbrev runT (w : World) (os : OsState) : Option Shared := PySem.W.Fast.tw14082659384304107361 PySem.W.Fast.tw14364793385576792824 pwx w (boot_heap w.params).objs.size ((boot_heap w.params).nsMap mainGlobals "__annotations__") 6348 (stX w os) (topStub pwx)
theorem run_eq (w : World) (os : OsState) : runX w os = runT w os := by
  unfold runX runT
  rw [PySem.W.Fast.te14082659384304107361, PySem.W.Fast.te14364793385576792824]
theorem boot1 : opening pwx = plainProg pwx.main.scope.names := by kernel_rfl
theorem boot2 (s : Shared) : fenceModules? pwx s = some s := by kernel_rfl
theorem boot3 (w : World) (os : OsState) : ((stX w os).heap.isNs mainGlobals && (stX w os).gens.size == 0) = true := by kernel_rfl
theorem part1 (w : World) (os : OsState) : (runT w os).map (fun s => (staticsOk moK (boot_heap w.params) s.heap && namesBound pwx s.heap && gensDone s && laidKept (boot_heap w.params) s.heap, s.heap.bltView, pinSeenD qv (drecsOf qv) s, plainSeenD qv [] s, clsSeenW qv [] s)) = some (true, bltViewBooted, pinGoodD (drecsOf qv), plainGoodD qv [], clsGoodW qv []) := by kernel_rfl
theorem part2 (w : World) (os : OsState) : (runT w os).map (fun s => (asK.map s.heap.get?, seen ((recsOf qv).map (·.name)) (ownsOf qv) [] { s with gens := #[] })) = some ((Kf w.params).map (fun p => some p.2), expectedOf qv) := by kernel_rfl
theorem part3 (w : World) (os : OsState) : (runT w os).map (fun s => s.heap.keysOk (looseW qv []) ((recsOf qv).map (·.name)) ((litsOf qv).map (·.1)) ((clssOf qv (looseW qv [])).map (·.name)) && s.heap.accountedOkI moK && s.heap.isNs mainGlobals && s.heap.isNs builtinsNs && tablesOk qv s.heap && xtK s && (if true then s.gens.size == 0 else !leftWithCleanup s.gens)) = some true := by kernel_rfl
theorem part4 (w : World) (os : OsState) : (runT w os).map (fun s => plainSeenE qv (looseW qv []) s) = some (plainGoodE qv (looseW qv [])) := by kernel_rfl
theorem part5 (w : World) (os : OsState) : (runT w os).map (fun s => (tabsOk qv s, wideSeen qv s)) = some (true, wideGood qv) := by kernel_rfl
end
end Pf
namespace Pf
open PySem PySem.W PyProof.Rows
theorem of_run {A B : Type} {X : Option A} {f : A → B} {s : A} {b : B} (h : X = some s) (e : X.map f = some b) : f s = b := by
  rw [h] at e
  exact Option.some.inj e
theorem of_pair {A B C : Type} {X : Option A} {f : A → B} {g : A → C} {s : A} {b : B} {c : C} (h : X = some s) (e : X.map (fun s => (f s, g s)) = some (b, c)) : f s = b ∧ g s = c := by
  rw [h] at e
  exact Prod.mk.inj (Option.some.inj e)
theorem of_five {A B C D E F : Type} {X : Option A} {f : A → B} {g : A → C} {h : A → D} {i : A → E} {j : A → F} {b : B} {c : C} {d : D} {e : E} {k : F} (q : X.map (fun s => (f s, g s, h s, i s, j s)) = some (b, c, d, e, k)) : ∃ s, X = some s ∧ f s = b ∧ g s = c ∧ h s = d ∧ i s = e ∧ j s = k := by
  obtain ⟨s, hs, q⟩ := Option.map_eq_some_iff.mp q
  obtain ⟨q1, q⟩ := Prod.mk.inj q
  obtain ⟨q2, q⟩ := Prod.mk.inj q
  obtain ⟨q3, q⟩ := Prod.mk.inj q
  obtain ⟨q4, q5⟩ := Prod.mk.inj q
  exact ⟨s, hs, q1, q2, q3, q4, q5⟩
theorem top_of {tb : String → Option Builtin} {p : Program} {w : World} {N : Nat} {h : Heap} {gs : Array GenState} {d : Drawn} {k : Nat} {os : OsState} {s : Shared} (h1 : (h.isNs mainGlobals && gs.size == 0) = true)
    (h2 : topRun tb p w h.objs.size (h.nsMap mainGlobals "__annotations__") N ⟨h, gs, d, k, os⟩ (topStub p) = some s) (h3 : (staticsOk (importedModules p.main.body) h s.heap && namesBound p s.heap && gensDone s && laidKept h s.heap) = true) : topFrom tb p w N ⟨h, gs, d, k, os⟩ = some s := by
  unfold topFrom
  dsimp only
  rw [h1]
  dsimp only
  rw [h2, Option.bind_some, h3]
theorem seen_of {q : Program} {loose mods : List Str} {Xt : Shared → Bool} {s : Shared} (c1 : seen ((recsOf q).map (·.name)) (ownsOf q) [] { s with gens := #[] } = expectedOf q) (c2 : s.heap.bltView = bltViewBooted)
    (c3 : (s.heap.keysOk (looseW q loose) ((recsOf q).map (·.name)) ((litsOf q).map (·.1)) ((clssOf q (looseW q loose)).map (·.name)) && s.heap.accountedOkI mods && s.heap.isNs mainGlobals && s.heap.isNs builtinsNs && tablesOk q s.heap && Xt s && (if true then s.gens.size == 0 else !leftWithCleanup s.gens)) = true)
    (c4 : tabsOk q s = true) (c5 : pinSeenD q (drecsOf q) s = pinGoodD (drecsOf q)) (c6 : plainSeenE q (looseW q loose) s = plainGoodE q (looseW q loose)) (c7 : plainSeenD q loose s = plainGoodD q loose) (c8 : wideSeen q s = wideGood q) (c9 : clsSeenW q loose s = clsGoodW q loose) :
    openSeen q loose mods Xt true s = openGood q loose :=
  congr (congrArg Prod.mk c1) (congr (congrArg Prod.mk c2) (congr (congrArg Prod.mk c3) (congr (congrArg Prod.mk c4) (congr (congrArg Prod.mk c5) (congr (congrArg Prod.mk c6) (congr (congrArg Prod.mk c7) (congr (congrArg Prod.mk c8) c9)))))))
theorem left_of {p q : Program} {loose : List Str} {Xt : Shared → Bool} {A : Type} {Yf : Shared → A} {Ya : World → A} {N : Nat} {H : Params → Heap} {gs : Array GenState} {d : Drawn} {k : Nat} (hb : ∀ w : World, (fencedOpening treeTable p w N).map (fun s => (s.heap, s.gens, s.drawn, s.toks)) = some (H w.params, gs, d, k))
    (h : ∀ (w : World) (os : OsState), ∃ s, ((H w.params).isNs mainGlobals && gs.size == 0) = true ∧ topRun treeTable p w (H w.params).objs.size ((H w.params).nsMap mainGlobals "__annotations__") N ⟨H w.params, gs, d, k, os⟩ (topStub p) = some s ∧
      (staticsOk (importedModules p.main.body) (H w.params) s.heap && namesBound p s.heap && gensDone s && laidKept (H w.params) s.heap) = true ∧ openSeen q loose (importedModules p.main.body) Xt true s = openGood q loose ∧ Yf s = Ya w) : LeftO p q loose Xt Yf Ya N := fun w => by
  obtain ⟨⟨h', gs', d', k', os⟩, a, b⟩ := Option.map_eq_some_iff.mp (hb w)
  obtain ⟨b1, b⟩ := Prod.mk.inj b
  obtain ⟨b2, b⟩ := Prod.mk.inj b
  obtain ⟨b3, b4⟩ := Prod.mk.inj b
  dsimp only at b1 b2 b3 b4
  subst b1 b2 b3 b4
  obtain ⟨s, h1, h2, h3, hz, y⟩ := h w os
  unfold openEnds
  rw [a, Option.bind_some, top_of h1 h2 h3, Option.map_some, hz, y]
noncomputable section
theorem left : LeftO pwx qv [] xtK (fun s => asK.map s.heap.get?) (fun w => (Kf w.params).map fun p => some p.2) 6348 := by
  refine left_of (boot_open (p := pwx) (N := 6348) boot1 rfl boot2) fun w os => ?_
  obtain ⟨s, hs, e1, c2, c5, c7, c9⟩ := of_five (part1 w os)
  obtain ⟨y, c1⟩ := of_pair hs (part2 w os)
  obtain ⟨c4, c8⟩ := of_pair hs (part5 w os)
  have c3 := of_run hs (part3 w os)
  have c6 := of_run hs (part4 w os)
  exact ⟨s, boot3 w os, (run_eq w os).trans hs, e1, seen_of c1 c2 c3 c4 c5 c6 c7 c8 c9, y⟩
end
end Pf
namespace Pf
open PySem PySem.Spec PyProof.Rows L2
open PySem.W (nsIn findIn codeIn keepIn isFn plainGet hasDictIn plainOver makesIn mg_of mg_none_of)
theorem all_mk {P : Program} {w : World} {K : Frag} {h : Heap} {mg : Str → Option Value} {fa c tab shp t0 t1 t2 t3 t4 t5 t6 t7 t8 Cst fStI fFirst fDo fBring fTake fLeads fLong fTrack Cco fCoI fCan fCost Cgo fGoI Cmv fMvI Cse fSeI fWays fIsWay fCanOn fCanGr Cpl fPlI fBegins fCome fGo fUndo fTry fStands fBest fFewest fForced fAlready fForAll fCostOf fAllWays fCheap Cca fCaI fMoves fChoices fShare fLens fCosts fWith fOnTrk fRead fReads fTo fAns : Addr} {dS dS0 dS1 dS2 dS3 dS4 dS5 dS6 dS7 dS8 : Option Addr} {slS slS0 slS1 slS2 slS3 slS4 slS5 slS6 slS7 slS8 : Array (Option Value)} {uLEFT uSTANDS_NOWHERE uNOT_IN_A_ROW uOTHERS_AHEAD uCLOSED uNOT_ALLOWED uNO_ROOM uCOMES uGOES uMOST_TRACKS uMOST_PARTS uMOST_COMING uMOST_GOING uLONGEST uLATEST uDEAREST uWRONG uNOT_THERE uGOES_ALREADY uTOO_MANY uNO_WAY uBEGINS uCOME uGO uUNDO uTRY_TRACKS uSTANDS uBEST uFEWEST uS0a uS0b uS1a uS1b uS2a uS2b uS3a uS3b uS4a uS4b uS5a uS5b uS6a uS6b uS7a uS7b uS8a uS8b : Tok} {tStIk cStIk tFirstk cFirstk tDok cDok tBringk cBringk tTakek cTakek tLeadsk cLeadsk tLongk cLongk tTrackk cTrackk tCoIk cCoIk tCank cCank tCostk cCostk tGoIk cGoIk tMvIk cMvIk tSeIk cSeIk tWaysk cWaysk tIsWayk cIsWayk tCanOnk cCanOnk tCanGrk cCanGrk tPlIk cPlIk tBeginsk cBeginsk tComek cComek tGok cGok tUndok cUndok tTryk cTryk tStandsk cStandsk tBestk cBestk tFewestk cFewestk tForcedk cForcedk tAlreadyk cAlreadyk tForAllk cForAllk tCostOfk cCostOfk tAllWaysk cAllWaysk tCheapk cCheapk tCaIk cCaIk tMovesk cMovesk tChoicesk cChoicesk tSharek cSharek tLensk cLensk tCostsk cCostsk tWithk cWithk tOnTrkk cOnTrkk tReadk cReadk tReadsk cReadsk tTok cTok tAnsk cAnsk nS nS0 nS1 nS2 nS3 nS4 nS5 nS6 nS7 nS8 : Nat} {mStIk mFirstk mDok mBringk mTakek mLeadsk mLongk mTrackk mCoIk mCank mCostk mGoIk mMvIk mSeIk mWaysk mIsWayk mCanOnk mCanGrk mPlIk mBeginsk mComek mGok mUndok mTryk mStandsk mBestk mFewestk mForcedk mAlreadyk mForAllk mCostOfk mAllWaysk mCheapk mCaIk mMovesk mChoicesk mSharek mLensk mCostsk mWithk mOnTrkk mReadk mReadsk mTok mAnsk : Str}
    (X : K.In h) (G : h.Ns mainGlobals mg) (hfa : mg "answers" = some (.ref fa))
 (aCst : nsIn K mainGlobals "Standing" = some (some (.ref Cst)))
 (pgst : plainGet K Cst Str.empty = true)
 (hdst : hasDictIn K Cst = true)
 (post : plainOver K Cst = true)
 (sast : findIn K (.ref Cst) "__setattr__" = some (some (.builtin "object.__setattr__")))
 (mkst : makesIn K Cst = true)
 (kcst : keepIn K (.ref Cst) = true)
 (nst_tracks : findIn K (.ref Cst) "tracks" = some none)
 (nst_lengths : findIn K (.ref Cst) "lengths" = some none)
 (nst_rows : findIn K (.ref Cst) "rows" = some none)
 (aStI : findIn K (.ref Cst) "__init__" = some (some (.ref fStI)))
 (iStI : isFn K (.ref fStI) = true)
 (lStI : K.lookup fStI = some (kF "__init__" "Standing.__init__" sStI mStIk tStIk cStIk))
 (cStI : codeIn K (.ref cStIk) "Standing.__init__" = true)
 (kStI : keepIn K (.ref fStI) = true)
 (aFirst : findIn K (.ref Cst) "first_obstacle" = some (some (.ref fFirst)))
 (iFirst : isFn K (.ref fFirst) = true)
 (lFirst : K.lookup fFirst = some (kF "first_obstacle" "Standing.first_obstacle" sFirst mFirstk tFirstk cFirstk))
 (cFirst : codeIn K (.ref cFirstk) "Standing.first_obstacle" = true)
 (kFirst : keepIn K (.ref fFirst) = true)
 (aDo : findIn K (.ref Cst) "do_move" = some (some (.ref fDo)))
 (iDo : isFn K (.ref fDo) = true)
 (lDo : K.lookup fDo = some (kF "do_move" "Standing.do_move" sDo mDok tDok cDok))
 (cDo : codeIn K (.ref cDok) "Standing.do_move" = true)
 (kDo : keepIn K (.ref fDo) = true)
 (aBring : findIn K (.ref Cst) "bring" = some (some (.ref fBring)))
 (iBring : isFn K (.ref fBring) = true)
 (lBring : K.lookup fBring = some (kF "bring" "Standing.bring" sBring mBringk tBringk cBringk))
 (cBring : codeIn K (.ref cBringk) "Standing.bring" = true)
 (kBring : keepIn K (.ref fBring) = true)
 (aTake : findIn K (.ref Cst) "take" = some (some (.ref fTake)))
 (iTake : isFn K (.ref fTake) = true)
 (lTake : K.lookup fTake = some (kF "take" "Standing.take" sTake mTakek tTakek cTakek))
 (cTake : codeIn K (.ref cTakek) "Standing.take" = true)
 (kTake : keepIn K (.ref fTake) = true)
 (aLeads : findIn K (.ref Cst) "leads_to" = some (some (.ref fLeads)))
 (iLeads : isFn K (.ref fLeads) = true)
 (lLeads : K.lookup fLeads = some (kF "leads_to" "Standing.leads_to" sLeads mLeadsk tLeadsk cLeadsk))
 (cLeads : codeIn K (.ref cLeadsk) "Standing.leads_to" = true)
 (kLeads : keepIn K (.ref fLeads) = true)
 (aLong : findIn K (.ref Cst) "length_of" = some (some (.ref fLong)))
 (iLong : isFn K (.ref fLong) = true)
 (lLong : K.lookup fLong = some (kF "length_of" "Standing.length_of" sLong mLongk tLongk cLongk))
 (cLong : codeIn K (.ref cLongk) "Standing.length_of" = true)
 (kLong : keepIn K (.ref fLong) = true)
 (aTrack : findIn K (.ref Cst) "track_of" = some (some (.ref fTrack)))
 (iTrack : isFn K (.ref fTrack) = true)
 (lTrack : K.lookup fTrack = some (kF "track_of" "Standing.track_of" sTrack mTrackk tTrackk cTrackk))
 (cTrack : codeIn K (.ref cTrackk) "Standing.track_of" = true)
 (kTrack : keepIn K (.ref fTrack) = true)
 (aCco : nsIn K mainGlobals "Coming" = some (some (.ref Cco)))
 (pgco : plainGet K Cco Str.empty = true)
 (hdco : hasDictIn K Cco = true)
 (poco : plainOver K Cco = true)
 (saco : findIn K (.ref Cco) "__setattr__" = some (some (.builtin "object.__setattr__")))
 (mkco : makesIn K Cco = true)
 (kcco : keepIn K (.ref Cco) = true)
 (nco_minute : findIn K (.ref Cco) "minute" = some none)
 (nco_side : findIn K (.ref Cco) "side" = some none)
 (nco_parts : findIn K (.ref Cco) "parts" = some none)
 (nco_costs : findIn K (.ref Cco) "costs" = some none)
 (aCoI : findIn K (.ref Cco) "__init__" = some (some (.ref fCoI)))
 (iCoI : isFn K (.ref fCoI) = true)
 (lCoI : K.lookup fCoI = some (kF "__init__" "Coming.__init__" sCoI mCoIk tCoIk cCoIk))
 (cCoI : codeIn K (.ref cCoIk) "Coming.__init__" = true)
 (kCoI : keepIn K (.ref fCoI) = true)
 (aCan : findIn K (.ref Cco) "can_stand_on" = some (some (.ref fCan)))
 (iCan : isFn K (.ref fCan) = true)
 (lCan : K.lookup fCan = some (kF "can_stand_on" "Coming.can_stand_on" sCan mCank tCank cCank))
 (cCan : codeIn K (.ref cCank) "Coming.can_stand_on" = true)
 (kCan : keepIn K (.ref fCan) = true)
 (aCost : findIn K (.ref Cco) "cost_on" = some (some (.ref fCost)))
 (iCost : isFn K (.ref fCost) = true)
 (lCost : K.lookup fCost = some (kF "cost_on" "Coming.cost_on" sCost mCostk tCostk cCostk))
 (cCost : codeIn K (.ref cCostk) "Coming.cost_on" = true)
 (kCost : keepIn K (.ref fCost) = true)
 (aCgo : nsIn K mainGlobals "Going" = some (some (.ref Cgo)))
 (pggo : plainGet K Cgo Str.empty = true)
 (hdgo : hasDictIn K Cgo = true)
 (pogo : plainOver K Cgo = true)
 (sago : findIn K (.ref Cgo) "__setattr__" = some (some (.builtin "object.__setattr__")))
 (mkgo : makesIn K Cgo = true)
 (kcgo : keepIn K (.ref Cgo) = true)
 (ngo_minute : findIn K (.ref Cgo) "minute" = some none)
 (ngo_side : findIn K (.ref Cgo) "side" = some none)
 (ngo_parts : findIn K (.ref Cgo) "parts" = some none)
 (aGoI : findIn K (.ref Cgo) "__init__" = some (some (.ref fGoI)))
 (iGoI : isFn K (.ref fGoI) = true)
 (lGoI : K.lookup fGoI = some (kF "__init__" "Going.__init__" sGoI mGoIk tGoIk cGoIk))
 (cGoI : codeIn K (.ref cGoIk) "Going.__init__" = true)
 (kGoI : keepIn K (.ref fGoI) = true)
 (aCmv : nsIn K mainGlobals "Move" = some (some (.ref Cmv)))
 (pgmv : plainGet K Cmv Str.empty = true)
 (hdmv : hasDictIn K Cmv = true)
 (pomv : plainOver K Cmv = true)
 (samv : findIn K (.ref Cmv) "__setattr__" = some (some (.builtin "object.__setattr__")))
 (mkmv : makesIn K Cmv = true)
 (kcmv : keepIn K (.ref Cmv) = true)
 (nmv_kind : findIn K (.ref Cmv) "kind" = some none)
 (nmv_number : findIn K (.ref Cmv) "number" = some none)
 (nmv_train : findIn K (.ref Cmv) "train" = some none)
 (aMvI : findIn K (.ref Cmv) "__init__" = some (some (.ref fMvI)))
 (iMvI : isFn K (.ref fMvI) = true)
 (lMvI : K.lookup fMvI = some (kF "__init__" "Move.__init__" sMvI mMvIk tMvIk cMvIk))
 (cMvI : codeIn K (.ref cMvIk) "Move.__init__" = true)
 (kMvI : keepIn K (.ref fMvI) = true)
 (aCse : nsIn K mainGlobals "Search" = some (some (.ref Cse)))
 (pgse : plainGet K Cse Str.empty = true)
 (hdse : hasDictIn K Cse = true)
 (pose : plainOver K Cse = true)
 (sase : findIn K (.ref Cse) "__setattr__" = some (some (.builtin "object.__setattr__")))
 (mkse : makesIn K Cse = true)
 (kcse : keepIn K (.ref Cse) = true)
 (nse_tracks : findIn K (.ref Cse) "tracks" = some none)
 (nse_lengths : findIn K (.ref Cse) "lengths" = some none)
 (nse_coming : findIn K (.ref Cse) "coming" = some none)
 (nse_moves : findIn K (.ref Cse) "moves" = some none)
 (nse_known : findIn K (.ref Cse) "known" = some none)
 (aSeI : findIn K (.ref Cse) "__init__" = some (some (.ref fSeI)))
 (iSeI : isFn K (.ref fSeI) = true)
 (lSeI : K.lookup fSeI = some (kF "__init__" "Search.__init__" sSeI mSeIk tSeIk cSeIk))
 (cSeI : codeIn K (.ref cSeIk) "Search.__init__" = true)
 (kSeI : keepIn K (.ref fSeI) = true)
 (aWays : findIn K (.ref Cse) "ways" = some (some (.ref fWays)))
 (iWays : isFn K (.ref fWays) = true)
 (lWays : K.lookup fWays = some (kF "ways" "Search.ways" sWays mWaysk tWaysk cWaysk))
 (cWays : codeIn K (.ref cWaysk) "Search.ways" = true)
 (kWays : keepIn K (.ref fWays) = true)
 (aIsWay : findIn K (.ref Cse) "is_way" = some (some (.ref fIsWay)))
 (iIsWay : isFn K (.ref fIsWay) = true)
 (lIsWay : K.lookup fIsWay = some (kF "is_way" "Search.is_way" sIsWay mIsWayk tIsWayk cIsWayk))
 (cIsWay : codeIn K (.ref cIsWayk) "Search.is_way" = true)
 (kIsWay : keepIn K (.ref fIsWay) = true)
 (aCanOn : findIn K (.ref Cse) "can_be_done_on" = some (some (.ref fCanOn)))
 (iCanOn : isFn K (.ref fCanOn) = true)
 (lCanOn : K.lookup fCanOn = some (kF "can_be_done_on" "Search.can_be_done_on" sCanOn mCanOnk tCanOnk cCanOnk))
 (cCanOn : codeIn K (.ref cCanOnk) "Search.can_be_done_on" = true)
 (kCanOn : keepIn K (.ref fCanOn) = true)
 (aCanGr : findIn K (.ref Cse) "can_group_be_done" = some (some (.ref fCanGr)))
 (iCanGr : isFn K (.ref fCanGr) = true)
 (lCanGr : K.lookup fCanGr = some (kF "can_group_be_done" "Search.can_group_be_done" sCanGr mCanGrk tCanGrk cCanGrk))
 (cCanGr : codeIn K (.ref cCanGrk) "Search.can_group_be_done" = true)
 (kCanGr : keepIn K (.ref fCanGr) = true)
 (aCpl : nsIn K mainGlobals "Plan" = some (some (.ref Cpl)))
 (pgpl : plainGet K Cpl Str.empty = true)
 (hdpl : hasDictIn K Cpl = true)
 (popl : plainOver K Cpl = true)
 (sapl : findIn K (.ref Cpl) "__setattr__" = some (some (.builtin "object.__setattr__")))
 (mkpl : makesIn K Cpl = true)
 (kcpl : keepIn K (.ref Cpl) = true)
 (npl_tracks : findIn K (.ref Cpl) "tracks" = some none)
 (npl_lengths : findIn K (.ref Cpl) "lengths" = some none)
 (npl_coming : findIn K (.ref Cpl) "coming" = some none)
 (npl_going : findIn K (.ref Cpl) "going" = some none)
 (aPlI : findIn K (.ref Cpl) "__init__" = some (some (.ref fPlI)))
 (iPlI : isFn K (.ref fPlI) = true)
 (lPlI : K.lookup fPlI = some (kF "__init__" "Plan.__init__" sPlI mPlIk tPlIk cPlIk))
 (cPlI : codeIn K (.ref cPlIk) "Plan.__init__" = true)
 (kPlI : keepIn K (.ref fPlI) = true)
 (aBegins : findIn K (.ref Cpl) "begins" = some (some (.ref fBegins)))
 (iBegins : isFn K (.ref fBegins) = true)
 (lBegins : K.lookup fBegins = some (kF "begins" "Plan.begins" sBegins mBeginsk tBeginsk cBeginsk))
 (cBegins : codeIn K (.ref cBeginsk) "Plan.begins" = true)
 (kBegins : keepIn K (.ref fBegins) = true)
 (aCome : findIn K (.ref Cpl) "come" = some (some (.ref fCome)))
 (iCome : isFn K (.ref fCome) = true)
 (lCome : K.lookup fCome = some (kF "come" "Plan.come" sCome mComek tComek cComek))
 (cCome : codeIn K (.ref cComek) "Plan.come" = true)
 (kCome : keepIn K (.ref fCome) = true)
 (aGo : findIn K (.ref Cpl) "go" = some (some (.ref fGo)))
 (iGo : isFn K (.ref fGo) = true)
 (lGo : K.lookup fGo = some (kF "go" "Plan.go" sGo mGok tGok cGok))
 (cGo : codeIn K (.ref cGok) "Plan.go" = true)
 (kGo : keepIn K (.ref fGo) = true)
 (aUndo : findIn K (.ref Cpl) "undo" = some (some (.ref fUndo)))
 (iUndo : isFn K (.ref fUndo) = true)
 (lUndo : K.lookup fUndo = some (kF "undo" "Plan.undo" sUndo mUndok tUndok cUndok))
 (cUndo : codeIn K (.ref cUndok) "Plan.undo" = true)
 (kUndo : keepIn K (.ref fUndo) = true)
 (aTry : findIn K (.ref Cpl) "try_tracks" = some (some (.ref fTry)))
 (iTry : isFn K (.ref fTry) = true)
 (lTry : K.lookup fTry = some (kF "try_tracks" "Plan.try_tracks" sTry mTryk tTryk cTryk))
 (cTry : codeIn K (.ref cTryk) "Plan.try_tracks" = true)
 (kTry : keepIn K (.ref fTry) = true)
 (aStands : findIn K (.ref Cpl) "stands" = some (some (.ref fStands)))
 (iStands : isFn K (.ref fStands) = true)
 (lStands : K.lookup fStands = some (kF "stands" "Plan.stands" sStands mStandsk tStandsk cStandsk))
 (cStands : codeIn K (.ref cStandsk) "Plan.stands" = true)
 (kStands : keepIn K (.ref fStands) = true)
 (aBest : findIn K (.ref Cpl) "best" = some (some (.ref fBest)))
 (iBest : isFn K (.ref fBest) = true)
 (lBest : K.lookup fBest = some (kF "best" "Plan.best" sBest mBestk tBestk cBestk))
 (cBest : codeIn K (.ref cBestk) "Plan.best" = true)
 (kBest : keepIn K (.ref fBest) = true)
 (aFewest : findIn K (.ref Cpl) "fewest" = some (some (.ref fFewest)))
 (iFewest : isFn K (.ref fFewest) = true)
 (lFewest : K.lookup fFewest = some (kF "fewest" "Plan.fewest" sFewest mFewestk tFewestk cFewestk))
 (cFewest : codeIn K (.ref cFewestk) "Plan.fewest" = true)
 (kFewest : keepIn K (.ref fFewest) = true)
 (aForced : findIn K (.ref Cpl) "forced" = some (some (.ref fForced)))
 (iForced : isFn K (.ref fForced) = true)
 (lForced : K.lookup fForced = some (kF "forced" "Plan.forced" sForced mForcedk tForcedk cForcedk))
 (cForced : codeIn K (.ref cForcedk) "Plan.forced" = true)
 (kForced : keepIn K (.ref fForced) = true)
 (aAlready : findIn K (.ref Cpl) "goes_already" = some (some (.ref fAlready)))
 (iAlready : isFn K (.ref fAlready) = true)
 (lAlready : K.lookup fAlready = some (kF "goes_already" "Plan.goes_already" sAlready mAlreadyk tAlreadyk cAlreadyk))
 (cAlready : codeIn K (.ref cAlreadyk) "Plan.goes_already" = true)
 (kAlready : keepIn K (.ref fAlready) = true)
 (aForAll : findIn K (.ref Cpl) "are_tracks_for_all" = some (some (.ref fForAll)))
 (iForAll : isFn K (.ref fForAll) = true)
 (lForAll : K.lookup fForAll = some (kF "are_tracks_for_all" "Plan.are_tracks_for_all" sForAll mForAllk tForAllk cForAllk))
 (cForAll : codeIn K (.ref cForAllk) "Plan.are_tracks_for_all" = true)
 (kForAll : keepIn K (.ref fForAll) = true)
 (aCostOf : findIn K (.ref Cpl) "cost_of" = some (some (.ref fCostOf)))
 (iCostOf : isFn K (.ref fCostOf) = true)
 (lCostOf : K.lookup fCostOf = some (kF "cost_of" "Plan.cost_of" sCostOf mCostOfk tCostOfk cCostOfk))
 (cCostOf : codeIn K (.ref cCostOfk) "Plan.cost_of" = true)
 (kCostOf : keepIn K (.ref fCostOf) = true)
 (aAllWays : findIn K (.ref Cpl) "all_ways" = some (some (.ref fAllWays)))
 (iAllWays : isFn K (.ref fAllWays) = true)
 (lAllWays : K.lookup fAllWays = some (kF "all_ways" "Plan.all_ways" sAllWays mAllWaysk tAllWaysk cAllWaysk))
 (cAllWays : codeIn K (.ref cAllWaysk) "Plan.all_ways" = true)
 (kAllWays : keepIn K (.ref fAllWays) = true)
 (aCheap : findIn K (.ref Cpl) "cheapest_of" = some (some (.ref fCheap)))
 (iCheap : isFn K (.ref fCheap) = true)
 (lCheap : K.lookup fCheap = some (kF "cheapest_of" "Plan.cheapest_of" sCheap mCheapk tCheapk cCheapk))
 (cCheap : codeIn K (.ref cCheapk) "Plan.cheapest_of" = true)
 (kCheap : keepIn K (.ref fCheap) = true)
 (aCca : nsIn K mainGlobals "Call" = some (some (.ref Cca)))
 (pgca : plainGet K Cca Str.empty = true)
 (hdca : hasDictIn K Cca = true)
 (poca : plainOver K Cca = true)
 (saca : findIn K (.ref Cca) "__setattr__" = some (some (.builtin "object.__setattr__")))
 (mkca : makesIn K Cca = true)
 (kcca : keepIn K (.ref Cca) = true)
 (nca_number : findIn K (.ref Cca) "number" = some none)
 (nca_numbers : findIn K (.ref Cca) "numbers" = some none)
 (nca_rows : findIn K (.ref Cca) "rows" = some none)
 (nca_behind : findIn K (.ref Cca) "behind" = some none)
 (aCaI : findIn K (.ref Cca) "__init__" = some (some (.ref fCaI)))
 (iCaI : isFn K (.ref fCaI) = true)
 (lCaI : K.lookup fCaI = some (kF "__init__" "Call.__init__" sCaI mCaIk tCaIk cCaIk))
 (cCaI : codeIn K (.ref cCaIk) "Call.__init__" = true)
 (kCaI : keepIn K (.ref fCaI) = true)
 (aMoves : nsIn K mainGlobals "moves_in_order" = some (some (.ref fMoves)))
 (lMoves : K.lookup fMoves = some (kF "moves_in_order" "moves_in_order" sMoves mMovesk tMovesk cMovesk))
 (cMoves : codeIn K (.ref cMovesk) "moves_in_order" = true)
 (kMoves : keepIn K (.ref fMoves) = true)
 (aChoices : nsIn K mainGlobals "all_choices" = some (some (.ref fChoices)))
 (lChoices : K.lookup fChoices = some (kF "all_choices" "all_choices" sChoices mChoicesk tChoicesk cChoicesk))
 (cChoices : codeIn K (.ref cChoicesk) "all_choices" = true)
 (kChoices : keepIn K (.ref fChoices) = true)
 (aShare : nsIn K mainGlobals "share_a_part" = some (some (.ref fShare)))
 (lShare : K.lookup fShare = some (kF "share_a_part" "share_a_part" sShare mSharek tSharek cSharek))
 (cShare : codeIn K (.ref cSharek) "share_a_part" = true)
 (kShare : keepIn K (.ref fShare) = true)
 (aLens : nsIn K mainGlobals "are_lengths" = some (some (.ref fLens)))
 (lLens : K.lookup fLens = some (kF "are_lengths" "are_lengths" sLens mLensk tLensk cLensk))
 (cLens : codeIn K (.ref cLensk) "are_lengths" = true)
 (kLens : keepIn K (.ref fLens) = true)
 (aCosts : nsIn K mainGlobals "are_costs" = some (some (.ref fCosts)))
 (lCosts : K.lookup fCosts = some (kF "are_costs" "are_costs" sCosts mCostsk tCostsk cCostsk))
 (cCosts : codeIn K (.ref cCostsk) "are_costs" = true)
 (kCosts : keepIn K (.ref fCosts) = true)
 (aWith : nsIn K mainGlobals "with_lists" = some (some (.ref fWith)))
 (lWith : K.lookup fWith = some (kF "with_lists" "with_lists" sWith mWithk tWithk cWithk))
 (cWith : codeIn K (.ref cWithk) "with_lists" = true)
 (kWith : keepIn K (.ref fWith) = true)
 (aOnTrk : nsIn K mainGlobals "is_on_track" = some (some (.ref fOnTrk)))
 (lOnTrk : K.lookup fOnTrk = some (kF "is_on_track" "is_on_track" sOnTrk mOnTrkk tOnTrkk cOnTrkk))
 (cOnTrk : codeIn K (.ref cOnTrkk) "is_on_track" = true)
 (kOnTrk : keepIn K (.ref fOnTrk) = true)
 (aRead : nsIn K mainGlobals "read_call" = some (some (.ref fRead)))
 (lRead : K.lookup fRead = some (kF "read_call" "read_call" sRead mReadk tReadk cReadk))
 (cRead : codeIn K (.ref cReadk) "read_call" = true)
 (kRead : keepIn K (.ref fRead) = true)
 (aReads : nsIn K mainGlobals "read_calls" = some (some (.ref fReads)))
 (lReads : K.lookup fReads = some (kF "read_calls" "read_calls" sReads mReadsk tReadsk cReadsk))
 (cReads : codeIn K (.ref cReadsk) "read_calls" = true)
 (kReads : keepIn K (.ref fReads) = true)
 (aTo : nsIn K mainGlobals "answer_to" = some (some (.ref fTo)))
 (lTo : K.lookup fTo = some (kF "answer_to" "answer_to" sTo mTok tTok cTok))
 (cTo : codeIn K (.ref cTok) "answer_to" = true)
 (kTo : keepIn K (.ref fTo) = true)
 (aAns : nsIn K mainGlobals "answers" = some (some (.ref fAns)))
 (lAns : K.lookup fAns = some (kF "answers" "answers" sAns mAnsk tAnsk cAnsk))
 (cAns : codeIn K (.ref cAnsk) "answers" = true)
 (kAns : keepIn K (.ref fAns) = true)
 (hcM : cMovesk = c)
 (gLEFT : nsIn K mainGlobals "LEFT" = some (some (.int 0 uLEFT)))
 (gSTANDS_NOWHERE : nsIn K mainGlobals "STANDS_NOWHERE" = some (some (.int 1 uSTANDS_NOWHERE)))
 (gNOT_IN_A_ROW : nsIn K mainGlobals "NOT_IN_A_ROW" = some (some (.int 2 uNOT_IN_A_ROW)))
 (gOTHERS_AHEAD : nsIn K mainGlobals "OTHERS_AHEAD" = some (some (.int 3 uOTHERS_AHEAD)))
 (gCLOSED : nsIn K mainGlobals "CLOSED" = some (some (.int 4 uCLOSED)))
 (gNOT_ALLOWED : nsIn K mainGlobals "NOT_ALLOWED" = some (some (.int 5 uNOT_ALLOWED)))
 (gNO_ROOM : nsIn K mainGlobals "NO_ROOM" = some (some (.int 6 uNO_ROOM)))
 (gCOMES : nsIn K mainGlobals "COMES" = some (some (.int 0 uCOMES)))
 (gGOES : nsIn K mainGlobals "GOES" = some (some (.int 1 uGOES)))
 (gMOST_TRACKS : nsIn K mainGlobals "MOST_TRACKS" = some (some (.int 4 uMOST_TRACKS)))
 (gMOST_PARTS : nsIn K mainGlobals "MOST_PARTS" = some (some (.int 4 uMOST_PARTS)))
 (gMOST_COMING : nsIn K mainGlobals "MOST_COMING" = some (some (.int 6 uMOST_COMING)))
 (gMOST_GOING : nsIn K mainGlobals "MOST_GOING" = some (some (.int 12 uMOST_GOING)))
 (gLONGEST : nsIn K mainGlobals "LONGEST" = some (some (.int 100 uLONGEST)))
 (gLATEST : nsIn K mainGlobals "LATEST" = some (some (.int 10000 uLATEST)))
 (gDEAREST : nsIn K mainGlobals "DEAREST" = some (some (.int 1000 uDEAREST)))
 (gWRONG : nsIn K mainGlobals "WRONG" = some (some (.int (-1) uWRONG)))
 (gNOT_THERE : nsIn K mainGlobals "NOT_THERE" = some (some (.int (-2) uNOT_THERE)))
 (gGOES_ALREADY : nsIn K mainGlobals "GOES_ALREADY" = some (some (.int (-3) uGOES_ALREADY)))
 (gTOO_MANY : nsIn K mainGlobals "TOO_MANY" = some (some (.int (-5) uTOO_MANY)))
 (gNO_WAY : nsIn K mainGlobals "NO_WAY" = some (some (.int (-6) uNO_WAY)))
 (gBEGINS : nsIn K mainGlobals "BEGINS" = some (some (.int 0 uBEGINS)))
 (gCOME : nsIn K mainGlobals "COME" = some (some (.int 1 uCOME)))
 (gGO : nsIn K mainGlobals "GO" = some (some (.int 2 uGO)))
 (gUNDO : nsIn K mainGlobals "UNDO" = some (some (.int 3 uUNDO)))
 (gTRY_TRACKS : nsIn K mainGlobals "TRY_TRACKS" = some (some (.int 4 uTRY_TRACKS)))
 (gSTANDS : nsIn K mainGlobals "STANDS" = some (some (.int 5 uSTANDS)))
 (gBEST : nsIn K mainGlobals "BEST" = some (some (.int 6 uBEST)))
 (gFEWEST : nsIn K mainGlobals "FEWEST" = some (some (.int 7 uFEWEST)))
 (zall : nsIn K mainGlobals "all" = some none)
 (zany : nsIn K mainGlobals "any" = some none)
 (zlen : nsIn K mainGlobals "len" = some none)
 (zsum : nsIn K mainGlobals "sum" = some none)
 (zenumerate : nsIn K mainGlobals "enumerate" = some none)
 (zrange : nsIn K mainGlobals "range" = some none)
 (zlist : nsIn K mainGlobals "list" = some none)
 (zset : nsIn K mainGlobals "set" = some none)
 (zmax : nsIn K mainGlobals "max" = some none)
 (zzip : nsIn K mainGlobals "zip" = some none)
 (zsorted : nsIn K mainGlobals "sorted" = some none)
 (zmin : nsIn K mainGlobals "min" = some none)
 (ztuple : nsIn K mainGlobals "tuple" = some none)
 (aShp : nsIn K mainGlobals "SHAPES" = some (some (.ref shp)))
 (lShp : K.lookup shp = some ⟨.type "tuple", dS, .seq #[.ref t0, .ref t1, .ref t2, .ref t3, .ref t4, .ref t5, .ref t6, .ref t7, .ref t8] nS, slS⟩)
 (lShp0 : K.lookup t0 = some ⟨.type "tuple", dS0, .seq #[.int 0 uS0a, .int 1 uS0b] nS0, slS0⟩)
 (lShp1 : K.lookup t1 = some ⟨.type "tuple", dS1, .seq #[.int 2 uS1a, .int 2 uS1b] nS1, slS1⟩)
 (lShp2 : K.lookup t2 = some ⟨.type "tuple", dS2, .seq #[.int 2 uS2a, .int 1 uS2b] nS2, slS2⟩)
 (lShp3 : K.lookup t3 = some ⟨.type "tuple", dS3, .seq #[.int 0 uS3a, .int 0 uS3b] nS3, slS3⟩)
 (lShp4 : K.lookup t4 = some ⟨.type "tuple", dS4, .seq #[.int 0 uS4a, .int 1 uS4b] nS4, slS4⟩)
 (lShp5 : K.lookup t5 = some ⟨.type "tuple", dS5, .seq #[.int 1 uS5a, .int 1 uS5b] nS5, slS5⟩)
 (lShp6 : K.lookup t6 = some ⟨.type "tuple", dS6, .seq #[.int 0 uS6a, .int 0 uS6b] nS6, slS6⟩)
 (lShp7 : K.lookup t7 = some ⟨.type "tuple", dS7, .seq #[.int 0 uS7a, .int 0 uS7b] nS7, slS7⟩)
 (lShp8 : K.lookup t8 = some ⟨.type "tuple", dS8, .seq #[.int 0 uS8a, .int 0 uS8b] nS8, slS8⟩) :
    ∃ fd : FuncData, (∀ (s : Shared) (us : List Value), us.length = (["calls"] : List Str).length → BindsTo s fd ⟨us, []⟩ ((["calls"] : List Str).zip us)) ∧ ∀ base : Heap, K.In base → base.Ns mainGlobals mg → PySem.W.CodeHd base c tab → base.BuiltinsAt mg tab → mainGlobals ≠ tab → FnOk P w K mg base CX0 12 fa fd ["calls"] (spAns tab K) := by
  have e := hfa.symm.trans (mg_of X G aAns)
  cases e
  have clst : Cls K Cst := ⟨pgst, hdst, post, sast⟩
  have mgst := mg_of X G aCst
  have FStI := fun_mk (st := sStI) lStI cStI kStI
  have bStI := FStI.binds (ps := ["self", "tracks", "lengths"]) fun _ _ _ _ _ _ us hl => match us, hl with | [_, _, _], _ => rfl
  have Mst : Mk K Cst fStI := ⟨mkst, aStI, iStI, kcst⟩
  have FFirst := fun_mk (st := sFirst) lFirst cFirst kFirst
  have bFirst := FFirst.binds (ps := ["self", "moves", "chosen"]) fun _ _ _ _ _ _ us hl => match us, hl with | [_, _, _], _ => rfl
  have mFirst : Meth K Cst "first_obstacle" fFirst := ⟨aFirst, iFirst, kFirst⟩
  have FDo := fun_mk (st := sDo) lDo cDo kDo
  have bDo := FDo.binds (ps := ["self", "move", "chosen"]) fun _ _ _ _ _ _ us hl => match us, hl with | [_, _, _], _ => rfl
  have mDo : Meth K Cst "do_move" fDo := ⟨aDo, iDo, kDo⟩
  have FBring := fun_mk (st := sBring) lBring cBring kBring
  have bBring := FBring.binds (ps := ["self", "train", "track"]) fun _ _ _ _ _ _ us hl => match us, hl with | [_, _, _], _ => rfl
  have mBring : Meth K Cst "bring" fBring := ⟨aBring, iBring, kBring⟩
  have FTake := fun_mk (st := sTake) lTake cTake kTake
  have bTake := FTake.binds (ps := ["self", "train"]) fun _ _ _ _ _ _ us hl => match us, hl with | [_, _], _ => rfl
  have mTake : Meth K Cst "take" fTake := ⟨aTake, iTake, kTake⟩
  have FLeads := fun_mk (st := sLeads) lLeads cLeads kLeads
  have bLeads := FLeads.binds (ps := ["self", "track", "side"]) fun _ _ _ _ _ _ us hl => match us, hl with | [_, _, _], _ => rfl
  have mLeads : Meth K Cst "leads_to" fLeads := ⟨aLeads, iLeads, kLeads⟩
  have FLong := fun_mk (st := sLong) lLong cLong kLong
  have bLong := FLong.binds (ps := ["self", "parts"]) fun _ _ _ _ _ _ us hl => match us, hl with | [_, _], _ => rfl
  have mLong : Meth K Cst "length_of" fLong := ⟨aLong, iLong, kLong⟩
  have FTrack := fun_mk (st := sTrack) lTrack cTrack kTrack
  have bTrack := FTrack.binds (ps := ["self", "part"]) fun _ _ _ _ _ _ us hl => match us, hl with | [_, _], _ => rfl
  have mTrack : Meth K Cst "track_of" fTrack := ⟨aTrack, iTrack, kTrack⟩
  have clco : Cls K Cco := ⟨pgco, hdco, poco, saco⟩
  have mgco := mg_of X G aCco
  have FCoI := fun_mk (st := sCoI) lCoI cCoI kCoI
  have bCoI := FCoI.binds (ps := ["self", "minute", "side", "parts", "costs"]) fun _ _ _ _ _ _ us hl => match us, hl with | [_, _, _, _, _], _ => rfl
  have Mco : Mk K Cco fCoI := ⟨mkco, aCoI, iCoI, kcco⟩
  have FCan := fun_mk (st := sCan) lCan cCan kCan
  have bCan := FCan.binds (ps := ["self", "track"]) fun _ _ _ _ _ _ us hl => match us, hl with | [_, _], _ => rfl
  have mCan : Meth K Cco "can_stand_on" fCan := ⟨aCan, iCan, kCan⟩
  have FCost := fun_mk (st := sCost) lCost cCost kCost
  have bCost := FCost.binds (ps := ["self", "track"]) fun _ _ _ _ _ _ us hl => match us, hl with | [_, _], _ => rfl
  have mCost : Meth K Cco "cost_on" fCost := ⟨aCost, iCost, kCost⟩
  have clgo : Cls K Cgo := ⟨pggo, hdgo, pogo, sago⟩
  have mggo := mg_of X G aCgo
  have FGoI := fun_mk (st := sGoI) lGoI cGoI kGoI
  have bGoI := FGoI.binds (ps := ["self", "minute", "side", "parts"]) fun _ _ _ _ _ _ us hl => match us, hl with | [_, _, _, _], _ => rfl
  have Mgo : Mk K Cgo fGoI := ⟨mkgo, aGoI, iGoI, kcgo⟩
  have clmv : Cls K Cmv := ⟨pgmv, hdmv, pomv, samv⟩
  have mgmv := mg_of X G aCmv
  have FMvI := fun_mk (st := sMvI) lMvI cMvI kMvI
  have bMvI := FMvI.binds (ps := ["self", "kind", "number", "train"]) fun _ _ _ _ _ _ us hl => match us, hl with | [_, _, _, _], _ => rfl
  have Mmv : Mk K Cmv fMvI := ⟨mkmv, aMvI, iMvI, kcmv⟩
  have clse : Cls K Cse := ⟨pgse, hdse, pose, sase⟩
  have mgse := mg_of X G aCse
  have FSeI := fun_mk (st := sSeI) lSeI cSeI kSeI
  have bSeI := FSeI.binds (ps := ["self", "tracks", "lengths", "coming", "going"]) fun _ _ _ _ _ _ us hl => match us, hl with | [_, _, _, _, _], _ => rfl
  have Mse : Mk K Cse fSeI := ⟨mkse, aSeI, iSeI, kcse⟩
  have FWays := fun_mk (st := sWays) lWays cWays kWays
  have bWays := FWays.binds (ps := ["self"]) fun _ _ _ _ _ _ us hl => match us, hl with | [_], _ => rfl
  have mWays : Meth K Cse "ways" fWays := ⟨aWays, iWays, kWays⟩
  have FIsWay := fun_mk (st := sIsWay) lIsWay cIsWay kIsWay
  have bIsWay := FIsWay.binds (ps := ["self", "chosen"]) fun _ _ _ _ _ _ us hl => match us, hl with | [_, _], _ => rfl
  have mIsWay : Meth K Cse "is_way" fIsWay := ⟨aIsWay, iIsWay, kIsWay⟩
  have FCanOn := fun_mk (st := sCanOn) lCanOn cCanOn kCanOn
  have bCanOn := FCanOn.binds (ps := ["self", "track", "chosen"]) fun _ _ _ _ _ _ us hl => match us, hl with | [_, _, _], _ => rfl
  have mCanOn : Meth K Cse "can_be_done_on" fCanOn := ⟨aCanOn, iCanOn, kCanOn⟩
  have FCanGr := fun_mk (st := sCanGr) lCanGr cCanGr kCanGr
  have bCanGr := FCanGr.binds (ps := ["self", "group", "chosen"]) fun _ _ _ _ _ _ us hl => match us, hl with | [_, _, _], _ => rfl
  have mCanGr : Meth K Cse "can_group_be_done" fCanGr := ⟨aCanGr, iCanGr, kCanGr⟩
  have clpl : Cls K Cpl := ⟨pgpl, hdpl, popl, sapl⟩
  have mgpl := mg_of X G aCpl
  have FPlI := fun_mk (st := sPlI) lPlI cPlI kPlI
  have bPlI := FPlI.binds (ps := ["self"]) fun _ _ _ _ _ _ us hl => match us, hl with | [_], _ => rfl
  have Mpl : Mk K Cpl fPlI := ⟨mkpl, aPlI, iPlI, kcpl⟩
  have FBegins := fun_mk (st := sBegins) lBegins cBegins kBegins
  have bBegins := FBegins.binds (ps := ["self", "numbers"]) fun _ _ _ _ _ _ us hl => match us, hl with | [_, _], _ => rfl
  have mBegins : Meth K Cpl "begins" fBegins := ⟨aBegins, iBegins, kBegins⟩
  have FCome := fun_mk (st := sCome) lCome cCome kCome
  have bCome := FCome.binds (ps := ["self", "minute", "side", "lengths", "costs"]) fun _ _ _ _ _ _ us hl => match us, hl with | [_, _, _, _, _], _ => rfl
  have mCome : Meth K Cpl "come" fCome := ⟨aCome, iCome, kCome⟩
  have FGo := fun_mk (st := sGo) lGo cGo kGo
  have bGo := FGo.binds (ps := ["self", "minute", "side", "parts"]) fun _ _ _ _ _ _ us hl => match us, hl with | [_, _, _, _], _ => rfl
  have mGo : Meth K Cpl "go" fGo := ⟨aGo, iGo, kGo⟩
  have FUndo := fun_mk (st := sUndo) lUndo cUndo kUndo
  have bUndo := FUndo.binds (ps := ["self"]) fun _ _ _ _ _ _ us hl => match us, hl with | [_], _ => rfl
  have mUndo : Meth K Cpl "undo" fUndo := ⟨aUndo, iUndo, kUndo⟩
  have FTry := fun_mk (st := sTry) lTry cTry kTry
  have bTry := FTry.binds (ps := ["self", "chosen"]) fun _ _ _ _ _ _ us hl => match us, hl with | [_, _], _ => rfl
  have mTry : Meth K Cpl "try_tracks" fTry := ⟨aTry, iTry, kTry⟩
  have FStands := fun_mk (st := sStands) lStands cStands kStands
  have bStands := FStands.binds (ps := ["self", "minute", "chosen"]) fun _ _ _ _ _ _ us hl => match us, hl with | [_, _, _], _ => rfl
  have mStands : Meth K Cpl "stands" fStands := ⟨aStands, iStands, kStands⟩
  have FBest := fun_mk (st := sBest) lBest cBest kBest
  have bBest := FBest.binds (ps := ["self"]) fun _ _ _ _ _ _ us hl => match us, hl with | [_], _ => rfl
  have mBest : Meth K Cpl "best" fBest := ⟨aBest, iBest, kBest⟩
  have FFewest := fun_mk (st := sFewest) lFewest cFewest kFewest
  have bFewest := FFewest.binds (ps := ["self"]) fun _ _ _ _ _ _ us hl => match us, hl with | [_], _ => rfl
  have mFewest : Meth K Cpl "fewest" fFewest := ⟨aFewest, iFewest, kFewest⟩
  have FForced := fun_mk (st := sForced) lForced cForced kForced
  have bForced := FForced.binds (ps := ["self"]) fun _ _ _ _ _ _ us hl => match us, hl with | [_], _ => rfl
  have mForced : Meth K Cpl "forced" fForced := ⟨aForced, iForced, kForced⟩
  have FAlready := fun_mk (st := sAlready) lAlready cAlready kAlready
  have bAlready := FAlready.binds (ps := ["self", "part"]) fun _ _ _ _ _ _ us hl => match us, hl with | [_, _], _ => rfl
  have mAlready : Meth K Cpl "goes_already" fAlready := ⟨aAlready, iAlready, kAlready⟩
  have FForAll := fun_mk (st := sForAll) lForAll cForAll kForAll
  have bForAll := FForAll.binds (ps := ["self", "chosen"]) fun _ _ _ _ _ _ us hl => match us, hl with | [_, _], _ => rfl
  have mForAll : Meth K Cpl "are_tracks_for_all" fForAll := ⟨aForAll, iForAll, kForAll⟩
  have FCostOf := fun_mk (st := sCostOf) lCostOf cCostOf kCostOf
  have bCostOf := FCostOf.binds (ps := ["self", "chosen"]) fun _ _ _ _ _ _ us hl => match us, hl with | [_, _], _ => rfl
  have mCostOf : Meth K Cpl "cost_of" fCostOf := ⟨aCostOf, iCostOf, kCostOf⟩
  have FAllWays := fun_mk (st := sAllWays) lAllWays cAllWays kAllWays
  have bAllWays := FAllWays.binds (ps := ["self"]) fun _ _ _ _ _ _ us hl => match us, hl with | [_], _ => rfl
  have mAllWays : Meth K Cpl "all_ways" fAllWays := ⟨aAllWays, iAllWays, kAllWays⟩
  have FCheap := fun_mk (st := sCheap) lCheap cCheap kCheap
  have bCheap := FCheap.binds (ps := ["self", "ways"]) fun _ _ _ _ _ _ us hl => match us, hl with | [_, _], _ => rfl
  have mCheap : Meth K Cpl "cheapest_of" fCheap := ⟨aCheap, iCheap, kCheap⟩
  have clca : Cls K Cca := ⟨pgca, hdca, poca, saca⟩
  have mgca := mg_of X G aCca
  have FCaI := fun_mk (st := sCaI) lCaI cCaI kCaI
  have bCaI := FCaI.binds (ps := ["self", "number", "numbers", "rows", "behind"]) fun _ _ _ _ _ _ us hl => match us, hl with | [_, _, _, _, _], _ => rfl
  have Mca : Mk K Cca fCaI := ⟨mkca, aCaI, iCaI, kcca⟩
  have FMoves := fun_mk (st := sMoves) lMoves cMoves kMoves
  have mMoves := mg_of X G aMoves
  have bMoves := FMoves.binds (ps := ["coming", "going"]) fun _ _ _ _ _ _ us hl => match us, hl with | [_, _], _ => rfl
  have FChoices := fun_mk (st := sChoices) lChoices cChoices kChoices
  have mChoices := mg_of X G aChoices
  have bChoices := FChoices.binds (ps := ["trains", "tracks"]) fun _ _ _ _ _ _ us hl => match us, hl with | [_, _], _ => rfl
  have FShare := fun_mk (st := sShare) lShare cShare kShare
  have mShare := mg_of X G aShare
  have bShare := FShare.binds (ps := ["some", "others"]) fun _ _ _ _ _ _ us hl => match us, hl with | [_, _], _ => rfl
  have FLens := fun_mk (st := sLens) lLens cLens kLens
  have mLens := mg_of X G aLens
  have bLens := FLens.binds (ps := ["numbers"]) fun _ _ _ _ _ _ us hl => match us, hl with | [_], _ => rfl
  have FCosts := fun_mk (st := sCosts) lCosts cCosts kCosts
  have mCosts := mg_of X G aCosts
  have bCosts := FCosts.binds (ps := ["numbers"]) fun _ _ _ _ _ _ us hl => match us, hl with | [_], _ => rfl
  have FWith := fun_mk (st := sWith) lWith cWith kWith
  have mWith := mg_of X G aWith
  have bWith := FWith.binds (ps := ["number", "rows"]) fun _ _ _ _ _ _ us hl => match us, hl with | [_, _], _ => rfl
  have FOnTrk := fun_mk (st := sOnTrk) lOnTrk cOnTrk kOnTrk
  have mOnTrk := mg_of X G aOnTrk
  have bOnTrk := FOnTrk.binds (ps := ["ways", "train", "track"]) fun _ _ _ _ _ _ us hl => match us, hl with | [_, _, _], _ => rfl
  have FRead := fun_mk (st := sRead) lRead cRead kRead
  have mRead := mg_of X G aRead
  have bRead := FRead.binds (ps := ["calls", "start"]) fun _ _ _ _ _ _ us hl => match us, hl with | [_, _], _ => rfl
  have FReads := fun_mk (st := sReads) lReads cReads kReads
  have mReads := mg_of X G aReads
  have bReads := FReads.binds (ps := ["calls"]) fun _ _ _ _ _ _ us hl => match us, hl with | [_], _ => rfl
  have FTo := fun_mk (st := sTo) lTo cTo kTo
  have mTo := mg_of X G aTo
  have bTo := FTo.binds (ps := ["plan", "call"]) fun _ _ _ _ _ _ us hl => match us, hl with | [_, _], _ => rfl
  have FAns := fun_mk (st := sAns) lAns cAns kAns
  have mAns := mg_of X G aAns
  have iLEFT := mg_of X G gLEFT
  have iSTANDS_NOWHERE := mg_of X G gSTANDS_NOWHERE
  have iNOT_IN_A_ROW := mg_of X G gNOT_IN_A_ROW
  have iOTHERS_AHEAD := mg_of X G gOTHERS_AHEAD
  have iCLOSED := mg_of X G gCLOSED
  have iNOT_ALLOWED := mg_of X G gNOT_ALLOWED
  have iNO_ROOM := mg_of X G gNO_ROOM
  have iCOMES := mg_of X G gCOMES
  have iGOES := mg_of X G gGOES
  have iMOST_TRACKS := mg_of X G gMOST_TRACKS
  have iMOST_PARTS := mg_of X G gMOST_PARTS
  have iMOST_COMING := mg_of X G gMOST_COMING
  have iMOST_GOING := mg_of X G gMOST_GOING
  have iLONGEST := mg_of X G gLONGEST
  have iLATEST := mg_of X G gLATEST
  have iDEAREST := mg_of X G gDEAREST
  have iWRONG := mg_of X G gWRONG
  have iNOT_THERE := mg_of X G gNOT_THERE
  have iGOES_ALREADY := mg_of X G gGOES_ALREADY
  have iTOO_MANY := mg_of X G gTOO_MANY
  have iNO_WAY := mg_of X G gNO_WAY
  have iBEGINS := mg_of X G gBEGINS
  have iCOME := mg_of X G gCOME
  have iGO := mg_of X G gGO
  have iUNDO := mg_of X G gUNDO
  have iTRY_TRACKS := mg_of X G gTRY_TRACKS
  have iSTANDS := mg_of X G gSTANDS
  have iBEST := mg_of X G gBEST
  have iFEWEST := mg_of X G gFEWEST
  have b_all := mg_none_of X G zall
  have b_any := mg_none_of X G zany
  have b_len := mg_none_of X G zlen
  have b_sum := mg_none_of X G zsum
  have b_enumerate := mg_none_of X G zenumerate
  have b_range := mg_none_of X G zrange
  have b_list := mg_none_of X G zlist
  have b_set := mg_none_of X G zset
  have b_max := mg_none_of X G zmax
  have b_zip := mg_none_of X G zzip
  have b_sorted := mg_none_of X G zsorted
  have b_min := mg_none_of X G zmin
  have b_tuple := mg_none_of X G ztuple
  obtain ⟨cs, rfl, rfl, rfl, rfl, rfl, rfl⟩ : ∃ cs : Cs, cs.pl = Cpl ∧ cs.co = Cco ∧ cs.go = Cgo ∧ cs.mv = Cmv ∧ cs.st = Cst ∧ cs.tab = tab := ⟨⟨Cpl, Cco, Cgo, Cmv, Cst, tab⟩, rfl, rfl, rfl, rfl, rfl, rfl⟩
  have th : TxH K mg := ⟨b_all, b_any, b_len, ⟨_, iLONGEST⟩, ⟨_, iDEAREST⟩⟩
  have tst : TxSt K mg cs.st := ⟨clst, nst_tracks, nst_lengths, nst_rows, b_sum, b_enumerate, b_len⟩
  have tco : TxCo K cs.co := ⟨clco, nco_minute, nco_side, nco_parts, nco_costs⟩
  have ts : TxS K mg cs.st cs.co cs.go := ⟨tst, tco, clgo, ngo_minute, ngo_side, ngo_parts, ⟨_, iLEFT⟩, ⟨_, iSTANDS_NOWHERE⟩, ⟨_, iNOT_IN_A_ROW⟩, ⟨_, iOTHERS_AHEAD⟩, ⟨_, iCLOSED⟩, ⟨_, iNOT_ALLOWED⟩, ⟨_, iNO_ROOM⟩⟩
  have tm : TxM K mg cs.co cs.go cs.mv := ⟨tco, clgo, ngo_minute, clmv, nmv_kind, nmv_number, nmv_train, mgmv, ⟨_, iGOES⟩, ⟨_, iCOMES⟩, b_enumerate, b_sorted⟩
  have tp : TxP K mg cs.pl := ⟨clpl, npl_tracks, npl_lengths, npl_coming, npl_going, th, b_range, ⟨_, iMOST_TRACKS⟩, ⟨_, iMOST_PARTS⟩, ⟨_, iMOST_COMING⟩, ⟨_, iMOST_GOING⟩, ⟨_, iLATEST⟩, ⟨_, iWRONG⟩, ⟨_, iNOT_THERE⟩, ⟨_, iGOES_ALREADY⟩, ⟨_, iTOO_MANY⟩, ⟨_, iNO_WAY⟩⟩
  have tc : TxC K mg cs := ⟨tp, tco, mgco, b_list⟩
  have tg : TxG K mg cs := ⟨tp, clgo, ngo_minute, ngo_side, ngo_parts, mggo, b_set, b_max⟩
  have td : TxD K mg cs := ⟨tp, ts, clmv, nmv_kind, nmv_number, nmv_train, ⟨_, iCOMES⟩⟩
  have te : TxE K mg cs := ⟨td, b_zip, b_sum⟩
  have tf : TxF K mg cs := ⟨te, mgst⟩
  have tw : TxW K mg cs Cse := ⟨tf, tm, clse, nse_tracks, nse_lengths, nse_coming, nse_moves, nse_known, mgse, b_tuple⟩
  have tb : TxB K mg cs := ⟨tf, b_min, b_set, b_enumerate⟩
  have tt : TxT K mg Cca := ⟨clca, nca_number, nca_numbers, nca_rows, ⟨_, iBEGINS⟩, ⟨_, iCOME⟩, ⟨_, iGO⟩, ⟨_, iUNDO⟩, ⟨_, iTRY_TRACKS⟩, ⟨_, iSTANDS⟩, ⟨_, iBEST⟩, ⟨_, iFEWEST⟩⟩
  have ta : TxA K mg cs := ⟨tp, mgpl⟩
  have tr := txr_mk (K := K) (mg := mg) (Ca := Cca) clca nca_number nca_numbers nca_rows nca_behind mgca (PySem.W.mg_of X G aShp) b_range b_len lShp lShp0 lShp1 lShp2 lShp3 lShp4 lShp5 lShp6 lShp7 lShp8
  refine ⟨PySem.W.fnOf "answers" "answers" (defArgs sAns) (defBody sAns) (defScope sAns) .none .none .none (.str mAnsk tAnsk) none (.ref cAnsk) .none, fun s us hu => match us, hu with | [_], _ => .of_eq rfl, fun base hK hN hC hB hgt => ?_⟩
  have oBring : FnOk P w K mg base CX0 2 fBring _ ["self", "train", "track"] (spBring cs.st cs.co) := ok_bring FBring ts FCan bCan mCan FLeads bLeads mLeads FLong bLong mLong
  have oTake : FnOk P w K mg base CX0 2 fTake _ ["self", "train"] (spTake cs.st cs.go) := ok_take FTake ts FTrack bTrack mTrack FLeads bLeads mLeads
  have oDo : FnOk P w K mg base CX0 3 fDo _ ["self", "move", "chosen"] (spDo cs) := ok_do FDo td oBring bBring mBring oTake bTake mTake
  have oFirst : FnOk P w K mg base CX0 4 fFirst _ ["self", "moves", "chosen"] (spFirst cs) := ok_first FFirst td oDo bDo mDo
  have oMoves : FnOk P w K mg base CX0 3 fMoves _ ["coming", "going"] (spMoves cs.co cs.go cs.mv cs.tab) := ok_moves FMoves (congrArg Value.ref hcM) tm Mmv FMvI bMvI hC hB hgt
  have oForAll : FnOk P w K mg base CX0 1 fForAll _ ["self", "chosen"] (spForAll cs) := ok_forall FForAll te
  have oCostOf : FnOk P w K mg base CX0 2 fCostOf _ ["self", "chosen"] (spCostOf cs) := ok_costof FCostOf te FCost bCost mCost
  have oTry : FnOk P w K mg base CX0 5 fTry _ ["self", "chosen"] (spTry cs) := ok_try FTry tf oForAll bForAll mForAll oFirst bFirst mFirst oMoves bMoves mMoves kMoves FWith bWith mWith Mst FStI bStI oCostOf bCostOf mCostOf
  have oBegins : FnOk P w K mg base CX0 2 fBegins _ ["self", "numbers"] (spBegins cs) := ok_begins FBegins tp FLens bLens mLens
  have oCome : FnOk P w K mg base CX0 3 fCome _ ["self", "minute", "side", "lengths", "costs"] (spCome cs) := ok_come FCome tc FLens bLens mLens FCosts bCosts mCosts FWith bWith mWith Mco FCoI bCoI
  have oGo : FnOk P w K mg base CX0 3 fGo _ ["self", "minute", "side", "parts"] (spGo cs) := ok_go FGo tg FAlready bAlready mAlready Mgo FGoI bGoI
  have oUndo : FnOk P w K mg base CX0 1 fUndo _ ["self"] (spUndo cs) := ok_undo FUndo tp
  have oReads : FnOk P w K mg base CX0 4 fReads _ ["calls"] (spReads K Cca) := ok_reads FReads tr Mca FCaI bCaI FRead bRead mRead
  have oStands : FnOk P w K mg base CX0 5 fStands _ ["self", "minute", "chosen"] (spStands cs) := ok_stands FStands tf tm oForAll bForAll mForAll oFirst bFirst mFirst oMoves bMoves mMoves kMoves FWith bWith mWith Mst FStI bStI
  have oCanGr : FnOk P w K mg base CX0 5 fCanGr _ ["self", "group", "chosen"] (spCanGr cs Cse) := ok_cangr FCanGr tw ngo_parts FShare bShare mShare oFirst bFirst mFirst Mst FStI bStI
  have oCanOn : FnOk P w K mg base CX0 6 fCanOn _ ["self", "track", "chosen"] (spCanOn P w cs Cse) := ok_canon FCanOn tw oCanGr bCanGr mCanGr
  have oIsWay : FnOk P w K mg base CX0 7 fIsWay _ ["self", "chosen"] (spIsWay P w cs Cse) := ok_isway FIsWay tw oCanOn bCanOn mCanOn
  have oWays : FnOk P w K mg base CX0 8 fWays _ ["self"] (spWays P w cs Cse) := ok_ways FWays tw FChoices bChoices mChoices oIsWay bIsWay mIsWay
  have oSeI : FnOk P w K mg base CX0 4 fSeI _ ["self", "tracks", "lengths", "coming", "going"] (spSeI P w cs Cse) := ok_seI FSeI tw oMoves bMoves mMoves kMoves
  have oAllWays : FnOk P w K mg base CX0 9 fAllWays _ ["self"] (spAllWays cs) := ok_allways FAllWays tw Mse oSeI bSeI oWays bWays mWays
  have oCheap : FnOk P w K mg base CX0 3 fCheap _ ["self", "ways"] (spCheap cs) := ok_cheap FCheap tb oCostOf bCostOf mCostOf
  have oBest : FnOk P w K mg base CX0 10 fBest _ ["self"] (spAsk cs .best) := ok_best FBest tb oAllWays bAllWays mAllWays oCheap bCheap mCheap oCostOf bCostOf mCostOf FWith bWith mWith
  have oFewest : FnOk P w K mg base CX0 10 fFewest _ ["self"] (spAsk cs .fewest) := ok_fewest FFewest tb oAllWays bAllWays mAllWays oCheap bCheap mCheap oCostOf bCostOf mCostOf FWith bWith mWith
  have oForced : FnOk P w K mg base CX0 10 fForced _ ["self"] (spAsk cs .forced) := ok_forced FForced tb oAllWays bAllWays mAllWays FOnTrk bOnTrk mOnTrk FWith bWith mWith
  have oTo : FnOk P w K mg base CX0 11 fTo _ ["plan", "call"] (spTo cs Cca) := ok_to FTo tt clpl oBegins bBegins mBegins oCome bCome mCome oGo bGo mGo oUndo bUndo mUndo oTry bTry mTry oStands bStands mStands oBest bBest mBest oFewest bFewest mFewest oForced bForced mForced
  exact ok_answers FAns ta (by decide) oTo bTo mTo kTo oReads bReads mReads kReads Mpl FPlI bPlI
end Pf
open PySem PySem.W PyProof.Rows
set_option maxRecDepth 100000 in
set_option maxHeartbeats 0 in
theorem PySem.Challenge.cw_platforms_s01_answers_holds : PySem.Challenge.rw_platforms_s01_answers.Holds := by
  w_on
  refine holds_os (q := Pf.qv) (loose := []) (Xt := Pf.xtK) (XP := XL Pf.qv []) (Yf := Hook.obs (kHook Pf.Kf Pf.asK Pf.asK_eq)) (Ya := Hook.val (kHook Pf.Kf Pf.asK Pf.asK_eq)) (YP := Hook.says (kHook Pf.Kf Pf.asK Pf.asK_eq)) (N := 6348) Pf.left (Hook.of (kHook Pf.Kf Pf.asK Pf.asK_eq)) (Hook.keeps (kHook Pf.Kf Pf.asK Pf.asK_eq)) (fun s e => xl_of s (Bool.and_eq_true_iff.mp e).1) XL.keeps (by rfl) (by rfl) (by rfl) (fun s e => recFacts_of (Bool.and_eq_true_iff.mp e).2) os_shapes (by first | assumption | decide +kernel) (by decide +kernel) ⟨rfl, rfl, rfl, rfl, rfl, by decide +kernel⟩ ?hw ?hc
  (case hw => exact ⟨[.list [.int 3]], by decide +kernel, by decide +kernel⟩)
  k_fillS
  refine L2.walk_specT (r := PySem.Challenge.rw_platforms_s01_answers) (k := 12) (CX := L2.CX0) (x := "calls") (y := "moves_in_order") (dM := ?dM) (c := ?c) (tab := ?tab) (sp := Pf.spAns ?tab) (by decide +kernel) ⟨rfl, by decide, by decide⟩ (fun w h Y => PySem.W.kIn_of Y) ?rec ?tabIn ?Kt ?F ?S (fun _ _ _ _ z => z)
  case rec => rfl
  case tabIn =>
    intro w
    refine' Pf.tabIn_of ?ta ?tb ?tc ?td ?te
    (case ta => k_is); (case tb => k_is); (case tc => rfl); (case td => k_is); (case te => rfl)
  case Kt => intro w; kernel_rfl
  case F =>
    intro w mg fa h Y KX G hmg
    refine' Pf.all_mk KX G hmg ?h0 ?h1 ?h2 ?h3 ?h4 ?h5 ?h6 ?h7 ?h8 ?h9 ?h10 ?h11 ?h12 ?h13 ?h14 ?h15 ?h16 ?h17 ?h18 ?h19 ?h20 ?h21 ?h22 ?h23 ?h24 ?h25 ?h26 ?h27 ?h28 ?h29 ?h30 ?h31 ?h32 ?h33 ?h34 ?h35 ?h36 ?h37 ?h38 ?h39 ?h40 ?h41 ?h42 ?h43 ?h44 ?h45 ?h46 ?h47 ?h48 ?h49 ?h50 ?h51 ?h52 ?h53 ?h54 ?h55 ?h56 ?h57 ?h58 ?h59 ?h60 ?h61 ?h62 ?h63 ?h64 ?h65 ?h66 ?h67 ?h68 ?h69 ?h70 ?h71 ?h72 ?h73 ?h74 ?h75 ?h76 ?h77 ?h78 ?h79 ?h80 ?h81 ?h82 ?h83 ?h84 ?h85 ?h86 ?h87 ?h88 ?h89 ?h90 ?h91 ?h92 ?h93 ?h94 ?h95 ?h96 ?h97 ?h98 ?h99 ?h100 ?h101 ?h102 ?h103 ?h104 ?h105 ?h106 ?h107 ?h108 ?h109 ?h110 ?h111 ?h112 ?h113 ?h114 ?h115 ?h116 ?h117 ?h118 ?h119 ?h120 ?h121 ?h122 ?h123 ?h124 ?h125 ?h126 ?h127 ?h128 ?h129 ?h130 ?h131 ?h132 ?h133 ?h134 ?h135 ?h136 ?h137 ?h138 ?h139 ?h140 ?h141 ?h142 ?h143 ?h144 ?h145 ?h146 ?h147 ?h148 ?h149 ?h150 ?h151 ?h152 ?h153 ?h154 ?h155 ?h156 ?h157 ?h158 ?h159 ?h160 ?h161 ?h162 ?h163 ?h164 ?h165 ?h166 ?h167 ?h168 ?h169 ?h170 ?h171 ?h172 ?h173 ?h174 ?h175 ?h176 ?h177 ?h178 ?h179 ?h180 ?h181 ?h182 ?h183 ?h184 ?h185 ?h186 ?h187 ?h188 ?h189 ?h190 ?h191 ?h192 ?h193 ?h194 ?h195 ?h196 ?h197 ?h198 ?h199 ?h200 ?h201 ?h202 ?h203 ?h204 ?h205 ?h206 ?h207 ?h208 ?h209 ?h210 ?h211 ?h212 ?h213 ?h214 ?h215 ?h216 ?h217 ?h218 ?h219 ?h220 ?h221 ?h222 ?h223 ?h224 ?h225 ?h226 ?h227 ?h228 ?h229 ?h230 ?h231 ?h232 ?h233 ?h234 ?h235 ?h236 ?h237 ?h238 ?h239 ?h240 ?h241 ?h242 ?h243 ?h244 ?h245 ?h246 ?h247 ?h248 ?h249 ?h250 ?h251 ?h252 ?h253 ?h254 ?h255 ?h256 ?h257 ?h258 ?h259 ?h260 ?h261 ?h262 ?h263 ?h264 ?h265 ?h266 ?h267 ?h268 ?h269 ?h270 ?h271 ?h272 ?h273 ?h274 ?h275 ?h276 ?h277 ?h278 ?h279 ?h280 ?h281 ?h282 ?h283 ?h284 ?h285 ?h286 ?h287 ?h288 ?h289 ?h290 ?h291 ?h292 ?h293 ?h294 ?h295 ?h296 ?h297 ?h298 ?h299 ?h300 ?h301 ?h302 ?h303 ?h304 ?h305 ?h306 ?h307 ?h308 ?h309 ?h310 ?h311 ?h312 ?h313 ?h314 ?h315 ?h316 ?h317 ?h318 ?h319 ?h320 ?h321 ?h322 ?h323 ?h324 ?h325 ?h326 ?h327 ?h328 ?h329 ?h330 ?h331 ?h332 ?h333 ?h334 ?h335 ?h336 ?h337 ?h338 ?h339 ?h340 ?h341 ?h342
    (case h0 => k_is); (case h1 => k_is); (case h2 => k_is); (case h3 => k_is); (case h4 => k_is); (case h5 => k_is); (case h6 => k_is); (case h7 => k_is); (case h8 => k_is); (case h9 => k_is); (case h10 => k_is); (case h11 => k_is); (case h12 => k_is); (case h13 => k_is); (case h14 => k_is); (case h15 => k_is); (case h16 => k_is); (case h17 => k_is); (case h18 => k_is); (case h19 => k_is)
    (case h20 => k_is); (case h21 => k_is); (case h22 => k_is); (case h23 => k_is); (case h24 => k_is); (case h25 => k_is); (case h26 => k_is); (case h27 => k_is); (case h28 => k_is); (case h29 => k_is); (case h30 => k_is); (case h31 => k_is); (case h32 => k_is); (case h33 => k_is); (case h34 => k_is); (case h35 => k_is); (case h36 => k_is); (case h37 => k_is); (case h38 => k_is); (case h39 => k_is)
    (case h40 => k_is); (case h41 => k_is); (case h42 => k_is); (case h43 => k_is); (case h44 => k_is); (case h45 => k_is); (case h46 => k_is); (case h47 => k_is); (case h48 => k_is); (case h49 => k_is); (case h50 => k_is); (case h51 => k_is); (case h52 => k_is); (case h53 => k_is); (case h54 => k_is); (case h55 => k_is); (case h56 => k_is); (case h57 => k_is); (case h58 => k_is); (case h59 => k_is)
    (case h60 => k_is); (case h61 => k_is); (case h62 => k_is); (case h63 => k_is); (case h64 => k_is); (case h65 => k_is); (case h66 => k_is); (case h67 => k_is); (case h68 => k_is); (case h69 => k_is); (case h70 => k_is); (case h71 => k_is); (case h72 => k_is); (case h73 => k_is); (case h74 => k_is); (case h75 => k_is); (case h76 => k_is); (case h77 => k_is); (case h78 => k_is); (case h79 => k_is)
    (case h80 => k_is); (case h81 => k_is); (case h82 => k_is); (case h83 => k_is); (case h84 => k_is); (case h85 => k_is); (case h86 => k_is); (case h87 => k_is); (case h88 => k_is); (case h89 => k_is); (case h90 => k_is); (case h91 => k_is); (case h92 => k_is); (case h93 => k_is); (case h94 => k_is); (case h95 => k_is); (case h96 => k_is); (case h97 => k_is); (case h98 => k_is); (case h99 => k_is)
    (case h100 => k_is); (case h101 => k_is); (case h102 => k_is); (case h103 => k_is); (case h104 => k_is); (case h105 => k_is); (case h106 => k_is); (case h107 => k_is); (case h108 => k_is); (case h109 => k_is); (case h110 => k_is); (case h111 => k_is); (case h112 => k_is); (case h113 => k_is); (case h114 => k_is); (case h115 => k_is); (case h116 => k_is); (case h117 => k_is); (case h118 => k_is); (case h119 => k_is)
    (case h120 => k_is); (case h121 => k_is); (case h122 => k_is); (case h123 => k_is); (case h124 => k_is); (case h125 => k_is); (case h126 => k_is); (case h127 => k_is); (case h128 => k_is); (case h129 => k_is); (case h130 => k_is); (case h131 => k_is); (case h132 => k_is); (case h133 => k_is); (case h134 => k_is); (case h135 => k_is); (case h136 => k_is); (case h137 => k_is); (case h138 => k_is); (case h139 => k_is)
    (case h140 => k_is); (case h141 => k_is); (case h142 => k_is); (case h143 => k_is); (case h144 => k_is); (case h145 => k_is); (case h146 => k_is); (case h147 => k_is); (case h148 => k_is); (case h149 => k_is); (case h150 => k_is); (case h151 => k_is); (case h152 => k_is); (case h153 => k_is); (case h154 => k_is); (case h155 => k_is); (case h156 => k_is); (case h157 => k_is); (case h158 => k_is); (case h159 => k_is)
    (case h160 => k_is); (case h161 => k_is); (case h162 => k_is); (case h163 => k_is); (case h164 => k_is); (case h165 => k_is); (case h166 => k_is); (case h167 => k_is); (case h168 => k_is); (case h169 => k_is); (case h170 => k_is); (case h171 => k_is); (case h172 => k_is); (case h173 => k_is); (case h174 => k_is); (case h175 => k_is); (case h176 => k_is); (case h177 => k_is); (case h178 => k_is); (case h179 => k_is)
    (case h180 => k_is); (case h181 => k_is); (case h182 => k_is); (case h183 => k_is); (case h184 => k_is); (case h185 => k_is); (case h186 => k_is); (case h187 => k_is); (case h188 => k_is); (case h189 => k_is); (case h190 => k_is); (case h191 => k_is); (case h192 => k_is); (case h193 => k_is); (case h194 => k_is); (case h195 => k_is); (case h196 => k_is); (case h197 => k_is); (case h198 => k_is); (case h199 => k_is)
    (case h200 => k_is); (case h201 => k_is); (case h202 => k_is); (case h203 => k_is); (case h204 => k_is); (case h205 => k_is); (case h206 => k_is); (case h207 => k_is); (case h208 => k_is); (case h209 => k_is); (case h210 => k_is); (case h211 => k_is); (case h212 => k_is); (case h213 => k_is); (case h214 => k_is); (case h215 => k_is); (case h216 => k_is); (case h217 => k_is); (case h218 => k_is); (case h219 => k_is)
    (case h220 => k_is); (case h221 => k_is); (case h222 => k_is); (case h223 => k_is); (case h224 => k_is); (case h225 => k_is); (case h226 => k_is); (case h227 => k_is); (case h228 => k_is); (case h229 => k_is); (case h230 => k_is); (case h231 => k_is); (case h232 => k_is); (case h233 => k_is); (case h234 => k_is); (case h235 => k_is); (case h236 => k_is); (case h237 => k_is); (case h238 => k_is); (case h239 => k_is)
    (case h240 => k_is); (case h241 => k_is); (case h242 => k_is); (case h243 => k_is); (case h244 => k_is); (case h245 => k_is); (case h246 => k_is); (case h247 => k_is); (case h248 => k_is); (case h249 => k_is); (case h250 => k_is); (case h251 => k_is); (case h252 => k_is); (case h253 => k_is); (case h254 => k_is); (case h255 => k_is); (case h256 => k_is); (case h257 => k_is); (case h258 => k_is); (case h259 => k_is)
    (case h260 => k_is); (case h261 => k_is); (case h262 => k_is); (case h263 => k_is); (case h264 => k_is); (case h265 => k_is); (case h266 => k_is); (case h267 => k_is); (case h268 => k_is); (case h269 => k_is); (case h270 => k_is); (case h271 => k_is); (case h272 => k_is); (case h273 => k_is); (case h274 => k_is); (case h275 => k_is); (case h276 => k_is); (case h277 => k_is); (case h278 => k_is); (case h279 => k_is)
    (case h280 => k_is); (case h281 => k_is); (case h282 => k_is); (case h283 => k_is); (case h284 => k_is); (case h285 => k_is); (case h286 => k_is); (case h287 => k_is); (case h288 => k_is); (case h289 => rfl); (case h290 => k_is); (case h291 => k_is); (case h292 => k_is); (case h293 => k_is); (case h294 => k_is); (case h295 => k_is); (case h296 => k_is); (case h297 => k_is); (case h298 => k_is); (case h299 => k_is)
    (case h300 => k_is); (case h301 => k_is); (case h302 => k_is); (case h303 => k_is); (case h304 => k_is); (case h305 => k_is); (case h306 => k_is); (case h307 => k_is); (case h308 => k_is); (case h309 => k_is); (case h310 => k_is); (case h311 => k_is); (case h312 => k_is); (case h313 => k_is); (case h314 => k_is); (case h315 => k_is); (case h316 => k_is); (case h317 => k_is); (case h318 => k_is); (case h319 => k_is)
    (case h320 => k_is); (case h321 => k_is); (case h322 => k_is); (case h323 => k_is); (case h324 => k_is); (case h325 => k_is); (case h326 => k_is); (case h327 => k_is); (case h328 => k_is); (case h329 => k_is); (case h330 => k_is); (case h331 => k_is); (case h332 => k_is); (case h333 => k_is); (case h334 => k_is); (case h335 => k_is); (case h336 => k_is); (case h337 => k_is); (case h338 => k_is); (case h339 => k_is)
    (case h340 => k_is); (case h341 => k_is); (case h342 => k_is)
  case S => exact Pf.asks
