import PyProof.Rows.All
import Ge09Spec
import PyGe09
import PyFlatLaws
import Wide.All
import OpenK.AllK
import Wide.FinOn
import Open.SpecLaws
import KE.OsGo
import KE.GoesEnum
import HandS.ForSpec
import HandS.Iter
import HandS.Walk
import HandS.Comp
import HandS.Deep
import PySem.Challenge.RW_playedagain_s01_answers
set_option linter.all false
namespace PaM
open Ge09

/-- what stands of a recording at all times -/
structure TapeOk (t : Tape) : Prop where
  n1 : 1 ≤ t.n
  n4 : t.n ≤ 4
  len : t.keys.length ≤ 120
  keys : ∀ k ∈ t.keys, k.length = t.n ∧ ∀ x ∈ k, x ≤ 4
  kept : ∀ x ∈ t.kept, 0 < x.1 ∧ x.1 ≤ t.keys.length ∧ x.2 = playTo t x.1
  sorted : t.kept.Pairwise (fun a b => a.1 < b.1)
  most : t.kept.length ≤ 6

/-! ### going to a tick -/
def ahead (l : List (Nat × World)) (k : Nat) (a : Nat × World) : Nat × World := l.foldl (fun a x => if x.1 ≤ k then x else a) a
theorem near_ahead (k : Nat) : ∀ (l : List (Nat × World)) (a : Nat × World), (∀ x ∈ l, a.1 ≤ x.1) → l.Pairwise (fun a b => a.1 < b.1) →
    (l.filter fun x => decide (x.1 ≤ k)).foldl (fun a x => if a.1 ≤ x.1 then x else a) a = ahead l k a
  | [], a, _, _ => rfl
  | x :: l, a, h, s => by
    have hs := List.pairwise_cons.mp s
    have hl : ∀ y ∈ l, x.1 ≤ y.1 := fun y hy => Nat.le_of_lt (hs.1 y hy)
    have ha : ∀ y ∈ l, a.1 ≤ y.1 := fun y hy => h y (List.mem_cons_of_mem _ hy)
    unfold ahead
    by_cases c : x.1 ≤ k
    · rw [List.filter_cons_of_pos (by simpa using c), List.foldl_cons, List.foldl_cons, if_pos c, if_pos (h x List.mem_cons_self)]
      exact near_ahead k l x hl hs.2
    · rw [List.filter_cons_of_neg (by simpa using c), List.foldl_cons, if_neg c]
      exact near_ahead k l a ha hs.2
theorem nearest_eq {t : Tape} (T : TapeOk t) (k : Nat) : nearest t k = ahead t.kept k (0, start t.n t.seed) :=
  near_ahead k t.kept _ (fun x _ => Nat.zero_le _) T.sorted
theorem ahead_mem (k : Nat) : ∀ (l : List (Nat × World)) (a : Nat × World), ahead l k a = a ∨ (ahead l k a ∈ l ∧ (ahead l k a).1 ≤ k)
  | [], a => .inl rfl
  | x :: l, a => by
    unfold ahead
    rw [List.foldl_cons]
    by_cases c : x.1 ≤ k
    · rw [if_pos c]
      rcases ahead_mem k l x with h | h
      · right
        unfold ahead at h
        rw [h]
        exact ⟨List.mem_cons_self, c⟩
      · right
        exact ⟨List.mem_cons_of_mem _ h.1, h.2⟩
    · rw [if_neg c]
      rcases ahead_mem k l a with h | h
      · exact .inl h
      · exact .inr ⟨List.mem_cons_of_mem _ h.1, h.2⟩
theorem playTo_zero (t : Tape) : playTo t 0 = start t.n t.seed := rfl
theorem ahead_ok {t : Tape} (T : TapeOk t) (k : Nat) : (ahead t.kept k (0, start t.n t.seed)).1 ≤ k ∧ (ahead t.kept k (0, start t.n t.seed)).1 ≤ t.keys.length ∧
    (ahead t.kept k (0, start t.n t.seed)).2 = playTo t (ahead t.kept k (0, start t.n t.seed)).1 := by
  rcases ahead_mem k t.kept (0, start t.n t.seed) with h | h
  · rw [h]
    exact ⟨Nat.zero_le _, Nat.zero_le _, rfl⟩
  · have q := T.kept _ h.1
    exact ⟨h.2, q.2.1, q.2.2⟩
theorem play_on (t : Tape) {s k : Nat} (h : s ≤ k) : ((t.keys.take k).drop s).foldl tick (playTo t s) = playTo t k := by
  unfold playTo
  have e : t.keys.take k = t.keys.take s ++ (t.keys.take k).drop s := by
    have := List.take_append_drop s (t.keys.take k)
    rw [List.take_take, Nat.min_eq_left h] at this
    exact this.symm
  conv => rhs; rw [e, List.foldl_append]
theorem goTo_eq {t : Tape} (T : TapeOk t) (k : Nat) : goTo t k = (playTo t k, k - (ahead t.kept k (0, start t.n t.seed)).1) := by
  unfold goTo
  simp only []
  rw [nearest_eq T]
  have q := ahead_ok T k
  rw [q.2.2, play_on t q.1]
theorem now_eq {t : Tape} (T : TapeOk t) : now t = playTo t t.keys.length := by
  unfold now
  rw [goTo_eq T]

/-! ### which state goes -/
def gaps : List Nat → Nat → List Nat
  | a :: b :: l, before => (b - before) :: gaps (b :: l) a
  | _, _ => []
theorem gaps_length : ∀ (l : List Nat) (p : Nat), (gaps l p).length = l.length - 1
  | [], _ => rfl
  | [_], _ => rfl
  | a :: b :: l, p => by
    have h := gaps_length (b :: l) a
    simp only [gaps, List.length_cons] at h ⊢
    omega
theorem gaps_get : ∀ (l : List Nat) (p i : Nat), i + 1 < l.length → (gaps l p)[i]? = some (l.getD (i + 1) 0 - (p :: l).getD i 0)
  | [], _, _, h => by simp at h
  | [_], _, _, h => by simp at h
  | a :: b :: l, p, 0, _ => by simp [gaps]
  | a :: b :: l, p, i + 1, h => by
    have q := gaps_get (b :: l) a i (by simpa using h)
    simp only [gaps, List.getElem?_cons_succ]
    rw [q]
    simp
/-- the place of the first least -/
def First (g : List Nat) (j : Nat) : Prop := ∃ m : Nat, g[j]? = some m ∧ (∀ (i z : Nat), g[i]? = some z → m ≤ z) ∧ ∀ (i z : Nat), i < j → g[i]? = some z → m < z
theorem First.unique {g : List Nat} {j j' : Nat} (a : First g j) (b : First g j') : j = j' := by
  obtain ⟨m, hm, lm, fm⟩ := a
  obtain ⟨m', hm', lm', fm'⟩ := b
  rcases Nat.lt_trichotomy j j' with h | h | h
  · have q1 := fm' j m h hm
    have q2 := lm j' m' hm'
    omega
  · exact h
  · have q1 := fm j' m' h hm'
    have q2 := lm' j m hm
    omega
theorem spare_first : ∀ (l : List (Nat × World)) (p : Nat), 2 ≤ l.length → ∃ j m, First (gaps (l.map (·.1)) p) j ∧ (gaps (l.map (·.1)) p)[j]? = some m ∧ (∃ x, l[j]? = some x ∧ spareOne l p = some (m, x.1)) ∧ j + 1 < l.length
  | [], _, h => by simp at h
  | [_], _, h => by simp at h
  | [a, b], p, _ => ⟨0, b.1 - p, ⟨b.1 - p, rfl, fun i z q => by
      cases i with
      | zero => simp [gaps] at q; omega
      | succ i => simp [gaps] at q, fun i z q => by omega⟩, rfl, ⟨a, rfl, rfl⟩, by simp⟩
  | a :: b :: c :: l, p, _ => by
    obtain ⟨j, m, ⟨m', hm', lm, fm⟩, hm, ⟨x, hx, hs⟩, hj⟩ := spare_first (b :: c :: l) a.1 (by simp)
    have em : m' = m := Option.some.inj (hm'.symm.trans hm)
    subst em
    have hsp : spareOne (a :: b :: c :: l) p = if b.1 - p ≤ m' then some (b.1 - p, a.1) else some (m', x.1) := by
      conv => lhs; unfold spareOne
      simp only [hs]
    have hg : gaps ((a :: b :: c :: l).map (·.1)) p = (b.1 - p) :: gaps ((b :: c :: l).map (·.1)) a.1 := rfl
    by_cases q : b.1 - p ≤ m'
    · refine ⟨0, b.1 - p, ⟨b.1 - p, by rw [hg]; rfl, fun i z h => ?_, fun i z h => by omega⟩, by rw [hg]; rfl, ⟨a, rfl, by rw [hsp, if_pos q]⟩, by simp⟩
      rw [hg] at h
      cases i with
      | zero => simp at h; omega
      | succ i =>
        have := lm i z (by simpa using h)
        omega
    · refine ⟨j + 1, m', ⟨m', by rw [hg]; simpa using hm', fun i z h => ?_, fun i z hi h => ?_⟩, by rw [hg]; simpa using hm', ⟨x, by simpa using hx, by rw [hsp, if_neg q]⟩, by simpa using hj⟩
      · rw [hg] at h
        cases i with
        | zero => simp at h; omega
        | succ i => exact lm i z (by simpa using h)
      · rw [hg] at h
        cases i with
        | zero => simp at h; omega
        | succ i => exact fm i z (by omega) (by simpa using h)
theorem filter_ne_erase : ∀ (l : List (Nat × World)) (j : Nat) (x : Nat × World), l.Pairwise (fun a b => a.1 < b.1) → l[j]? = some x → l.filter (fun z => z.1 != x.1) = l.eraseIdx j
  | [], j, x, _, h => by simp at h
  | a :: l, 0, x, s, h => by
    have hs := List.pairwise_cons.mp s
    have e : a = x := by simpa using h
    subst e
    rw [List.filter_cons_of_neg (by simp), List.eraseIdx_zero, List.tail_cons]
    refine List.filter_eq_self.mpr fun y hy => ?_
    have := hs.1 y hy
    simp
    omega
  | a :: l, j + 1, x, s, h => by
    have hs := List.pairwise_cons.mp s
    have hx : l[j]? = some x := by simpa using h
    have hm : x ∈ l := List.mem_of_getElem? hx
    have := hs.1 x hm
    rw [List.filter_cons_of_pos (by simp; omega), List.eraseIdx_cons_succ, filter_ne_erase l j x hs.2 hx]
theorem keep_many {t : Tape} {x : Nat × World} {j : Nat} (s : (t.kept ++ [x]).Pairwise (fun a b => a.1 < b.1)) (hl : 6 < (t.kept ++ [x]).length) (hj : First (gaps ((t.kept ++ [x]).map (·.1)) 0) j) :
    keep t x = { t with kept := (t.kept ++ [x]).eraseIdx j } := by
  obtain ⟨j', m, F, hm, ⟨y, hy, hs⟩, hj'⟩ := spare_first (t.kept ++ [x]) 0 (by omega)
  have e := F.unique hj
  subst e
  unfold keep
  simp only []
  rw [if_neg (show ¬ (t.kept ++ [x]).length ≤ MOST by unfold MOST; omega), hs]
  simp only []
  rw [filter_ne_erase _ _ y s hy]
theorem keep_few {t : Tape} {x : Nat × World} (hl : (t.kept ++ [x]).length ≤ 6) : keep t x = { t with kept := t.kept ++ [x] } := by
  unfold keep
  simp only []
  rw [if_pos (show (t.kept ++ [x]).length ≤ MOST from hl)]
end PaM

set_option linter.all false
namespace PaM
open Ge09
theorem take_more {α : Type} : ∀ {l : List α} {i : Nat} {x : α}, l[i]? = some x → l.take (i + 1) = l.take i ++ [x]
  | [], i, x, h => by simp at h
  | a :: l, 0, x, h => by
    have e : a = x := by simpa using h
    subst e
    rfl
  | a :: l, i + 1, x, h => by
    have ih := take_more (l := l) (i := i) (x := x) (by simpa using h)
    simp only [List.take_succ_cons, ih, List.cons_append]
/-! ### one tick, key by key -/
theorem tick_more {w : World} {l : List Nat} {i k : Nat} (h : l[i]? = some k) : tick w (l.take (i + 1)) = turn (tick w (l.take i)) i k := by
  have hl : i < l.length := (List.getElem?_eq_some_iff.mp h).1
  unfold tick
  rw [take_more h, List.zipIdx_append, List.foldl_append]
  simp [Nat.min_eq_left (Nat.le_of_lt hl)]
theorem tick_all (w : World) (l : List Nat) : tick w (l.take l.length) = tick w l := by rw [List.take_length]
theorem tick_none (w : World) (l : List Nat) : tick w (l.take 0) = w := rfl
theorem play_more {t : Tape} {i : Nat} {k : List Nat} (h : t.keys[i]? = some k) : playTo t (i + 1) = tick (playTo t i) k := by
  unfold playTo
  rw [take_more h, List.foldl_append]
  rfl
/-! ### worlds -/
structure WorldOk (n : Nat) (w : World) : Prop where
  len : w.players.length = n
  at_ : ∀ p ∈ w.players, p.1 < 16 ∧ p.2.1 < 16
theorem goes_lt (x y k : Nat) (hx : x < 16) (hy : y < 16) : (goes x y k).1 < 16 ∧ (goes x y k).2 < 16 := by
  unfold goes SIZE
  split
  · exact ⟨Nat.mod_lt _ (by decide), hy⟩
  · split
    · exact ⟨hx, Nat.mod_lt _ (by decide)⟩
    · split
      · exact ⟨Nat.mod_lt _ (by decide), hy⟩
      · split
        · exact ⟨hx, Nat.mod_lt _ (by decide)⟩
        · exact ⟨hx, hy⟩
theorem set_ok {n : Nat} {l : List (Nat × Nat × Nat)} {i : Nat} {q : Nat × Nat × Nat} (hq : q.1 < 16 ∧ q.2.1 < 16) (h : ∀ p ∈ l, p.1 < 16 ∧ p.2.1 < 16) : ∀ p ∈ l.set i q, p.1 < 16 ∧ p.2.1 < 16 := fun p hp => by
  rcases List.mem_or_eq_of_mem_set hp with h1 | h1
  · exact h p h1
  · rw [h1]; exact hq
theorem turn_ok {n : Nat} {w : World} (W : WorldOk n w) (i k : Nat) : WorldOk n (turn w i k) := by
  unfold turn
  split
  · exact W
  · rename_i x y s e
    have hp := W.at_ _ (List.mem_of_getElem? e)
    have hg := goes_lt x y k hp.1 hp.2
    simp only []
    split
    · exact W
    · split
      · exact ⟨by simpa using W.len, set_ok (n := n) hg W.at_⟩
      · exact ⟨by simpa using W.len, set_ok (n := n) hg W.at_⟩
theorem fold_ok {n : Nat} : ∀ (l : List (Nat × Nat)) (w : World), WorldOk n w → WorldOk n (l.foldl (fun w k => turn w k.2 k.1) w)
  | [], w, h => h
  | a :: l, w, h => fold_ok l _ (turn_ok h _ _)
theorem tick_ok {n : Nat} {w : World} (W : WorldOk n w) (l : List Nat) : WorldOk n (tick w l) := fold_ok _ _ W
theorem start_ok {n s : Nat} (h : n ≤ 4) : WorldOk n (start n s) := by
  refine ⟨by simp [start], fun p hp => ?_⟩
  simp only [start, List.mem_map, List.mem_range] at hp
  obtain ⟨i, hi, rfl⟩ := hp
  constructor <;> (simp only []; omega)
theorem foldT_ok {n : Nat} : ∀ (l : List (List Nat)) (w : World), WorldOk n w → WorldOk n (l.foldl tick w)
  | [], w, h => h
  | a :: l, w, h => foldT_ok l _ (tick_ok h _)
theorem play_ok {t : Tape} (T : TapeOk t) (k : Nat) : WorldOk t.n (playTo t k) := foldT_ok _ _ (start_ok T.n4)
/-! ### the recording goes on -/
theorem play_congr {t u : Tape} {k : Nat} (hn : u.n = t.n) (hs : u.seed = t.seed) (hk : u.keys.take k = t.keys.take k) : playTo u k = playTo t k := by
  unfold playTo
  rw [hn, hs, hk]
theorem tape0_ok {n s : Nat} (h1 : 1 ≤ n) (h4 : n ≤ 4) : TapeOk ⟨n, s, [], []⟩ :=
  ⟨h1, h4, by simp, by simp, by simp, by simp, by simp⟩
/-- keys good for a recording -/
structure KeysOk (t : Tape) (k : List Nat) : Prop where
  len : k.length = t.n
  le : ∀ x ∈ k, x ≤ 4
theorem keysOk_iff (t : Tape) (k : List Nat) : keysOk t k = true ↔ KeysOk t k := by
  unfold keysOk
  rw [Bool.and_eq_true, beq_iff_eq, List.all_eq_true]
  exact ⟨fun h => ⟨h.1, fun x hx => by simpa using h.2 x hx⟩, fun h => ⟨h.len, fun x hx => by simpa using h.le x hx⟩⟩
theorem put_ok {t : Tape} (T : TapeOk t) {k : List Nat} (hk : KeysOk t k) (hl : t.keys.length < 120) : TapeOk { t with keys := t.keys ++ [k] } where
  n1 := T.n1
  n4 := T.n4
  len := by simp; omega
  keys := fun x hx => by
    rcases List.mem_append.mp hx with h | h
    · exact T.keys x h
    · rw [List.mem_singleton.mp h]; exact ⟨hk.len, hk.le⟩
  kept := fun x hx => by
    have q := T.kept x hx
    refine ⟨q.1, by simp; omega, q.2.2.trans ?_⟩
    refine (play_congr (t := t) (u := { t with keys := t.keys ++ [k] }) rfl rfl ?_).symm
    exact List.take_append_of_le_length q.2.1
  sorted := T.sorted
  most := T.most
theorem app_sorted {t : Tape} (T : TapeOk t) {x : Nat × World} (h : ∀ y ∈ t.kept, y.1 < x.1) : (t.kept ++ [x]).Pairwise (fun a b => a.1 < b.1) := by
  rw [List.pairwise_append]
  exact ⟨T.sorted, List.pairwise_singleton _ _, fun a ha b hb => by rw [List.mem_singleton.mp hb]; exact h a ha⟩
theorem keep_ok {t : Tape} (T : TapeOk t) {x : Nat × World} (h : ∀ y ∈ t.kept, y.1 < x.1) (h0 : 0 < x.1) (h1 : x.1 ≤ t.keys.length) (hw : x.2 = playTo t x.1) : TapeOk (keep t x) := by
  have hs := app_sorted T h
  have hm : ∀ y ∈ t.kept ++ [x], 0 < y.1 ∧ y.1 ≤ t.keys.length ∧ y.2 = playTo t y.1 := fun y hy => by
    rcases List.mem_append.mp hy with q | q
    · exact T.kept y q
    · rw [List.mem_singleton.mp q]; exact ⟨h0, h1, hw⟩
  by_cases c : (t.kept ++ [x]).length ≤ 6
  · rw [keep_few c]
    exact ⟨T.n1, T.n4, T.len, T.keys, hm, hs, c⟩
  · obtain ⟨j, m, F, _, _, hj⟩ := spare_first (t.kept ++ [x]) 0 (by omega)
    rw [keep_many hs (by omega) F]
    refine ⟨T.n1, T.n4, T.len, T.keys, fun y hy => hm y (List.mem_of_mem_eraseIdx hy), hs.sublist (List.eraseIdx_sublist _ _), ?_⟩
    have hm6 := T.most
    show ((t.kept ++ [x]).eraseIdx j).length ≤ 6
    rw [List.length_eraseIdx_of_lt (by omega), List.length_append, List.length_singleton]
    omega
theorem keep_same (t : Tape) (x : Nat × World) : (keep t x).n = t.n ∧ (keep t x).seed = t.seed ∧ (keep t x).keys = t.keys := by
  unfold keep
  simp only []
  split
  · exact ⟨rfl, rfl, rfl⟩
  · split <;> exact ⟨rfl, rfl, rfl⟩
/-- one tick more, the world at hand -/
def rec1 (t : Tape) (w : World) (k : List Nat) : Tape :=
  if (t.keys.length + 1) % 8 = 0 then keep { t with keys := t.keys ++ [k] } (t.keys.length + 1, tick w k) else { t with keys := t.keys ++ [k] }
theorem put_play {t : Tape} (k : List Nat) : playTo { t with keys := t.keys ++ [k] } (t.keys.length + 1) = tick (playTo t t.keys.length) k := by
  unfold playTo
  simp only []
  rw [List.take_of_length_le (by simp), List.take_of_length_le (Nat.le_refl _), List.foldl_append]
  rfl
theorem record_eq {t : Tape} (T : TapeOk t) {k : List Nat} (hk : KeysOk t k) (hl : t.keys.length < 120) : record t k = rec1 t (playTo t t.keys.length) k := by
  have U := put_ok T hk hl
  unfold record rec1
  simp only [List.length_append, List.length_singleton]
  rw [goTo_eq U]
  simp only []
  rw [put_play k]
  rfl
theorem rec1_same (t : Tape) (w : World) (k : List Nat) : (rec1 t w k).n = t.n ∧ (rec1 t w k).seed = t.seed ∧ (rec1 t w k).keys = t.keys ++ [k] := by
  unfold rec1
  split
  · exact keep_same _ _
  · exact ⟨rfl, rfl, rfl⟩
theorem rec1_ok {t : Tape} (T : TapeOk t) {k : List Nat} (hk : KeysOk t k) (hl : t.keys.length < 120) : TapeOk (rec1 t (playTo t t.keys.length) k) := by
  have U := put_ok T hk hl
  unfold rec1
  split
  · refine keep_ok U (fun y hy => ?_) (by simp) (by simp) (put_play k).symm
    have := T.kept y hy
    simp only []
    omega
  · exact U
theorem rec1_play {t : Tape} (w : World) (k : List Nat) : playTo (rec1 t w k) (t.keys.length + 1) = tick (playTo t t.keys.length) k := by
  obtain ⟨h1, h2, h3⟩ := rec1_same t w k
  refine (play_congr (t := { t with keys := t.keys ++ [k] }) h1 h2 ?_).trans (put_play k)
  rw [h3]
/-- i ticks recorded -/
def recN (k : List Nat) : Nat → Tape → Tape
  | 0, t => t
  | i + 1, t => rec1 (recN k i t) (playTo (recN k i t) (recN k i t).keys.length) k
theorem recN_same (k : List Nat) : ∀ (i : Nat) (t : Tape), (recN k i t).n = t.n ∧ (recN k i t).seed = t.seed ∧ (recN k i t).keys.length = t.keys.length + i
  | 0, t => ⟨rfl, rfl, rfl⟩
  | i + 1, t => by
    obtain ⟨a, b, c⟩ := recN_same k i t
    obtain ⟨a', b', c'⟩ := rec1_same (recN k i t) (playTo (recN k i t) (recN k i t).keys.length) k
    refine ⟨a'.trans a, b'.trans b, ?_⟩
    show (rec1 _ _ _).keys.length = _
    rw [c', List.length_append, List.length_singleton, c]
    omega
theorem recN_ok {t : Tape} (T : TapeOk t) {k : List Nat} (hk : KeysOk t k) : ∀ i, t.keys.length + i ≤ 120 → TapeOk (recN k i t)
  | 0, _ => T
  | i + 1, h => by
    have s := recN_same k i t
    exact rec1_ok (recN_ok T hk i (by omega)) ⟨hk.len.trans s.1.symm, hk.le⟩ (by omega)
theorem recordAll_rec (k : List Nat) : ∀ (i : Nat) (t : Tape), recordAll (i + 1) k t = record (recordAll i k t) k
  | 0, t => rfl
  | i + 1, t => by
    show recordAll (i + 1) k (record t k) = record (recordAll i k (record t k)) k
    exact recordAll_rec k i (record t k)
theorem recordAll_eq {t : Tape} (T : TapeOk t) {k : List Nat} (hk : KeysOk t k) : ∀ i, t.keys.length + i ≤ 120 → recordAll i k t = recN k i t
  | 0, _ => rfl
  | i + 1, h => by
    have s := recN_same k i t
    rw [recordAll_rec, recordAll_eq T hk i (by omega)]
    exact record_eq (recN_ok T hk i (by omega)) ⟨hk.len.trans s.1.symm, hk.le⟩ (by omega)
theorem recN_play {t : Tape} (k : List Nat) (i : Nat) : playTo (recN k (i + 1) t) (recN k (i + 1) t).keys.length = tick (playTo (recN k i t) (recN k i t).keys.length) k := by
  have e : (recN k (i + 1) t).keys.length = (recN k i t).keys.length + 1 := by
    rw [(recN_same k (i + 1) t).2.2, (recN_same k i t).2.2]
    rfl
  rw [e]
  exact rec1_play _ _
/-! ### cut, spoil -/
theorem cut_ok {t : Tape} (T : TapeOk t) {k : Nat} (h : k ≤ t.keys.length) : TapeOk (cut t k) where
  n1 := T.n1
  n4 := T.n4
  len := by
    have := T.len
    simp [cut]
    omega
  keys := fun x hx => T.keys x (List.mem_of_mem_take hx)
  kept := fun x hx => by
    obtain ⟨h1, h2⟩ := List.mem_filter.mp hx
    have q := T.kept x h1
    have hk : x.1 ≤ k := by simpa using h2
    refine ⟨q.1, ?_, q.2.2.trans (play_congr (t := t) (u := cut t k) rfl rfl ?_).symm⟩
    · simp only [cut, List.length_take]
      omega
    · simp only [cut, List.take_take, Nat.min_eq_left hk]
  sorted := T.sorted.sublist List.filter_sublist
  most := Nat.le_trans (List.length_filter_le _ _) T.most
def spoil (t : Tape) (k i v : Nat) : Tape := { t with keys := t.keys.set k ((t.keys.getD k []).set i v), kept := t.kept.filter fun x => decide (x.1 ≤ k) }
theorem spoil_ok {t : Tape} (T : TapeOk t) {k i v : Nat} (h : k < t.keys.length) (hv : v ≤ 4) : TapeOk (spoil t k i v) where
  n1 := T.n1
  n4 := T.n4
  len := by simpa [spoil] using T.len
  keys := fun x hx => by
    rcases List.mem_or_eq_of_mem_set hx with q | q
    · exact T.keys x q
    · have hm : t.keys.getD k [] ∈ t.keys := by
        rw [List.getD_eq_getElem?_getD, List.getElem?_eq_getElem h]
        exact List.getElem_mem h
      have r := T.keys _ hm
      rw [q]
      refine ⟨(List.length_set ..).trans r.1, fun z hz => ?_⟩
      rcases List.mem_or_eq_of_mem_set hz with s | s
      · exact r.2 z s
      · omega
  kept := fun x hx => by
    obtain ⟨h1, h2⟩ := List.mem_filter.mp hx
    have q := T.kept x h1
    have hk : x.1 ≤ k := by simpa using h2
    refine ⟨q.1, by simpa [spoil] using q.2.1, q.2.2.trans (play_congr (t := t) (u := spoil t k i v) rfl rfl ?_).symm⟩
    simp only [spoil]
    rw [List.take_set_of_le hk]
  sorted := T.sorted.sublist List.filter_sublist
  most := Nat.le_trans (List.length_filter_le _ _) T.most
/-! ### one step of the two -/
structure HouseOk (g : House) : Prop where
  t : TapeOk g.tape
  o : TapeOk g.other
theorem init_ok : HouseOk init := ⟨tape0_ok (by decide) (by decide), tape0_ok (by decide) (by decide)⟩
end PaM

set_option linter.all false
namespace PaM
open Ge09
/-! ### what each call answers, way by way -/
section
variable {h : House} {n s m k i v : Nat} {ks : List Nat}
theorem step_begins_no (c : n = 0 ∨ 4 < n) : step h (.begins n s) = (h, [-1]) := if_pos c
theorem step_begins (c : ¬ (n = 0 ∨ 4 < n)) : step h (.begins n s) = ({ h with tape := ⟨n, s, [], []⟩ }, Ge09.ints (worldRow (start n s))) := if_neg c
theorem step_hold_no (c : m = 0 ∨ keysOk h.tape ks = false) : step h (.hold m ks) = (h, [-1]) := if_pos c.symm
theorem step_hold_many (c0 : m ≠ 0) (c : keysOk h.tape ks = true) (c2 : 120 < h.tape.keys.length + m) : step h (.hold m ks) = (h, [-5]) :=
  (if_neg (fun z => z.elim (fun y => by rw [c] at y; cases y) c0)).trans (if_pos c2)
theorem step_hold (ok : TapeOk h.tape) (c0 : m ≠ 0) (c : keysOk h.tape ks = true) (c2 : h.tape.keys.length + m ≤ 120) :
    step h (.hold m ks) = ({ h with tape := recN ks m h.tape }, Ge09.ints ((recN ks m h.tape).keys.length :: worldRow (playTo (recN ks m h.tape) (recN ks m h.tape).keys.length))) := by
  have kok := (keysOk_iff _ _).mp c
  have ok' := recN_ok ok kok m c2
  refine (if_neg (fun z => z.elim (fun y => by rw [c] at y; cases y) c0)).trans ((if_neg (by omega)).trans ?_)
  rw [recordAll_eq ok kok m c2]
  show (_, Ge09.ints (_ :: worldRow (now (recN ks m h.tape)))) = _
  rw [now_eq ok']
theorem press_hold : step h (.press ks) = step h (.hold 1 ks) := by
  by_cases c : keysOk h.tape ks = false
  · exact (if_pos c).trans (if_pos (.inl c)).symm
  · have c1 : ¬ (keysOk h.tape ks = false ∨ 1 = 0) := fun z => z.elim c (by decide)
    refine (if_neg c).trans (Eq.trans ?_ (if_neg c1).symm)
    by_cases c2 : 120 ≤ h.tape.keys.length
    · exact (if_pos c2).trans (if_pos (by omega)).symm
    · exact (if_neg c2).trans (if_neg (by omega)).symm
theorem step_seek_no (c : h.tape.keys.length < k) : step h (.seek k) = (h, [-2]) := congrArg (Prod.mk h) (if_pos c)
theorem step_seek (ok : TapeOk h.tape) (c : k ≤ h.tape.keys.length) : step h (.seek k) = (h, Ge09.ints ((k - (ahead h.tape.kept k (0, start h.tape.n h.tape.seed)).1) :: worldRow (playTo h.tape k))) := by
  refine congrArg (Prod.mk h) ((if_neg (by omega)).trans ?_)
  rw [goTo_eq ok]
theorem step_cut_no (c : h.tape.keys.length < k) : step h (.cut k) = (h, [-2]) := if_pos c
theorem step_cut (c : k ≤ h.tape.keys.length) : step h (.cut k) = ({ h with tape := Ge09.cut h.tape k }, Ge09.ints [(Ge09.cut h.tape k).keys.length, (Ge09.cut h.tape k).kept.length]) := if_neg (by omega)
theorem step_putBy : step h .putBy = ({ h with other := h.tape }, Ge09.ints [h.tape.keys.length]) := rfl
theorem step_swap : step h .swap = (⟨h.other, h.tape⟩, Ge09.ints [h.other.keys.length, h.tape.keys.length]) := rfl
theorem step_kept : step h .kept = (h, Ge09.ints (h.tape.kept.length :: h.tape.kept.flatMap fun x => [x.1, sum x.2])) := rfl
theorem step_sumAt_no (c : h.tape.keys.length < k) : step h (.sumAt k) = (h, [-2]) := congrArg (Prod.mk h) (if_pos c)
theorem step_sumAt (ok : TapeOk h.tape) (c : k ≤ h.tape.keys.length) : step h (.sumAt k) = (h, Ge09.ints [sum (playTo h.tape k)]) := by
  refine congrArg (Prod.mk h) ((if_neg (by omega)).trans ?_)
  rw [goTo_eq ok]
theorem step_keys_no (c : h.tape.keys.length ≤ k) : step h (.keys k m) = (h, [-2]) := congrArg (Prod.mk h) (if_pos c)
theorem step_keys (c : k < h.tape.keys.length) : step h (.keys k m) = (h, Ge09.ints (((h.tape.keys.drop k).take m).length :: ((h.tape.keys.drop k).take m).flatten)) := congrArg (Prod.mk h) (if_neg (by omega))
theorem step_spoil_no (c : 4 < v ∨ h.tape.n ≤ i) : step h (.spoil k i v) = (h, [-1]) := if_pos c
theorem step_spoil_none (c : ¬ (4 < v ∨ h.tape.n ≤ i)) (c2 : h.tape.keys.length ≤ k) : step h (.spoil k i v) = (h, [-2]) := (if_neg c).trans (if_pos c2)
theorem step_spoil (c : ¬ (4 < v ∨ h.tape.n ≤ i)) (c2 : k < h.tape.keys.length) : step h (.spoil k i v) = ({ h with tape := spoil h.tape k i v }, Ge09.ints [(spoil h.tape k i v).kept.length, sum (playTo (spoil h.tape k i v) (spoil h.tape k i v).keys.length)]) := (if_neg c).trans (if_neg (by omega))
theorem step_differ_none (c : ∀ j, j ≤ h.tape.keys.length → j ≤ h.other.keys.length → playTo h.tape j = playTo h.other j) : step h .differ = (h, [-6]) := by
  refine congrArg (Prod.mk h) ?_
  have e : Ge09.differ h.tape h.other = none := by
    unfold Ge09.differ
    rw [List.find?_eq_none]
    intro j hj
    have := List.mem_range.mp hj
    have q := c j (by omega) (by omega)
    simp [q]
  rw [e]
theorem step_differ {j : Nat} (h1 : j ≤ h.tape.keys.length) (h2 : j ≤ h.other.keys.length) (ne : playTo h.tape j ≠ playTo h.other j) (first : ∀ i, i < j → playTo h.tape i = playTo h.other i) :
    step h .differ = (h, Ge09.ints ([j] ++ worldRow (playTo h.tape j) ++ worldRow (playTo h.other j))) := by
  refine congrArg (Prod.mk h) ?_
  have e : Ge09.differ h.tape h.other = some j := by
    unfold Ge09.differ
    rw [List.find?_eq_some_iff_getElem]
    refine ⟨by simpa using ne, j, by simp; omega, by simp, fun i hi => ?_⟩
    have q := first i hi
    simp [q]
  rw [e]
theorem house_step (ok : HouseOk h) (c : Ge09.Call) : HouseOk (step h c).1 := by
  cases c with
  | begins n s =>
    by_cases c : n = 0 ∨ 4 < n
    · rw [step_begins_no c]; exact ok
    · rw [step_begins c]; exact ⟨tape0_ok (by omega) (by omega), ok.o⟩
  | press k =>
    rw [press_hold]
    by_cases c : keysOk h.tape k = true
    · by_cases c2 : 120 < h.tape.keys.length + 1
      · rw [step_hold_many (by decide) c c2]; exact ok
      · rw [step_hold ok.t (by decide) c (by omega)]; exact ⟨recN_ok ok.t ((keysOk_iff _ _).mp c) _ (by omega), ok.o⟩
    · rw [step_hold_no (.inr (by simpa using c))]; exact ok
  | hold m k =>
    by_cases c0 : m = 0
    · rw [step_hold_no (.inl c0)]; exact ok
    · by_cases c : keysOk h.tape k = true
      · by_cases c2 : 120 < h.tape.keys.length + m
        · rw [step_hold_many c0 c c2]; exact ok
        · rw [step_hold ok.t c0 c (by omega)]; exact ⟨recN_ok ok.t ((keysOk_iff _ _).mp c) _ (by omega), ok.o⟩
      · rw [step_hold_no (.inr (by simpa using c))]; exact ok
  | seek k => exact ok
  | cut k =>
    by_cases c : h.tape.keys.length < k
    · rw [step_cut_no c]; exact ok
    · rw [step_cut (by omega)]; exact ⟨cut_ok ok.t (by omega), ok.o⟩
  | putBy => exact ⟨ok.t, ok.t⟩
  | swap => exact ⟨ok.o, ok.t⟩
  | differ => exact ok
  | kept => exact ok
  | sumAt k => exact ok
  | keys k m => exact ok
  | spoil k i v =>
    by_cases c : 4 < v ∨ h.tape.n ≤ i
    · rw [step_spoil_no c]; exact ok
    · by_cases c2 : h.tape.keys.length ≤ k
      · rw [step_spoil_none c c2]; exact ok
      · rw [step_spoil c (by omega)]; exact ⟨spoil_ok ok.t (by omega) (by omega), ok.o⟩
end
end PaM

set_option linter.all false
namespace PaM
open Ge09
/-! ### all that a world has -/
def nums (w : World) : List Nat := worldRow w ++ [w.luck]
def stir (h x : Nat) : Nat := (h * 31 + x + 1) % 1000000007
theorem nums_sum (w : World) : (nums w).foldl stir 7 = sum w := by
  unfold nums worldRow sum
  rw [List.append_assoc]
  rfl
theorem fold_more {l : List Nat} {i x : Nat} (h : l[i]? = some x) : (l.take (i + 1)).foldl stir 7 = stir ((l.take i).foldl stir 7) x := by
  rw [take_more h, List.foldl_append]
  rfl
def tri (p : Nat × Nat × Nat) : List Nat := [p.1, p.2.1, p.2.2]
theorem tri_len : ∀ l : List (Nat × Nat × Nat), (l.flatMap tri).length = 3 * l.length
  | [] => rfl
  | p :: l => by
    have := tri_len l
    simp only [List.flatMap_cons, List.length_append, List.length_cons, tri, List.length_nil]
    omega
theorem tri_inj : ∀ (l m : List (Nat × Nat × Nat)) (u v : List Nat), l.length = m.length → l.flatMap tri ++ u = m.flatMap tri ++ v → l = m ∧ u = v
  | [], [], u, v, _, h => ⟨rfl, h⟩
  | [], _ :: _, _, _, hl, _ => by simp at hl
  | _ :: _, [], _, _, hl, _ => by simp at hl
  | (a, b, c) :: l, (x, y, z) :: m, u, v, hl, h => by
    have h' : a :: b :: c :: (l.flatMap tri ++ u) = x :: y :: z :: (m.flatMap tri ++ v) := h
    injection h' with h1 h'
    injection h' with h2 h'
    injection h' with h3 h'
    obtain ⟨e1, e2⟩ := tri_inj l m u v (by simpa using hl) h'
    subst h1 h2 h3 e1
    exact ⟨rfl, e2⟩
theorem nums_inj {v w : World} (h : nums v = nums w) : v = w := by
  have e : ∀ w : World, nums w = w.players.flatMap tri ++ [w.coin.1, w.coin.2, w.luck] := fun w => by
    unfold nums worldRow
    rw [List.append_assoc]
    rfl
  rw [e, e] at h
  have hl : v.players.length = w.players.length := by
    have q := congrArg List.length h
    rw [List.length_append, List.length_append, tri_len, tri_len] at q
    simp only [List.length_cons, List.length_nil] at q
    omega
  obtain ⟨e1, e2⟩ := tri_inj _ _ _ _ hl h
  injection e2 with h1 e2
  injection e2 with h2 e2
  injection e2 with h3 _
  obtain ⟨vp, ⟨v1, v2⟩, vl⟩ := v
  obtain ⟨wp, ⟨w1, w2⟩, wl⟩ := w
  cases e1
  cases h1
  cases h2
  cases h3
  rfl
/-! ### the worlds at all ticks -/
def plays (t : Tape) (n : Nat) : List World := (List.range n).map (playTo t)
theorem plays_more (t : Tape) (n : Nat) : plays t (n + 1) = plays t n ++ [playTo t n] := by
  unfold plays
  rw [List.range_succ, List.map_append]
  rfl
theorem plays_len (t : Tape) (n : Nat) : (plays t n).length = n := by simp [plays]
theorem plays_get (t : Tape) {n i : Nat} (h : i < n) : (plays t n)[i]? = some (playTo t i) := by
  unfold plays
  rw [List.getElem?_map, List.getElem?_range h]
  rfl
/-! ### flattened -/
theorem flat1 {α : Type} {l : List (List α)} {i : Nat} {x : List α} (h : l[i]? = some x) : (l.take (i + 1)).flatten = (l.take i).flatten ++ x := by
  rw [take_more h, List.flatten_append]
  simp
theorem flat_le {l : List (List Nat)} {n : Nat} (h : ∀ x ∈ l, x.length ≤ n) : l.flatten.length ≤ n * l.length := by
  induction l with
  | nil => simp
  | cons x l ih =>
    have h1 := h x List.mem_cons_self
    have h2 := ih fun y hy => h y (List.mem_cons_of_mem _ hy)
    rw [List.flatten_cons, List.length_append, List.length_cons, Nat.mul_succ]
    omega
def two (x : Nat × World) : List Nat := [x.1, sum x.2]
theorem two_more {l : List (Nat × World)} {i : Nat} {x : Nat × World} (h : l[i]? = some x) : (l.take (i + 1)).flatMap two = (l.take i).flatMap two ++ two x := by
  rw [take_more h, List.flatMap_append]
  simp
theorem two_len : ∀ l : List (Nat × World), (l.flatMap two).length = 2 * l.length
  | [] => rfl
  | p :: l => by
    have := two_len l
    simp only [List.flatMap_cons, List.length_append, List.length_cons, two, List.length_nil]
    omega
end PaM

set_option linter.all false
namespace PaM
open Ge09
/-! ### a list of calls as numbers, and back -/
def enc : Ge09.Call → List Int
  | .begins n s => [0, (n : Int), (s : Int)]
  | .press k => 1 :: (k.length : Int) :: Ge09.ints k
  | .hold m k => 2 :: (m : Int) :: (k.length : Int) :: Ge09.ints k
  | .seek k => [3, (k : Int)]
  | .cut k => [4, (k : Int)]
  | .putBy => [5]
  | .swap => [6]
  | .differ => [7]
  | .kept => [8]
  | .sumAt k => [9, (k : Int)]
  | .keys k m => [10, (k : Int), (m : Int)]
  | .spoil k i v => [11, (k : Int), (i : Int), (v : Int)]
def RowOk : Ge09.Call → Prop
  | .press k => k.length ≤ 12
  | .hold _ k => k.length ≤ 12
  | _ => True
def run : House → List Ge09.Call → List Int
  | _, [] => []
  | h, x :: r => (((step h x).2.length : Int) :: (step h x).2) ++ run (step h x).1 r
def runH : House → List Ge09.Call → House
  | h, [] => h
  | h, x :: r => runH (step h x).1 r
theorem runH_ok : ∀ (l : List Ge09.Call) (h : House), HouseOk h → HouseOk (runH h l)
  | [], _, ok => ok
  | x :: r, h, ok => runH_ok r _ (house_step ok x)
theorem runH_more : ∀ (l : List Ge09.Call) (h : House) (x : Ge09.Call), runH h (l ++ [x]) = (step (runH h l) x).1
  | [], _, _ => rfl
  | y :: r, h, x => runH_more r (step h y).1 x
theorem run_app : ∀ (l m : List Ge09.Call) (h : House), run h (l ++ m) = run h l ++ run (runH h l) m
  | [], m, h => rfl
  | y :: r, m, h => by
    show _ ++ run _ (r ++ m) = (_ ++ run _ r) ++ _
    rw [run_app r m, List.append_assoc]
    rfl
theorem run_more (l : List Ge09.Call) (h : House) (x : Ge09.Call) : run h (l ++ [x]) = run h l ++ (((step (runH h l) x).2.length : Int) :: (step (runH h l) x).2) := by
  rw [run_app]
  show _ ++ (_ ++ run _ []) = _
  rw [show run (step (runH h l) x).1 [] = [] from rfl, List.append_nil]
def Nn (z : Int) : Prop := 0 ≤ z ∧ z ≤ 4294967295
theorem nat_of {z : Int} (h : Nn z) : Ge09Neutral.nat z = true := by
  unfold Ge09Neutral.nat
  rw [decide_eq_true h.1, decide_eq_true (show z < 2 ^ 32 by have := h.2; omega)]
  rfl
theorem back {z : Int} (h : Nn z) : ((z.toNat : Nat) : Int) = z := Int.toNat_of_nonneg h.1
theorem within_of {z : Int} (h : PyInside.within 0 4294967295 z = true) : Nn z := by
  unfold PyInside.within at h
  rw [Bool.and_eq_true] at h
  exact ⟨of_decide_eq_true h.1, of_decide_eq_true h.2⟩
theorem ints_back : ∀ {l : List Int}, (∀ z ∈ l, Nn z) → Ge09.ints (l.map Int.toNat) = l
  | [], _ => rfl
  | z :: l, h => by
    show ((z.toNat : Nat) : Int) :: Ge09.ints (l.map Int.toNat) = _
    rw [back (h z List.mem_cons_self), ints_back fun y hy => h y (List.mem_cons_of_mem _ hy)]
theorem step_of {s : House} {l : List Int} {x : Ge09.Call} (h : ∀ z ∈ l, Nn z) (e : Ge09Neutral.callIn (l.map Int.toNat) = some x) : Ge09Neutral.step s l = step s x := by
  have ha : l.all Ge09Neutral.nat = true := List.all_eq_true.mpr fun z hz => nat_of (h z hz)
  unfold Ge09Neutral.step Ge09Neutral.callOf
  rw [ha, if_neg (by decide), e]
theorem raw_call {c : List (List Int)} (ok : PyFlat.okCall PyGe09.shape c) (b : PyInside.call PyGe09.bound c = true) :
    ∃ x, PyFlat.put1 c = enc x ∧ RowOk x ∧ ∀ s, Ge09Neutral.step s ((PyGe09.whole c).headD []) = step s x := by
  obtain ⟨p, a, xs, rfl, hs⟩ := ok
  have zero : Nn 0 := ⟨by decide, by decide⟩
  have none : ∀ {n k : Nat}, some (n, k) = some (a.length, xs.length) → a.length = n ∧ xs.length = k := fun e => by
    have := Option.some.inj e
    injection this with e1 e2
    exact ⟨e1.symm, e2.symm⟩
  unfold PyGe09.shape at hs
  by_cases h0 : p = 0
  · subst h0
    obtain ⟨e1, e2⟩ := none hs
    match a, e1, xs, e2 with
    | [u, v], _, [], _ =>
      have b' : (PyInside.within 0 4294967295 u && (PyInside.within 0 4294967295 v && true) && true) = true := b
      simp only [Bool.and_true, Bool.and_eq_true] at b'
      have hu := within_of b'.1
      have hv := within_of b'.2
      refine ⟨.begins u.toNat v.toNat, ?_, trivial, fun s => step_of (l := [0, u, v]) ?_ rfl⟩
      · show [0, u, v] = [0, ((u.toNat : Nat) : Int), ((v.toNat : Nat) : Int)]
        rw [back hu, back hv]
      · intro z hz
        simp only [List.mem_cons, List.not_mem_nil, or_false] at hz
        rcases hz with q | q | q <;> subst q <;> assumption
  rw [if_neg h0] at hs
  by_cases h1 : p = 1
  · subst h1
    obtain ⟨e1, e2⟩ := none hs
    match a, e1, xs, e2 with
    | [], _, [r], _ =>
      have b' : (true && (decide (0 ≤ r.length) && decide (r.length ≤ 12) && r.all (PyInside.within 0 4294967295) && true)) = true := b
      simp only [Bool.and_true, Bool.true_and, Bool.and_eq_true, List.all_eq_true, decide_eq_true_eq] at b'
      have hr : ∀ z ∈ r, Nn z := fun z hz => within_of (b'.2 z hz)
      refine ⟨.press (r.map Int.toNat), ?_, ?_, fun s => step_of (l := 1 :: r) ?_ rfl⟩
      · show [1] ++ (((r.length : Int) :: r) ++ []) = 1 :: ((r.map Int.toNat).length : Int) :: Ge09.ints (r.map Int.toNat)
        rw [ints_back hr, List.length_map, List.append_nil]
        rfl
      · show (r.map Int.toNat).length ≤ 12
        rw [List.length_map]
        exact b'.1.2
      · intro z hz
        rcases List.mem_cons.mp hz with q | q
        · subst q; exact ⟨by decide, by decide⟩
        · exact hr z q
  rw [if_neg h1] at hs
  by_cases h2 : p = 2
  · subst h2
    obtain ⟨e1, e2⟩ := none hs
    match a, e1, xs, e2 with
    | [u], _, [r], _ =>
      have b' : ((PyInside.within 0 4294967295 u && true) && (decide (0 ≤ r.length) && decide (r.length ≤ 12) && r.all (PyInside.within 0 4294967295) && true)) = true := b
      simp only [Bool.and_true, Bool.true_and, Bool.and_eq_true, List.all_eq_true, decide_eq_true_eq] at b'
      have hu := within_of b'.1
      have hr : ∀ z ∈ r, Nn z := fun z hz => within_of (b'.2.2 z hz)
      refine ⟨.hold u.toNat (r.map Int.toNat), ?_, ?_, fun s => step_of (l := 2 :: u :: r) ?_ rfl⟩
      · show [2, u] ++ (((r.length : Int) :: r) ++ []) = 2 :: ((u.toNat : Nat) : Int) :: ((r.map Int.toNat).length : Int) :: Ge09.ints (r.map Int.toNat)
        rw [ints_back hr, List.length_map, List.append_nil, back hu]
        rfl
      · show (r.map Int.toNat).length ≤ 12
        rw [List.length_map]
        exact b'.2.1.2
      · intro z hz
        rcases List.mem_cons.mp hz with q | q
        · subst q; exact ⟨by decide, by decide⟩
        · rcases List.mem_cons.mp q with q | q
          · subst q; exact hu
          · exact hr z q
  rw [if_neg h2] at hs
  by_cases h3 : p = 3
  · subst h3
    obtain ⟨e1, e2⟩ := none hs
    match a, e1, xs, e2 with
    | [u], _, [], _ =>
      have b' : (PyInside.within 0 4294967295 u && true && true) = true := b
      simp only [Bool.and_true] at b'
      have hu := within_of b'
      refine ⟨.seek u.toNat, ?_, trivial, fun s => step_of (l := [3, u]) ?_ rfl⟩
      · show [3, u] = [3, ((u.toNat : Nat) : Int)]
        rw [back hu]
      · intro z hz
        simp only [List.mem_cons, List.not_mem_nil, or_false] at hz
        rcases hz with q | q <;> subst q
        · exact ⟨by decide, by decide⟩
        · exact hu
  rw [if_neg h3] at hs
  by_cases h4 : p = 4
  · subst h4
    obtain ⟨e1, e2⟩ := none hs
    match a, e1, xs, e2 with
    | [u], _, [], _ =>
      have b' : (PyInside.within 0 4294967295 u && true && true) = true := b
      simp only [Bool.and_true] at b'
      have hu := within_of b'
      refine ⟨.cut u.toNat, ?_, trivial, fun s => step_of (l := [4, u]) ?_ rfl⟩
      · show [4, u] = [4, ((u.toNat : Nat) : Int)]
        rw [back hu]
      · intro z hz
        simp only [List.mem_cons, List.not_mem_nil, or_false] at hz
        rcases hz with q | q <;> subst q
        · exact ⟨by decide, by decide⟩
        · exact hu
  rw [if_neg h4] at hs
  by_cases h5 : p = 5
  · subst h5
    obtain ⟨e1, e2⟩ := none hs
    match a, e1, xs, e2 with
    | [], _, [], _ => exact ⟨.putBy, rfl, trivial, fun s => step_of (l := [5]) (fun z hz => by rw [List.mem_singleton.mp hz]; exact ⟨by decide, by decide⟩) rfl⟩
  rw [if_neg h5] at hs
  by_cases h6 : p = 6
  · subst h6
    obtain ⟨e1, e2⟩ := none hs
    match a, e1, xs, e2 with
    | [], _, [], _ => exact ⟨.swap, rfl, trivial, fun s => step_of (l := [6]) (fun z hz => by rw [List.mem_singleton.mp hz]; exact ⟨by decide, by decide⟩) rfl⟩
  rw [if_neg h6] at hs
  by_cases h7 : p = 7
  · subst h7
    obtain ⟨e1, e2⟩ := none hs
    match a, e1, xs, e2 with
    | [], _, [], _ => exact ⟨.differ, rfl, trivial, fun s => step_of (l := [7]) (fun z hz => by rw [List.mem_singleton.mp hz]; exact ⟨by decide, by decide⟩) rfl⟩
  rw [if_neg h7] at hs
  by_cases h8 : p = 8
  · subst h8
    obtain ⟨e1, e2⟩ := none hs
    match a, e1, xs, e2 with
    | [], _, [], _ => exact ⟨.kept, rfl, trivial, fun s => step_of (l := [8]) (fun z hz => by rw [List.mem_singleton.mp hz]; exact ⟨by decide, by decide⟩) rfl⟩
  rw [if_neg h8] at hs
  by_cases h9 : p = 9
  · subst h9
    obtain ⟨e1, e2⟩ := none hs
    match a, e1, xs, e2 with
    | [u], _, [], _ =>
      have b' : (PyInside.within 0 4294967295 u && true && true) = true := b
      simp only [Bool.and_true] at b'
      have hu := within_of b'
      refine ⟨.sumAt u.toNat, ?_, trivial, fun s => step_of (l := [9, u]) ?_ rfl⟩
      · show [9, u] = [9, ((u.toNat : Nat) : Int)]
        rw [back hu]
      · intro z hz
        simp only [List.mem_cons, List.not_mem_nil, or_false] at hz
        rcases hz with q | q <;> subst q
        · exact ⟨by decide, by decide⟩
        · exact hu
  rw [if_neg h9] at hs
  by_cases h10 : p = 10
  · subst h10
    obtain ⟨e1, e2⟩ := none hs
    match a, e1, xs, e2 with
    | [u, v], _, [], _ =>
      have b' : (PyInside.within 0 4294967295 u && (PyInside.within 0 4294967295 v && true) && true) = true := b
      simp only [Bool.and_true, Bool.and_eq_true] at b'
      have hu := within_of b'.1
      have hv := within_of b'.2
      refine ⟨.keys u.toNat v.toNat, ?_, trivial, fun s => step_of (l := [10, u, v]) ?_ rfl⟩
      · show [10, u, v] = [10, ((u.toNat : Nat) : Int), ((v.toNat : Nat) : Int)]
        rw [back hu, back hv]
      · intro z hz
        simp only [List.mem_cons, List.not_mem_nil, or_false] at hz
        rcases hz with q | q | q <;> subst q
        · exact ⟨by decide, by decide⟩
        · exact hu
        · exact hv
  rw [if_neg h10] at hs
  by_cases h11 : p = 11
  · subst h11
    obtain ⟨e1, e2⟩ := none hs
    match a, e1, xs, e2 with
    | [u, v, t], _, [], _ =>
      have b' : (PyInside.within 0 4294967295 u && (PyInside.within 0 4294967295 v && (PyInside.within 0 4294967295 t && true)) && true) = true := b
      simp only [Bool.and_true, Bool.and_eq_true] at b'
      have hu := within_of b'.1
      have hv := within_of b'.2.1
      have ht := within_of b'.2.2
      refine ⟨.spoil u.toNat v.toNat t.toNat, ?_, trivial, fun s => step_of (l := [11, u, v, t]) ?_ rfl⟩
      · show [11, u, v, t] = [11, ((u.toNat : Nat) : Int), ((v.toNat : Nat) : Int), ((t.toNat : Nat) : Int)]
        rw [back hu, back hv, back ht]
      · intro z hz
        simp only [List.mem_cons, List.not_mem_nil, or_false] at hz
        rcases hz with q | q | q | q <;> subst q
        · exact ⟨by decide, by decide⟩
        · exact hu
        · exact hv
        · exact ht
  rw [if_neg h11] at hs
  cases hs
theorem raw_all : ∀ (raw : List (List (List Int))), (∀ c ∈ raw, PyFlat.okCall PyGe09.shape c) → raw.all (PyInside.call PyGe09.bound) = true →
    ∃ xs : List Ge09.Call, PyFlat.put raw = xs.flatMap enc ∧ (∀ x ∈ xs, RowOk x) ∧ xs.length = raw.length ∧
      ∀ s, PyFlat.told (PyFlat.played (fun s c => Ge09Neutral.step s (c.headD [])) s (raw.map PyGe09.whole)) = run s xs
  | [], _, _ => ⟨[], rfl, (fun x hx => by cases hx), rfl, fun s => rfl⟩
  | c :: raw, ok, b => by
    rw [List.all_cons, Bool.and_eq_true] at b
    obtain ⟨x, e1, e2, e3⟩ := raw_call (ok c List.mem_cons_self) b.1
    obtain ⟨xs, f1, f2, f3, f4⟩ := raw_all raw (fun d hd => ok d (List.mem_cons_of_mem _ hd)) b.2
    refine ⟨x :: xs, ?_, ?_, by simp [f3], fun s => ?_⟩
    · show PyFlat.put1 c ++ PyFlat.put raw = _
      rw [e1, f1]
      rfl
    · intro y hy
      rcases List.mem_cons.mp hy with q | q
      · subst q; exact e2
      · exact f2 y q
    · have h := e3 s
      show (((Ge09Neutral.step s ((PyGe09.whole c).headD [])).2.length : Int) :: (Ge09Neutral.step s ((PyGe09.whole c).headD [])).2) ++ PyFlat.told (PyFlat.played _ (Ge09Neutral.step s ((PyGe09.whole c).headD [])).1 (raw.map PyGe09.whole)) = _
      rw [h, f4]
      rfl
theorem asked_calls {l : List Int} (h : PyGe09.answers_asked l = true) :
    ∃ xs : List Ge09.Call, l = xs.flatMap enc ∧ (∀ x ∈ xs, RowOk x) ∧ PyGe09.answers l = run Ge09.init xs ∧ (run Ge09.init xs).length ≤ 10000000 := by
  unfold PyGe09.answers_asked at h
  cases e : PyFlat.calls PyGe09.shape l.length l with
  | none => rw [e] at h; cases h
  | some raw =>
    rw [e] at h
    simp only [Bool.and_eq_true] at h
    obtain ⟨hl, ok⟩ := PyFlat.put_calls _ _ _ e
    obtain ⟨xs, f1, f2, f3, f4⟩ := raw_all raw ok h.1.1.2
    have ea : PyGe09.answers l = run Ge09.init xs := by
      unfold PyGe09.answers PyGe09.calls
      rw [e]
      exact f4 Ge09Neutral.start
    refine ⟨xs, hl.trans f1, f2, ea, ?_⟩
    rw [← ea]
    exact of_decide_eq_true h.2
end PaM

set_option Elab.async false
set_option linter.all false
set_option maxRecDepth 100000
set_option maxHeartbeats 2000000
namespace PySem
open Sem (wp)
set_option maxHeartbeats 1000000 in
theorem pa_meets_enum {v : Value} {o : Obj} {H : Heap → Prop} (B : Begins v o H) :
    Meets (Builtin.«enumerate.__new__» ⟨[.type "enumerate", v], []⟩) (fun _ R s => H s.heap ∧
      R (.ok (.ret (.ref (s.heap.push o).objs.size))) { s with heap := (s.heap.push o).push { cls := .type "enumerate", data := .fields #[.none, .bool false, .ref s.heap.objs.size, rawInt 0, .none, .none] } }) :=
  .of_wp fun prog w A R s h => by
    obtain ⟨hp, g, d, tk, os⟩ := s; obtain ⟨h1, h⟩ := h
    have hsub := sub_enumerate
    have q1 : ∀ {A' : Around} {E : Value → Shared → Prop} {Q : Value → Shared → Prop}, Q (.ref hp.objs.size) ⟨hp.push o, g, d, tk, os⟩ → wpAny (model prog w) A' (pyIter v) Q E ⟨hp, g, d, tk, os⟩ :=
      fun q => B.iter prog w _ _ ⟨hp, g, d, tk, os⟩ _ h1 q
    wp_walk using q1
    refine wpAny_stack_any fun st => wpAny_pure ?_
    split
    · rename_i c _ _ _ _ _
      cases (c == Value.type "enumerate")
      · wp_walk using q1
        exact ⟨_, rfl, h⟩
      · wp_walk using q1
        exact ⟨_, rfl, h⟩
    · wp_walk using q1
      exact ⟨_, rfl, h⟩
section
variable {prog : Program} {w : World} {A : Around} {E : Value → Shared → Prop} {s : Shared}
theorem pa_enum_begins {v : Value} {o : Obj} {H : Heap → Prop} {Q : Value → Shared → Prop} (B : Begins v o H) (h1 : H s.heap)
    (h : ∀ h', IsEnum h' (s.heap.objs.size + 1) s.heap.objs.size 0 .none → h'.get? s.heap.objs.size = some o → h'.objs.size = s.heap.objs.size + 2 →
      (∀ b o, s.heap.get? b = some o → h'.get? b = some o) → Q (.ref (s.heap.objs.size + 1)) { s with heap := h' }) :
    wpAny (model prog w) A (call (.type "enumerate") [v]) Q E s := by
  refine callType_new F.called_enumerate (by decide) (F.typeCall_enumerate_1 _) (F.newCall_enumerate_1 _) (fun obj => F.args_object_init_2 obj _) F.entry_enumerate_new
    (pa_meets_enum B) ⟨h1, ?_⟩
  have hz : (s.heap.push o).objs.size = s.heap.objs.size + 1 := Heap.size_push ..
  show _ ∧ _
  rw [hz]
  have he : IsEnum ((s.heap.push o).push { cls := .type "enumerate", data := .fields #[.none, .bool false, .ref s.heap.objs.size, rawInt 0, .none, .none] }) (s.heap.objs.size + 1) s.heap.objs.size 0 .none := by
    have := Heap.get?_push_size (s.heap.push o) (o := { cls := .type "enumerate", data := .fields #[.none, .bool false, .ref s.heap.objs.size, rawInt 0, .none, .none] }) rfl
    rw [hz] at this; exact this
  refine ⟨⟨_, he, rfl⟩, h _ he (Heap.get?_push_of_some _ (Heap.get?_push_size _ B.free)) (by rw [Heap.size_push, hz]) fun b o x => Heap.get?_push_of_some _ (Heap.get?_push_of_some _ x)⟩
end
end PySem
namespace L2
open PySem PySem.Spec PyProof.Rows
/-- enumerate of a tuple: each item in a new pair -/
def IteT (K : PySem.W.Frag) (a : Addr) : It :=
  ⟨fun i H => ∃ (xs : List V) (x : V), SqT K H a xs ∧ xs[i]? = some x, fun i H v H' => ∃ T x, v = .ref T ∧ H T = none ∧ H' = upd H T (.tup [.int (i : Nat), x]) ∧ ∀ xs, SqT K H a xs → xs[i]? = some x, fun i H => ∃ xs : List V, SqT K H a xs ∧ xs.length ≤ i⟩
/-- an enumerate, its iterator and the tuple are three things: their classes differ -/
theorem pa_three {h : Heap} {en ti tu : Addr} {j : Nat} {c : Int} {last : Value} {vs : Array Value} (p : IsEnum h en ti c last) (q : h.IsTupleIter ti tu j) (r : h.IsTuple tu vs) : tu ≠ ti ∧ en ≠ tu := by
  obtain ⟨o1, g1, c1, _⟩ := q
  obtain ⟨o2, g2, c2, _⟩ := r
  have g3 : h.get? en = some { cls := .type "enumerate", data := .fields #[.none, .bool false, .ref ti, rawInt c, .none, last] } := p
  refine ⟨fun z => ?_, fun z => ?_⟩
  · subst z
    rw [Option.some.inj (g2.symm.trans g1), c1] at c2
    injection c2 with c2
    exact absurd c2 (by decide)
  · subst z
    rw [Option.some.inj (g2.symm.trans g3)] at c2
    injection c2 with c2
    exact absurd c2 (by decide)
/-- past the tuple's end enumerate ends -/
theorem pa_done {X : Cx} {pins : List (Addr × Obj)} {σ : St} {H : Hp} {s : Shared} {en ti tu : Addr} {j : Nat} {last : Value} {vs : Array Value} {Q : Option Value → Shared → Prop} {E : Value → Shared → Prop} (I : Inv X pins σ H s) (calm : X.calm = true)
    (p : IsEnum s.heap en ti ((j : Nat) : Int) last) (ne : en ≠ ti) (q : s.heap.IsTupleIter ti tu j) (r : s.heap.IsTuple tu vs) (past : vs.size ≤ j) (k : ∀ h1, Heap.ExtBut ti s.heap h1 → Q none { s with heap := h1 }) :
    wpAny (model X.prog X.w) X.A (pyNext (.ref en)) Q E s := by
  have kind : s.TypeIs (.ref en) "enumerate" := ⟨_, p, rfl⟩
  unfold pyNext
  refine wpAny_bind (wpAny_attempt (wpAny_callSpecial?_slot (name := Str.ofString "__next__") kind F.slot_enumerate_next (wpAny_call_entry F.slot_enumerate_next kind F.entry_enumerate_next ?_ (F.args_enumerate_next_1 _))))
  show wpAny _ _ (field (.ref en) 2 >>= _) _ _ _
  refine wpAny_bind (wpAny_field p rfl (x := .ref ti) rfl ?_)
  refine wpAny_bind (wpAny_nextOf_tuple_end (show X.A.in1.handled = none from I.ok.hd calm) q r (Array.getElem?_eq_none past) fun h1 err ext stop => ?_)
  exact wpAny_bind (wpAny_isInstance (T := "StopIteration") (b := true) stop isSubtype_stop (wpAny_pure (k h1 ext)))
theorem turn_enumT {P : Program} {w : World} {K : PySem.W.Frag} {elts : List Expr} {kk : Nat} {tpos : Pos} (tu en ti : Addr) :
    Turn P w K (.Tuple elts kk tpos) (IteT K tu) [en, ti] en (fun j h => (∃ last, IsEnum h en ti ((j : Nat) : Int) last) ∧ h.IsTupleIter ti tu j ∧ en ≠ ti) where
  mem := List.mem_cons_self
  obj := fun j h st b hb => by
    obtain ⟨⟨last, p⟩, ⟨o, g, _, f⟩, _⟩ := st
    rcases List.mem_cons.mp hb with z | z
    · subst z
      exact ⟨_, p, fun v y => by cases y⟩
    · rw [List.mem_singleton.mp z]
      exact ⟨o, g, fun v y => by rw [f] at y; cases y⟩
  keep := fun j h h' st k => by
    obtain ⟨⟨last, p⟩, q, ne⟩ := st
    exact ⟨⟨last, k en List.mem_cons_self _ p⟩, q.at fun o g => k ti (List.mem_cons_of_mem _ List.mem_cons_self) o g, ne⟩
  item := by
    intro X e1 e2 e3 calm j pins s σ H E I free st go
    subst e1 e2 e3
    obtain ⟨⟨last, p⟩, q, ne⟩ := st
    obtain ⟨xs, x, at_, hx⟩ := go
    obtain ⟨its, vals, tup, _⟩ := I.tuple at_
    obtain ⟨u, gu, ru⟩ := vals.get hx
    have W := WalksT.enumerateD (prog := X.prog) (w := X.w) (A := X.A) (Draws.tuple (show X.A.in1.handled = none from I.ok.hd calm) ti tu (pa_three p q tup).1 its.toArray) en ne (fun z => (List.mem_cons.mp z).elim ne fun y => (pa_three p q tup).2 (List.mem_singleton.mp y)) List.mem_cons_self
    have small : j < its.toArray.size := by
      rw [List.size_toArray]
      exact (List.getElem?_eq_some_iff.mp gu).1
    refine W.item j s _ _ small ⟨⟨last, p⟩, q, tup⟩ fun N row h1 tk told new here mid k1 => ⟨_, rfl, W.go elts kk tpos j N { s with heap := h1, toks := tk } _ _ mid fun h2 st2 k2 => ?_⟩
    obtain ⟨t, y, hy, rfl⟩ := told
    have ey : y = u := by
      rw [List.getElem?_toArray] at hy
      exact Option.some.inj (hy.symm.trans gu)
    subst ey
    have notIn := W.apart j N h1 mid
    obtain ⟨oN, gN, cN, nN, dN⟩ := here
    have fresh : H N = none := I.hok.fresh new
    have made : ObjOk X.prog X.w (upd H N (.tup [.int (j : Nat), x])) h2 N (.tup [.int (j : Nat), x]) :=
      ⟨(by decide : 2 ≤ sizeLine), [_, _], Paired.cons ⟨_, rfl⟩ (Paired.cons ru Paired.nil), oN, k2 N oN notIn gN, cN, nN, dN⟩
    have J := I.turnedNew (t' := tk) (ch := [en, ti]) (fun b o out g => k2 b o out (k1 b o out g)) free new made
    refine ⟨.ref N, _, J, rfl, ⟨N, x, rfl, fresh, rfl, fun ys other => by rw [I.tuple_inj other at_]; exact hx⟩, ⟨st2.1, st2.2.1, ne⟩, fun b hb => ?_⟩
    have off : b ≠ N := fun z => notIn (by rw [← z]; exact hb)
    rw [upd_ne off]
    exact (free b hb).1
  done := by
    intro X e1 e2 e3 calm j pins s σ H E I free st stop
    subst e1 e2 e3
    obtain ⟨⟨last, p⟩, q, ne⟩ := st
    obtain ⟨xs, at_, past⟩ := stop
    obtain ⟨its, vals, tup, _⟩ := I.tuple at_
    have sz := vals.length
    refine pa_done I calm p ne q tup (by rw [List.size_toArray]; omega) fun h1 k1 => ⟨rfl, I.turnedL (t' := s.toks) (ch := [en, ti]) (fun b o out g => k1 b o (fun z => out (by simp [z])) g) free⟩
  self := fun A j s Q E st h => wpAny_pyIter_enum st.1.choose_spec h
/-- enumerate of a list or a tuple -/
def iEnumS (K : PySem.W.Frag) (ta : TA) : TI := fun σ H R => ta σ H fun vs H1 => ∃ a xs, vs = [.ref a] ∧ ((SqL K H1 a xs ∧ R (Ite K a) H1) ∨ (SqT K H1 a xs ∧ R (IteT K a) H1))
theorem pi_enumS {X : Cx} {e : Expr} {ta : TA} {p pos tpos : Pos} {elts : List Expr} {kk : Nat} (hg : Gl X "enumerate") (hm : X.mg "enumerate" = none) (ha : PA X [e] ta) (hs : starEach [e] X.env = [(false, eval e X.env)] := by rfl) :
    PI X (.Tuple elts kk tpos) (.Call (.Name "enumerate" p) [e] [] pos) (iEnumS X.K ta) := by
  refine ⟨fun pins s σ H R I h => ?_⟩
  refine Call_ (ld_blt I hg hm boot_enumerate (PyProof.Rows.callWith_type1 (thn (ha.run pos pins s σ H _ I h) fun us s1 ⟨vs, H1, I1, r1, q1⟩ => ?_) hs rfl))
  obtain ⟨a, xs, ex, q1⟩ := q1
  subst ex
  cases r1 with
  | cons r rr =>
    cases rr
    cases r
    have fin : ∀ b, b = s1.heap.objs.size + 1 ∨ b = s1.heap.objs.size → s1.heap.objs.size ≤ b := fun b hb => by
      rcases hb with z | z
      · rw [z]; exact Nat.le_add_right _ _
      · rw [z]; exact Nat.le_refl _
    rcases q1 with ⟨hq, q⟩ | ⟨hq, q⟩
    · obtain ⟨its, rv, p', hz⟩ := I1.list hq
      refine call_enumerate_list p'.isList fun h' he hit hsz hk => wpAny_pyIter_enum he ?_
      have I2 : Inv X pins σ H1 { s1 with heap := h' } := I1.kept (t' := s1.toks) hk
      refine ⟨s1.heap.objs.size + 1, [s1.heap.objs.size + 1, s1.heap.objs.size], _, _, H1, rfl, I2, turn_enum a (s1.heap.objs.size + 1) s1.heap.objs.size, ⟨⟨.none, he⟩, hit, Nat.succ_ne_self _⟩, fun b hb => ?_, q⟩
      have hle := fin b (by simpa using hb)
      exact I1.fpOk hle (I1.hok.fresh hle)
    · obtain ⟨its, rv, p', hz⟩ := I1.tuple hq
      refine pa_enum_begins (begins_tuple a its.toArray) p' fun h' he hit hsz hk => wpAny_pyIter_enum he ?_
      have I2 : Inv X pins σ H1 { s1 with heap := h' } := I1.kept (t' := s1.toks) hk
      refine ⟨s1.heap.objs.size + 1, [s1.heap.objs.size + 1, s1.heap.objs.size], _, _, H1, rfl, I2, turn_enumT a (s1.heap.objs.size + 1) s1.heap.objs.size, ⟨⟨.none, he⟩, ⟨_, hit, rfl, rfl⟩, Nat.succ_ne_self _⟩, fun b hb => ?_, q⟩
      have hle := fin b (by simpa using hb)
      exact I1.fpOk hle (I1.hok.fresh hle)
theorem walk_enumT {K : PySem.W.Frag} {a : Addr} {xs : List V} : Walk (IteT K a) xs.length (fun H => SqT K H a xs) (YPair (fun i => some (.int (i : Nat))) (fun i => xs[i]?)) where
  goes := fun i H hi q => ⟨xs, xs[i], q, List.getElem?_eq_getElem hi⟩
  stops := fun H q => ⟨xs, q, Nat.le_refl _⟩
  yields := fun i H v H' _ q ⟨N, x, e1, e2, e3, e4⟩ => ⟨N, _, x, e1, e2, e3, rfl, e4 xs q⟩
end L2

set_option Elab.async false
set_option linter.all false
set_option maxRecDepth 100000
set_option maxHeartbeats 2000000
namespace PySem
open Sem (wp)
/-- a list goes on by the items of a tuple, whatever else the tuple bears -/
theorem pa_meets_extend (l b : Addr) (xs ys : Array Value) (n m : Nat) (dt : Option Addr) (sl : Array (Option Value))
    (h0 : ¬ (!xs.isEmpty && Builtin.List.listTooLong (xs.size + ys.size)) = true) (h1 : xs.size ≤ sizeLine) (h2 : xs.size + ys.size ≤ sizeLine + 1) :
    Meets (Builtin.«list.extend» ⟨[.ref l, .ref b], []⟩) (fun _ R s => s.heap.get? l = some { cls := .type "list", data := .seq xs n } ∧ s.heap.get? b = some { cls := .type "tuple", dict := dt, data := .seq ys m, slots := sl } ∧
      R (.ok (.ret Value.none)) { s with heap := s.heap.update l (Obj.mapSeq fun x => x ++ ys) }) :=
  .of_wp fun prog w A R s h => by
    obtain ⟨hp, g, d, tk, os⟩ := s
    obtain ⟨hl, hb, h⟩ := h
    have t1 := AutoSeq1.idx_int
    have t2 := AutoSeq1.sub_tuple_tuple
    have t3 := AutoSeq1.sub_list_list
    have t4 := AutoSeq1.sub_tuple_list
    have t5 := AutoSeq1.sub_list_tuple
    have hz : (xs ++ ys).size ≤ sizeLine + 1 := by
      rw [Array.size_append]
      exact h2
    wp_walk using (wpAny_updateSeq hl rfl (hz := h1) (_hz' := hz)), AutoSeq1.wpAny_loadPart' hl, AutoSeq1.wpAny_loadPart' hb
    exact ⟨_, rfl, h⟩
end PySem
namespace L2
open PySem PySem.Spec PyProof.Rows
variable {X : Cx}
def rExtT : V → List V → Hp → VK → Prop := fun x vs H Q => ∃ l b xs zs, x = .ref l ∧ vs = [.ref b] ∧ H l = some (.lst xs) ∧ H b = some (.tup zs) ∧ xs.length + zs.length ≤ sizeLine ∧ Q .non (upd H l (.lst (xs ++ zs)))
theorem mt_extT : MtM X "list.extend" rExtT := by
  intro pins s σ H x vs v us Q I rx rv h
  obtain ⟨l, b, xs, zs, rfl, rfl, hH, hB, hz, q⟩ := h
  cases rx
  obtain ⟨u, rfl, ru⟩ := rv.one
  cases ru
  obtain ⟨z, its, n, r, hl, e⟩ := I.lstM hH
  obtain ⟨its2, r2, ⟨⟨oc, od, oe, os⟩, e2, hc, n2, hd⟩, z2⟩ := I.tuple (SqT.of hB)
  have hl2 := r2.length
  simp only at hc hd
  subst hc hd
  have hs : its.toArray.size + its2.toArray.size ≤ sizeLine := by
    rw [List.size_toArray, List.size_toArray]
    omega
  have hlong : ¬ (!its.toArray.isEmpty && Builtin.List.listTooLong (its.toArray.size + its2.toArray.size)) = true := by
    rw [notLongL hs, Bool.and_false]
    decide
  refine call_meets F.slot_list_extend ⟨_, e, rfl⟩ F.entry_list_extend (F.args_list_extend_2 _ _)
    (pa_meets_extend l b its.toArray its2.toArray n n2 od os hlong (by rw [List.size_toArray]; omega) (by omega)) ⟨e, e2, .non, _, I.lset (its' := its ++ its2) hH e (by simp) (r.append r2) ?_, rfl, q⟩
  rw [List.length_append]
  exact hz
end L2

set_option Elab.async false
set_option linter.all false
set_option maxRecDepth 100000
set_option maxHeartbeats 2000000
namespace Pa
open PySem PySem.Spec PyProof.Rows L2
/-! ### the text by its places -/
def top (i : Nat) : Stmt := PySem.Challenge.pw_playedagain_s01_answers.main.body.getD i (.Pass ⟨0, 0, 0, 0⟩)
abbrev s_Player_init : Stmt := inClass (top 7) 0
abbrev s_World_init : Stmt := inClass (top 8) 0
abbrev s_first_world : Stmt := top 9
abbrev s_next_luck : Stmt := top 10
abbrev s_column_or_row : Stmt := top 11
abbrev s_is_key : Stmt := top 12
abbrev s_place_ahead : Stmt := top 13
abbrev s_with_player : Stmt := top 14
abbrev s_after_key : Stmt := top 15
abbrev s_after_tick : Stmt := top 16
abbrev s_world_numbers : Stmt := top 17
abbrev s_numbers_with_luck : Stmt := top 18
abbrev s_are_alike : Stmt := top 19
abbrev s_world_sum : Stmt := top 20
abbrev s_State_init : Stmt := inClass (top 24) 0
abbrev s_which_state_goes : Stmt := top 25
abbrev s_Recording_init : Stmt := inClass (top 26) 0
abbrev s_Recording_ticks : Stmt := inClass (top 26) 1
abbrev s_Recording_twin : Stmt := inClass (top 26) 2
abbrev s_Recording_state_ahead : Stmt := inClass (top 26) 3
abbrev s_Recording_world_from : Stmt := inClass (top 26) 4
abbrev s_Recording_world_at : Stmt := inClass (top 26) 5
abbrev s_Recording_all_worlds : Stmt := inClass (top 26) 6
abbrev s_Recording_record : Stmt := inClass (top 26) 7
abbrev s_Recording_keep : Stmt := inClass (top 26) 8
abbrev s_Recording_forget_behind : Stmt := inClass (top 26) 9
abbrev s_Recording_forget_states_behind : Stmt := inClass (top 26) 10
abbrev s_Recording_press_otherwise : Stmt := inClass (top 26) 11
abbrev s_are_keys_of : Stmt := top 34
abbrev s_Line_init : Stmt := inClass (top 35) 0
abbrev s_Line_begins : Stmt := inClass (top 35) 1
abbrev s_Line_press : Stmt := inClass (top 35) 2
abbrev s_Line_hold : Stmt := inClass (top 35) 3
abbrev s_Line_seek : Stmt := inClass (top 35) 4
abbrev s_Line_cut : Stmt := inClass (top 35) 5
abbrev s_Line_put_by : Stmt := inClass (top 35) 6
abbrev s_Line_swap : Stmt := inClass (top 35) 7
abbrev s_Line_differ : Stmt := inClass (top 35) 8
abbrev s_Line_kept : Stmt := inClass (top 35) 9
abbrev s_Line_sum_at : Stmt := inClass (top 35) 10
abbrev s_Line_keys_behind : Stmt := inClass (top 35) 11
abbrev s_Line_spoil : Stmt := inClass (top 35) 12
abbrev s_Reader_init : Stmt := inClass (top 49) 0
abbrev s_Reader_has_more : Stmt := inClass (top 49) 1
abbrev s_Reader_number : Stmt := inClass (top 49) 2
abbrev s_Reader_row : Stmt := inClass (top 49) 3
abbrev s_answer_change : Stmt := top 51
abbrev s_answer_next : Stmt := top 52
abbrev s_answers : Stmt := top 53
/-- slots: 0 self 1 place 2 points; level 1 -/
theorem sc_Player_init : FnScope ["self", "place", "points"] ["self", "place", "points"] (defScope s_Player_init) := ⟨rfl, rfl, rfl, by decide +kernel, rfl, by decide +kernel, by decide +kernel⟩
/-- slots: 0 self 1 players 2 coin 3 luck; level 1 -/
theorem sc_World_init : FnScope ["self", "players", "coin", "luck"] ["self", "players", "coin", "luck"] (defScope s_World_init) := ⟨rfl, rfl, rfl, by decide +kernel, rfl, by decide +kernel, by decide +kernel⟩
/-- slots: 0 how_many 1 seed 2 players 3 i; level 3 -/
theorem sc_first_world : FnScope ["how_many", "seed", "players", "i"] ["how_many", "seed"] (defScope s_first_world) := ⟨rfl, rfl, rfl, by decide +kernel, rfl, by decide +kernel, by decide +kernel⟩
/-- slots: 0 luck; level 1 -/
theorem sc_next_luck : FnScope ["luck"] ["luck"] (defScope s_next_luck) := ⟨rfl, rfl, rfl, by decide +kernel, rfl, by decide +kernel, by decide +kernel⟩
/-- slots: 0 luck; level 1 -/
theorem sc_column_or_row : FnScope ["luck"] ["luck"] (defScope s_column_or_row) := ⟨rfl, rfl, rfl, by decide +kernel, rfl, by decide +kernel, by decide +kernel⟩
/-- slots: 0 number; level 1 -/
theorem sc_is_key : FnScope ["number"] ["number"] (defScope s_is_key) := ⟨rfl, rfl, rfl, by decide +kernel, rfl, by decide +kernel, by decide +kernel⟩
/-- slots: 0 place 1 key 2 step; level 1 -/
theorem sc_place_ahead : FnScope ["place", "key", "step"] ["place", "key"] (defScope s_place_ahead) := ⟨rfl, rfl, rfl, by decide +kernel, rfl, by decide +kernel, by decide +kernel⟩
/-- slots: 0 world 1 number 2 player; level 1 -/
theorem sc_with_player : FnScope ["world", "number", "player"] ["world", "number", "player"] (defScope s_with_player) := ⟨rfl, rfl, rfl, by decide +kernel, rfl, by decide +kernel, by decide +kernel⟩
/-- slots: 0 world 1 number 2 key 3 player 4 place 5 luck_for_x 6 luck_for_y 7 coin 8 other; level 3 -/
theorem sc_after_key : FnScope ["world", "number", "key", "player", "place", "luck_for_x", "luck_for_y", "coin", "other"] ["world", "number", "key"] (defScope s_after_key) := ⟨rfl, rfl, rfl, by decide +kernel, rfl, by decide +kernel, by decide +kernel⟩
/-- slots: 0 world 1 pressed 2 number 3 key; level 4 -/
theorem sc_after_tick : FnScope ["world", "pressed", "number", "key"] ["world", "pressed"] (defScope s_after_tick) := ⟨rfl, rfl, rfl, by decide +kernel, rfl, by decide +kernel, by decide +kernel⟩
/-- slots: 0 world 1 numbers 2 player; level 1 -/
theorem sc_world_numbers : FnScope ["world", "numbers", "player"] ["world"] (defScope s_world_numbers) := ⟨rfl, rfl, rfl, by decide +kernel, rfl, by decide +kernel, by decide +kernel⟩
/-- slots: 0 world; level 2 -/
theorem sc_numbers_with_luck : FnScope ["world"] ["world"] (defScope s_numbers_with_luck) := ⟨rfl, rfl, rfl, by decide +kernel, rfl, by decide +kernel, by decide +kernel⟩
/-- slots: 0 world 1 other; level 3 -/
theorem sc_are_alike : FnScope ["world", "other"] ["world", "other"] (defScope s_are_alike) := ⟨rfl, rfl, rfl, by decide +kernel, rfl, by decide +kernel, by decide +kernel⟩
/-- slots: 0 world 1 total 2 number; level 3 -/
theorem sc_world_sum : FnScope ["world", "total", "number"] ["world"] (defScope s_world_sum) := ⟨rfl, rfl, rfl, by decide +kernel, rfl, by decide +kernel, by decide +kernel⟩
/-- slots: 0 self 1 tick 2 world; level 1 -/
theorem sc_State_init : FnScope ["self", "tick", "world"] ["self", "tick", "world"] (defScope s_State_init) := ⟨rfl, rfl, rfl, by decide +kernel, rfl, by decide +kernel, by decide +kernel⟩
/-- slots: 0 states 1 ticks 2 apart 3 state 4 i; level 1 -/
theorem sc_which_state_goes : FnScope ["states", "ticks", "apart", "state", "i"] ["states"] (defScope s_which_state_goes) := ⟨rfl, rfl, rfl, by decide +kernel, rfl, by decide +kernel, by decide +kernel⟩
/-- slots: 0 self 1 how_many 2 seed; level 1 -/
theorem sc_Recording_init : FnScope ["self", "how_many", "seed"] ["self", "how_many", "seed"] (defScope s_Recording_init) := ⟨rfl, rfl, rfl, by decide +kernel, rfl, by decide +kernel, by decide +kernel⟩
/-- slots: 0 self; level 1 -/
theorem sc_Recording_ticks : FnScope ["self"] ["self"] (defScope s_Recording_ticks) := ⟨rfl, rfl, rfl, by decide +kernel, rfl, by decide +kernel, by decide +kernel⟩
/-- slots: 0 self 1 other; level 3 -/
theorem sc_Recording_twin : FnScope ["self", "other"] ["self"] (defScope s_Recording_twin) := ⟨rfl, rfl, rfl, by decide +kernel, rfl, by decide +kernel, by decide +kernel⟩
/-- slots: 0 self 1 tick 2 latest 3 state; level 4 -/
theorem sc_Recording_state_ahead : FnScope ["self", "tick", "latest", "state"] ["self", "tick"] (defScope s_Recording_state_ahead) := ⟨rfl, rfl, rfl, by decide +kernel, rfl, by decide +kernel, by decide +kernel⟩
/-- slots: 0 self 1 state 2 tick 3 world 4 pressed; level 5 -/
theorem sc_Recording_world_from : FnScope ["self", "state", "tick", "world", "pressed"] ["self", "state", "tick"] (defScope s_Recording_world_from) := ⟨rfl, rfl, rfl, by decide +kernel, rfl, by decide +kernel, by decide +kernel⟩
/-- slots: 0 self 1 tick; level 6 -/
theorem sc_Recording_world_at : FnScope ["self", "tick"] ["self", "tick"] (defScope s_Recording_world_at) := ⟨rfl, rfl, rfl, by decide +kernel, rfl, by decide +kernel, by decide +kernel⟩
/-- slots: 0 self 1 worlds 2 pressed; level 5 -/
theorem sc_Recording_all_worlds : FnScope ["self", "worlds", "pressed"] ["self"] (defScope s_Recording_all_worlds) := ⟨rfl, rfl, rfl, by decide +kernel, rfl, by decide +kernel, by decide +kernel⟩
/-- slots: 0 self 1 how_often 2 pressed 3 done 4 world 5 tick; level 7 -/
theorem sc_Recording_record : FnScope ["self", "how_often", "pressed", "done", "world", "tick"] ["self", "how_often", "pressed"] (defScope s_Recording_record) := ⟨rfl, rfl, rfl, by decide +kernel, rfl, by decide +kernel, by decide +kernel⟩
/-- slots: 0 self 1 state; level 2 -/
theorem sc_Recording_keep : FnScope ["self", "state"] ["self", "state"] (defScope s_Recording_keep) := ⟨rfl, rfl, rfl, by decide +kernel, rfl, by decide +kernel, by decide +kernel⟩
/-- slots: 0 self 1 tick; level 2 -/
theorem sc_Recording_forget_behind : FnScope ["self", "tick"] ["self", "tick"] (defScope s_Recording_forget_behind) := ⟨rfl, rfl, rfl, by decide +kernel, rfl, by decide +kernel, by decide +kernel⟩
/-- slots: 0 self 1 tick 2 state; level 1 -/
theorem sc_Recording_forget_states_behind : FnScope ["self", "tick", "state"] ["self", "tick"] (defScope s_Recording_forget_states_behind) := ⟨rfl, rfl, rfl, by decide +kernel, rfl, by decide +kernel, by decide +kernel⟩
/-- slots: 0 self 1 tick 2 player 3 key 4 pressed; level 2 -/
theorem sc_Recording_press_otherwise : FnScope ["self", "tick", "player", "key", "pressed"] ["self", "tick", "player", "key"] (defScope s_Recording_press_otherwise) := ⟨rfl, rfl, rfl, by decide +kernel, rfl, by decide +kernel, by decide +kernel⟩
/-- slots: 0 pressed 1 how_many 2 key; level 2 -/
theorem sc_are_keys_of : FnScope ["pressed", "how_many", "key"] ["pressed", "how_many"] (defScope s_are_keys_of) := ⟨rfl, rfl, rfl, by decide +kernel, rfl, by decide +kernel, by decide +kernel⟩
/-- slots: 0 self; level 3 -/
theorem sc_Line_init : FnScope ["self"] ["self"] (defScope s_Line_init) := ⟨rfl, rfl, rfl, by decide +kernel, rfl, by decide +kernel, by decide +kernel⟩
/-- slots: 0 self 1 players 2 seed; level 4 -/
theorem sc_Line_begins : FnScope ["self", "players", "seed"] ["self", "players", "seed"] (defScope s_Line_begins) := ⟨rfl, rfl, rfl, by decide +kernel, rfl, by decide +kernel, by decide +kernel⟩
/-- slots: 0 self 1 pressed; level 9 -/
theorem sc_Line_press : FnScope ["self", "pressed"] ["self", "pressed"] (defScope s_Line_press) := ⟨rfl, rfl, rfl, by decide +kernel, rfl, by decide +kernel, by decide +kernel⟩
/-- slots: 0 self 1 ticks 2 pressed 3 world; level 8 -/
theorem sc_Line_hold : FnScope ["self", "ticks", "pressed", "world"] ["self", "ticks", "pressed"] (defScope s_Line_hold) := ⟨rfl, rfl, rfl, by decide +kernel, rfl, by decide +kernel, by decide +kernel⟩
/-- slots: 0 self 1 tick 2 state; level 6 -/
theorem sc_Line_seek : FnScope ["self", "tick", "state"] ["self", "tick"] (defScope s_Line_seek) := ⟨rfl, rfl, rfl, by decide +kernel, rfl, by decide +kernel, by decide +kernel⟩
/-- slots: 0 self 1 tick; level 3 -/
theorem sc_Line_cut : FnScope ["self", "tick"] ["self", "tick"] (defScope s_Line_cut) := ⟨rfl, rfl, rfl, by decide +kernel, rfl, by decide +kernel, by decide +kernel⟩
/-- slots: 0 self; level 4 -/
theorem sc_Line_put_by : FnScope ["self"] ["self"] (defScope s_Line_put_by) := ⟨rfl, rfl, rfl, by decide +kernel, rfl, by decide +kernel, by decide +kernel⟩
/-- slots: 0 self 1 other; level 2 -/
theorem sc_Line_swap : FnScope ["self", "other"] ["self"] (defScope s_Line_swap) := ⟨rfl, rfl, rfl, by decide +kernel, rfl, by decide +kernel, by decide +kernel⟩
/-- slots: 0 self 1 worlds 2 others 3 tick; level 6 -/
theorem sc_Line_differ : FnScope ["self", "worlds", "others", "tick"] ["self"] (defScope s_Line_differ) := ⟨rfl, rfl, rfl, by decide +kernel, rfl, by decide +kernel, by decide +kernel⟩
/-- slots: 0 self 1 numbers 2 state; level 4 -/
theorem sc_Line_kept : FnScope ["self", "numbers", "state"] ["self"] (defScope s_Line_kept) := ⟨rfl, rfl, rfl, by decide +kernel, rfl, by decide +kernel, by decide +kernel⟩
/-- slots: 0 self 1 tick; level 7 -/
theorem sc_Line_sum_at : FnScope ["self", "tick"] ["self", "tick"] (defScope s_Line_sum_at) := ⟨rfl, rfl, rfl, by decide +kernel, rfl, by decide +kernel, by decide +kernel⟩
/-- slots: 0 self 1 tick 2 how_many 3 presses 4 numbers 5 pressed; level 2 -/
theorem sc_Line_keys_behind : FnScope ["self", "tick", "how_many", "presses", "numbers", "pressed"] ["self", "tick", "how_many"] (defScope s_Line_keys_behind) := ⟨rfl, rfl, rfl, by decide +kernel, rfl, by decide +kernel, by decide +kernel⟩
/-- slots: 0 self 1 tick 2 player 3 what; level 7 -/
theorem sc_Line_spoil : FnScope ["self", "tick", "player", "what"] ["self", "tick", "player", "what"] (defScope s_Line_spoil) := ⟨rfl, rfl, rfl, by decide +kernel, rfl, by decide +kernel, by decide +kernel⟩
/-- slots: 0 self 1 numbers; level 1 -/
theorem sc_Reader_init : FnScope ["self", "numbers"] ["self", "numbers"] (defScope s_Reader_init) := ⟨rfl, rfl, rfl, by decide +kernel, rfl, by decide +kernel, by decide +kernel⟩
/-- slots: 0 self; level 1 -/
theorem sc_Reader_has_more : FnScope ["self"] ["self"] (defScope s_Reader_has_more) := ⟨rfl, rfl, rfl, by decide +kernel, rfl, by decide +kernel, by decide +kernel⟩
/-- slots: 0 self; level 1 -/
theorem sc_Reader_number : FnScope ["self"] ["self"] (defScope s_Reader_number) := ⟨rfl, rfl, rfl, by decide +kernel, rfl, by decide +kernel, by decide +kernel⟩
/-- slots: 0 self 1 begin; level 1 -/
theorem sc_Reader_row : FnScope ["self", "begin"] ["self"] (defScope s_Reader_row) := ⟨rfl, rfl, rfl, by decide +kernel, rfl, by decide +kernel, by decide +kernel⟩
/-- slots: 0 line 1 call 2 reader 3 players 4 ticks 5 tick 6 player; level 10 -/
theorem sc_answer_change : FnScope ["line", "call", "reader", "players", "ticks", "tick", "player"] ["line", "call", "reader"] (defScope s_answer_change) := ⟨rfl, rfl, rfl, by decide +kernel, rfl, by decide +kernel, by decide +kernel⟩
/-- slots: 0 line 1 reader 2 call 3 tick; level 11 -/
theorem sc_answer_next : FnScope ["line", "reader", "call", "tick"] ["line", "reader"] (defScope s_answer_next) := ⟨rfl, rfl, rfl, by decide +kernel, rfl, by decide +kernel, by decide +kernel⟩
/-- slots: 0 calls 1 line 2 reader 3 numbers 4 answer; level 12 -/
theorem sc_answers : FnScope ["calls", "line", "reader", "numbers", "answer"] ["calls"] (defScope s_answers) := ⟨rfl, rfl, rfl, by decide +kernel, rfl, by decide +kernel, by decide +kernel⟩
structure Ad where
  c_Player : Addr
  c_World : Addr
  c_State : Addr
  c_Recording : Addr
  c_Line : Addr
  c_Reader : Addr
  f_Player_init : Addr
  f_World_init : Addr
  f_first_world : Addr
  f_next_luck : Addr
  f_column_or_row : Addr
  f_is_key : Addr
  f_place_ahead : Addr
  f_with_player : Addr
  f_after_key : Addr
  f_after_tick : Addr
  f_world_numbers : Addr
  f_numbers_with_luck : Addr
  f_are_alike : Addr
  f_world_sum : Addr
  f_State_init : Addr
  f_which_state_goes : Addr
  f_Recording_init : Addr
  f_Recording_ticks : Addr
  f_Recording_twin : Addr
  f_Recording_state_ahead : Addr
  f_Recording_world_from : Addr
  f_Recording_world_at : Addr
  f_Recording_all_worlds : Addr
  f_Recording_record : Addr
  f_Recording_keep : Addr
  f_Recording_forget_behind : Addr
  f_Recording_forget_states_behind : Addr
  f_Recording_press_otherwise : Addr
  f_are_keys_of : Addr
  f_Line_init : Addr
  f_Line_begins : Addr
  f_Line_press : Addr
  f_Line_hold : Addr
  f_Line_seek : Addr
  f_Line_cut : Addr
  f_Line_put_by : Addr
  f_Line_swap : Addr
  f_Line_differ : Addr
  f_Line_kept : Addr
  f_Line_sum_at : Addr
  f_Line_keys_behind : Addr
  f_Line_spoil : Addr
  f_Reader_init : Addr
  f_Reader_has_more : Addr
  f_Reader_number : Addr
  f_Reader_row : Addr
  f_answer_change : Addr
  f_answer_next : Addr
  f_answers : Addr
  t_FIRST_COIN : Addr
  t_STEPS : Addr
  t_STEPS_0 : Addr
  t_STEPS_1 : Addr
  t_STEPS_2 : Addr
  t_STEPS_3 : Addr
  t_STEPS_4 : Addr
structure Fd where
  f_Player_init : FuncData
  f_World_init : FuncData
  f_first_world : FuncData
  f_next_luck : FuncData
  f_column_or_row : FuncData
  f_is_key : FuncData
  f_place_ahead : FuncData
  f_with_player : FuncData
  f_after_key : FuncData
  f_after_tick : FuncData
  f_world_numbers : FuncData
  f_numbers_with_luck : FuncData
  f_are_alike : FuncData
  f_world_sum : FuncData
  f_State_init : FuncData
  f_which_state_goes : FuncData
  f_Recording_init : FuncData
  f_Recording_ticks : FuncData
  f_Recording_twin : FuncData
  f_Recording_state_ahead : FuncData
  f_Recording_world_from : FuncData
  f_Recording_world_at : FuncData
  f_Recording_all_worlds : FuncData
  f_Recording_record : FuncData
  f_Recording_keep : FuncData
  f_Recording_forget_behind : FuncData
  f_Recording_forget_states_behind : FuncData
  f_Recording_press_otherwise : FuncData
  f_are_keys_of : FuncData
  f_Line_init : FuncData
  f_Line_begins : FuncData
  f_Line_press : FuncData
  f_Line_hold : FuncData
  f_Line_seek : FuncData
  f_Line_cut : FuncData
  f_Line_put_by : FuncData
  f_Line_swap : FuncData
  f_Line_differ : FuncData
  f_Line_kept : FuncData
  f_Line_sum_at : FuncData
  f_Line_keys_behind : FuncData
  f_Line_spoil : FuncData
  f_Reader_init : FuncData
  f_Reader_has_more : FuncData
  f_Reader_number : FuncData
  f_Reader_row : FuncData
  f_answer_change : FuncData
  f_answer_next : FuncData
  f_answers : FuncData
structure Txt (K : PySem.W.Frag) (mg : Str → Option Value) (a : Ad) (d : Fd) : Prop where
  cl_Player : Cls K a.c_Player
  mk_Player : Mk K a.c_Player a.f_Player_init
  g_Player : mg "Player" = some (.ref a.c_Player)
  na_Player_place : NoAttr K a.c_Player "place"
  na_Player_points : NoAttr K a.c_Player "points"
  cl_World : Cls K a.c_World
  mk_World : Mk K a.c_World a.f_World_init
  g_World : mg "World" = some (.ref a.c_World)
  na_World_players : NoAttr K a.c_World "players"
  na_World_coin : NoAttr K a.c_World "coin"
  na_World_luck : NoAttr K a.c_World "luck"
  cl_State : Cls K a.c_State
  mk_State : Mk K a.c_State a.f_State_init
  g_State : mg "State" = some (.ref a.c_State)
  na_State_tick : NoAttr K a.c_State "tick"
  na_State_world : NoAttr K a.c_State "world"
  cl_Recording : Cls K a.c_Recording
  mk_Recording : Mk K a.c_Recording a.f_Recording_init
  g_Recording : mg "Recording" = some (.ref a.c_Recording)
  na_Recording_how_many : NoAttr K a.c_Recording "how_many"
  na_Recording_seed : NoAttr K a.c_Recording "seed"
  na_Recording_presses : NoAttr K a.c_Recording "presses"
  na_Recording_states : NoAttr K a.c_Recording "states"
  cl_Line : Cls K a.c_Line
  mk_Line : Mk K a.c_Line a.f_Line_init
  g_Line : mg "Line" = some (.ref a.c_Line)
  na_Line_going : NoAttr K a.c_Line "going"
  na_Line_aside : NoAttr K a.c_Line "aside"
  cl_Reader : Cls K a.c_Reader
  mk_Reader : Mk K a.c_Reader a.f_Reader_init
  g_Reader : mg "Reader" = some (.ref a.c_Reader)
  na_Reader_numbers : NoAttr K a.c_Reader "numbers"
  na_Reader_at : NoAttr K a.c_Reader "at"
  F_Player_init : Fun K "__init__" "Player.__init__" s_Player_init a.f_Player_init d.f_Player_init
  b_Player_init : Binds K d.f_Player_init ["self", "place", "points"] []
  F_World_init : Fun K "__init__" "World.__init__" s_World_init a.f_World_init d.f_World_init
  b_World_init : Binds K d.f_World_init ["self", "players", "coin", "luck"] []
  F_first_world : Fun K "first_world" "first_world" s_first_world a.f_first_world d.f_first_world
  b_first_world : Binds K d.f_first_world ["how_many", "seed"] []
  g_first_world : mg "first_world" = some (.ref a.f_first_world)
  F_next_luck : Fun K "next_luck" "next_luck" s_next_luck a.f_next_luck d.f_next_luck
  b_next_luck : Binds K d.f_next_luck ["luck"] []
  g_next_luck : mg "next_luck" = some (.ref a.f_next_luck)
  F_column_or_row : Fun K "column_or_row" "column_or_row" s_column_or_row a.f_column_or_row d.f_column_or_row
  b_column_or_row : Binds K d.f_column_or_row ["luck"] []
  g_column_or_row : mg "column_or_row" = some (.ref a.f_column_or_row)
  F_is_key : Fun K "is_key" "is_key" s_is_key a.f_is_key d.f_is_key
  b_is_key : Binds K d.f_is_key ["number"] []
  g_is_key : mg "is_key" = some (.ref a.f_is_key)
  F_place_ahead : Fun K "place_ahead" "place_ahead" s_place_ahead a.f_place_ahead d.f_place_ahead
  b_place_ahead : Binds K d.f_place_ahead ["place", "key"] []
  g_place_ahead : mg "place_ahead" = some (.ref a.f_place_ahead)
  F_with_player : Fun K "with_player" "with_player" s_with_player a.f_with_player d.f_with_player
  b_with_player : Binds K d.f_with_player ["world", "number", "player"] []
  g_with_player : mg "with_player" = some (.ref a.f_with_player)
  F_after_key : Fun K "after_key" "after_key" s_after_key a.f_after_key d.f_after_key
  b_after_key : Binds K d.f_after_key ["world", "number", "key"] []
  g_after_key : mg "after_key" = some (.ref a.f_after_key)
  F_after_tick : Fun K "after_tick" "after_tick" s_after_tick a.f_after_tick d.f_after_tick
  b_after_tick : Binds K d.f_after_tick ["world", "pressed"] []
  g_after_tick : mg "after_tick" = some (.ref a.f_after_tick)
  F_world_numbers : Fun K "world_numbers" "world_numbers" s_world_numbers a.f_world_numbers d.f_world_numbers
  b_world_numbers : Binds K d.f_world_numbers ["world"] []
  g_world_numbers : mg "world_numbers" = some (.ref a.f_world_numbers)
  F_numbers_with_luck : Fun K "numbers_with_luck" "numbers_with_luck" s_numbers_with_luck a.f_numbers_with_luck d.f_numbers_with_luck
  b_numbers_with_luck : Binds K d.f_numbers_with_luck ["world"] []
  g_numbers_with_luck : mg "numbers_with_luck" = some (.ref a.f_numbers_with_luck)
  F_are_alike : Fun K "are_alike" "are_alike" s_are_alike a.f_are_alike d.f_are_alike
  b_are_alike : Binds K d.f_are_alike ["world", "other"] []
  g_are_alike : mg "are_alike" = some (.ref a.f_are_alike)
  F_world_sum : Fun K "world_sum" "world_sum" s_world_sum a.f_world_sum d.f_world_sum
  b_world_sum : Binds K d.f_world_sum ["world"] []
  g_world_sum : mg "world_sum" = some (.ref a.f_world_sum)
  F_State_init : Fun K "__init__" "State.__init__" s_State_init a.f_State_init d.f_State_init
  b_State_init : Binds K d.f_State_init ["self", "tick", "world"] []
  F_which_state_goes : Fun K "which_state_goes" "which_state_goes" s_which_state_goes a.f_which_state_goes d.f_which_state_goes
  b_which_state_goes : Binds K d.f_which_state_goes ["states"] []
  g_which_state_goes : mg "which_state_goes" = some (.ref a.f_which_state_goes)
  F_Recording_init : Fun K "__init__" "Recording.__init__" s_Recording_init a.f_Recording_init d.f_Recording_init
  b_Recording_init : Binds K d.f_Recording_init ["self", "how_many", "seed"] []
  F_Recording_ticks : Fun K "ticks" "Recording.ticks" s_Recording_ticks a.f_Recording_ticks d.f_Recording_ticks
  b_Recording_ticks : Binds K d.f_Recording_ticks ["self"] []
  m_Recording_ticks : Meth K a.c_Recording "ticks" a.f_Recording_ticks
  F_Recording_twin : Fun K "twin" "Recording.twin" s_Recording_twin a.f_Recording_twin d.f_Recording_twin
  b_Recording_twin : Binds K d.f_Recording_twin ["self"] []
  m_Recording_twin : Meth K a.c_Recording "twin" a.f_Recording_twin
  F_Recording_state_ahead : Fun K "state_ahead" "Recording.state_ahead" s_Recording_state_ahead a.f_Recording_state_ahead d.f_Recording_state_ahead
  b_Recording_state_ahead : Binds K d.f_Recording_state_ahead ["self", "tick"] []
  m_Recording_state_ahead : Meth K a.c_Recording "state_ahead" a.f_Recording_state_ahead
  F_Recording_world_from : Fun K "world_from" "Recording.world_from" s_Recording_world_from a.f_Recording_world_from d.f_Recording_world_from
  b_Recording_world_from : Binds K d.f_Recording_world_from ["self", "state", "tick"] []
  m_Recording_world_from : Meth K a.c_Recording "world_from" a.f_Recording_world_from
  F_Recording_world_at : Fun K "world_at" "Recording.world_at" s_Recording_world_at a.f_Recording_world_at d.f_Recording_world_at
  b_Recording_world_at : Binds K d.f_Recording_world_at ["self", "tick"] []
  m_Recording_world_at : Meth K a.c_Recording "world_at" a.f_Recording_world_at
  F_Recording_all_worlds : Fun K "all_worlds" "Recording.all_worlds" s_Recording_all_worlds a.f_Recording_all_worlds d.f_Recording_all_worlds
  b_Recording_all_worlds : Binds K d.f_Recording_all_worlds ["self"] []
  m_Recording_all_worlds : Meth K a.c_Recording "all_worlds" a.f_Recording_all_worlds
  F_Recording_record : Fun K "record" "Recording.record" s_Recording_record a.f_Recording_record d.f_Recording_record
  b_Recording_record : Binds K d.f_Recording_record ["self", "how_often", "pressed"] []
  m_Recording_record : Meth K a.c_Recording "record" a.f_Recording_record
  F_Recording_keep : Fun K "keep" "Recording.keep" s_Recording_keep a.f_Recording_keep d.f_Recording_keep
  b_Recording_keep : Binds K d.f_Recording_keep ["self", "state"] []
  m_Recording_keep : Meth K a.c_Recording "keep" a.f_Recording_keep
  F_Recording_forget_behind : Fun K "forget_behind" "Recording.forget_behind" s_Recording_forget_behind a.f_Recording_forget_behind d.f_Recording_forget_behind
  b_Recording_forget_behind : Binds K d.f_Recording_forget_behind ["self", "tick"] []
  m_Recording_forget_behind : Meth K a.c_Recording "forget_behind" a.f_Recording_forget_behind
  F_Recording_forget_states_behind : Fun K "forget_states_behind" "Recording.forget_states_behind" s_Recording_forget_states_behind a.f_Recording_forget_states_behind d.f_Recording_forget_states_behind
  b_Recording_forget_states_behind : Binds K d.f_Recording_forget_states_behind ["self", "tick"] []
  m_Recording_forget_states_behind : Meth K a.c_Recording "forget_states_behind" a.f_Recording_forget_states_behind
  F_Recording_press_otherwise : Fun K "press_otherwise" "Recording.press_otherwise" s_Recording_press_otherwise a.f_Recording_press_otherwise d.f_Recording_press_otherwise
  b_Recording_press_otherwise : Binds K d.f_Recording_press_otherwise ["self", "tick", "player", "key"] []
  m_Recording_press_otherwise : Meth K a.c_Recording "press_otherwise" a.f_Recording_press_otherwise
  F_are_keys_of : Fun K "are_keys_of" "are_keys_of" s_are_keys_of a.f_are_keys_of d.f_are_keys_of
  b_are_keys_of : Binds K d.f_are_keys_of ["pressed", "how_many"] []
  g_are_keys_of : mg "are_keys_of" = some (.ref a.f_are_keys_of)
  F_Line_init : Fun K "__init__" "Line.__init__" s_Line_init a.f_Line_init d.f_Line_init
  b_Line_init : Binds K d.f_Line_init ["self"] []
  F_Line_begins : Fun K "begins" "Line.begins" s_Line_begins a.f_Line_begins d.f_Line_begins
  b_Line_begins : Binds K d.f_Line_begins ["self", "players", "seed"] []
  m_Line_begins : Meth K a.c_Line "begins" a.f_Line_begins
  F_Line_press : Fun K "press" "Line.press" s_Line_press a.f_Line_press d.f_Line_press
  b_Line_press : Binds K d.f_Line_press ["self", "pressed"] []
  m_Line_press : Meth K a.c_Line "press" a.f_Line_press
  F_Line_hold : Fun K "hold" "Line.hold" s_Line_hold a.f_Line_hold d.f_Line_hold
  b_Line_hold : Binds K d.f_Line_hold ["self", "ticks", "pressed"] []
  m_Line_hold : Meth K a.c_Line "hold" a.f_Line_hold
  F_Line_seek : Fun K "seek" "Line.seek" s_Line_seek a.f_Line_seek d.f_Line_seek
  b_Line_seek : Binds K d.f_Line_seek ["self", "tick"] []
  m_Line_seek : Meth K a.c_Line "seek" a.f_Line_seek
  F_Line_cut : Fun K "cut" "Line.cut" s_Line_cut a.f_Line_cut d.f_Line_cut
  b_Line_cut : Binds K d.f_Line_cut ["self", "tick"] []
  m_Line_cut : Meth K a.c_Line "cut" a.f_Line_cut
  F_Line_put_by : Fun K "put_by" "Line.put_by" s_Line_put_by a.f_Line_put_by d.f_Line_put_by
  b_Line_put_by : Binds K d.f_Line_put_by ["self"] []
  m_Line_put_by : Meth K a.c_Line "put_by" a.f_Line_put_by
  F_Line_swap : Fun K "swap" "Line.swap" s_Line_swap a.f_Line_swap d.f_Line_swap
  b_Line_swap : Binds K d.f_Line_swap ["self"] []
  m_Line_swap : Meth K a.c_Line "swap" a.f_Line_swap
  F_Line_differ : Fun K "differ" "Line.differ" s_Line_differ a.f_Line_differ d.f_Line_differ
  b_Line_differ : Binds K d.f_Line_differ ["self"] []
  m_Line_differ : Meth K a.c_Line "differ" a.f_Line_differ
  F_Line_kept : Fun K "kept" "Line.kept" s_Line_kept a.f_Line_kept d.f_Line_kept
  b_Line_kept : Binds K d.f_Line_kept ["self"] []
  m_Line_kept : Meth K a.c_Line "kept" a.f_Line_kept
  F_Line_sum_at : Fun K "sum_at" "Line.sum_at" s_Line_sum_at a.f_Line_sum_at d.f_Line_sum_at
  b_Line_sum_at : Binds K d.f_Line_sum_at ["self", "tick"] []
  m_Line_sum_at : Meth K a.c_Line "sum_at" a.f_Line_sum_at
  F_Line_keys_behind : Fun K "keys_behind" "Line.keys_behind" s_Line_keys_behind a.f_Line_keys_behind d.f_Line_keys_behind
  b_Line_keys_behind : Binds K d.f_Line_keys_behind ["self", "tick", "how_many"] []
  m_Line_keys_behind : Meth K a.c_Line "keys_behind" a.f_Line_keys_behind
  F_Line_spoil : Fun K "spoil" "Line.spoil" s_Line_spoil a.f_Line_spoil d.f_Line_spoil
  b_Line_spoil : Binds K d.f_Line_spoil ["self", "tick", "player", "what"] []
  m_Line_spoil : Meth K a.c_Line "spoil" a.f_Line_spoil
  F_Reader_init : Fun K "__init__" "Reader.__init__" s_Reader_init a.f_Reader_init d.f_Reader_init
  b_Reader_init : Binds K d.f_Reader_init ["self", "numbers"] []
  F_Reader_has_more : Fun K "has_more" "Reader.has_more" s_Reader_has_more a.f_Reader_has_more d.f_Reader_has_more
  b_Reader_has_more : Binds K d.f_Reader_has_more ["self"] []
  m_Reader_has_more : Meth K a.c_Reader "has_more" a.f_Reader_has_more
  F_Reader_number : Fun K "number" "Reader.number" s_Reader_number a.f_Reader_number d.f_Reader_number
  b_Reader_number : Binds K d.f_Reader_number ["self"] []
  m_Reader_number : Meth K a.c_Reader "number" a.f_Reader_number
  F_Reader_row : Fun K "row" "Reader.row" s_Reader_row a.f_Reader_row d.f_Reader_row
  b_Reader_row : Binds K d.f_Reader_row ["self"] []
  m_Reader_row : Meth K a.c_Reader "row" a.f_Reader_row
  F_answer_change : Fun K "answer_change" "answer_change" s_answer_change a.f_answer_change d.f_answer_change
  b_answer_change : Binds K d.f_answer_change ["line", "call", "reader"] []
  g_answer_change : mg "answer_change" = some (.ref a.f_answer_change)
  F_answer_next : Fun K "answer_next" "answer_next" s_answer_next a.f_answer_next d.f_answer_next
  b_answer_next : Binds K d.f_answer_next ["line", "reader"] []
  g_answer_next : mg "answer_next" = some (.ref a.f_answer_next)
  F_answers : Fun K "answers" "answers" s_answers a.f_answers d.f_answers
  b_answers : Binds K d.f_answers ["calls"] []
  g_answers : mg "answers" = some (.ref a.f_answers)
  k_FIELD_SIZE : ∃ u, mg "FIELD_SIZE" = some u ∧ RelV (.int (16)) u
  k_FIRST_COIN : mg "FIRST_COIN" = some (.ref a.t_FIRST_COIN)
  k_LUCK_RANGE : ∃ u, mg "LUCK_RANGE" = some u ∧ RelV (.int (2147483648)) u
  k_LUCK_PER_PLACE : ∃ u, mg "LUCK_PER_PLACE" = some u ∧ RelV (.int (65536)) u
  k_SUM_RANGE : ∃ u, mg "SUM_RANGE" = some u ∧ RelV (.int (1000000007)) u
  k_STEPS : mg "STEPS" = some (.ref a.t_STEPS)
  k_MOST_STATES : ∃ u, mg "MOST_STATES" = some u ∧ RelV (.int (6)) u
  k_TICKS_PER_STATE : ∃ u, mg "TICKS_PER_STATE" = some u ∧ RelV (.int (8)) u
  k_MOST_PLAYERS : ∃ u, mg "MOST_PLAYERS" = some u ∧ RelV (.int (4)) u
  k_MOST_TICKS : ∃ u, mg "MOST_TICKS" = some u ∧ RelV (.int (120)) u
  k_NOT_ALLOWED : ∃ u, mg "NOT_ALLOWED" = some u ∧ RelV (.int (-1)) u
  k_NO_SUCH_TICK : ∃ u, mg "NO_SUCH_TICK" = some u ∧ RelV (.int (-2)) u
  k_TOO_MANY_TICKS : ∃ u, mg "TOO_MANY_TICKS" = some u ∧ RelV (.int (-5)) u
  k_ALIKE : ∃ u, mg "ALIKE" = some u ∧ RelV (.int (-6)) u
  k_BEGINS : ∃ u, mg "BEGINS" = some u ∧ RelV (.int (0)) u
  k_PRESS : ∃ u, mg "PRESS" = some u ∧ RelV (.int (1)) u
  k_HOLD : ∃ u, mg "HOLD" = some u ∧ RelV (.int (2)) u
  k_SEEK : ∃ u, mg "SEEK" = some u ∧ RelV (.int (3)) u
  k_CUT : ∃ u, mg "CUT" = some u ∧ RelV (.int (4)) u
  k_PUT_BY : ∃ u, mg "PUT_BY" = some u ∧ RelV (.int (5)) u
  k_SWAP : ∃ u, mg "SWAP" = some u ∧ RelV (.int (6)) u
  k_DIFFER : ∃ u, mg "DIFFER" = some u ∧ RelV (.int (7)) u
  k_KEPT : ∃ u, mg "KEPT" = some u ∧ RelV (.int (8)) u
  k_SUM_AT : ∃ u, mg "SUM_AT" = some u ∧ RelV (.int (9)) u
  k_KEYS : ∃ u, mg "KEYS" = some u ∧ RelV (.int (10)) u
  k_SPOIL : ∃ u, mg "SPOIL" = some u ∧ RelV (.int (11)) u
  t_FIRST_COIN : ∀ H, SqT K H a.t_FIRST_COIN [.int (8), .int (2)]
  t_STEPS : ∀ H, SqT K H a.t_STEPS [.ref a.t_STEPS_0, .ref a.t_STEPS_1, .ref a.t_STEPS_2, .ref a.t_STEPS_3, .ref a.t_STEPS_4]
  t_STEPS_0 : ∀ H, SqT K H a.t_STEPS_0 [.int (0), .int (0)]
  t_STEPS_1 : ∀ H, SqT K H a.t_STEPS_1 [.int (1), .int (0)]
  t_STEPS_2 : ∀ H, SqT K H a.t_STEPS_2 [.int (0), .int (1)]
  t_STEPS_3 : ∀ H, SqT K H a.t_STEPS_3 [.int (-1), .int (0)]
  t_STEPS_4 : ∀ H, SqT K H a.t_STEPS_4 [.int (0), .int (-1)]
  n_len : mg "len" = none
  n_range : mg "range" = none
  n_enumerate : mg "enumerate" = none
  n_min : mg "min" = none
  n_all : mg "all" = none
  n_list : mg "list" = none
  n_tuple : mg "tuple" = none
/-! ### small words -/
theorem pe_k {X : Cx} {x : Str} {pos : Pos} {v : V} (h : ∃ u, X.mg x = some u ∧ RelV v u) (hg : Gl X x := by rfl) (hd : (x == ("__debug__" : Str)) = false := by decide) : PE X (.Name x pos) (tC v) := by
  obtain ⟨u, hm, r⟩ := h
  exact pe_glob hg hm r hd
/-! within a comprehension's block the written part is the def's: said by itself, so that no name of the block stands in a reading -/
section
variable {X : Cx} {k : PySem.W.Frag}
theorem pe_fldK {e : Expr} {ta : TE} {f : Str} {pos : Pos} (h : X.K = k) (he : PE X e ta) (hb : attributeBase e f X.env (eval e X.env) = eval e X.env) : PE X (.Attribute e f pos) (tFld k ta f) := by
  subst h
  exact pe_fld he hb
theorem ix_listK (h : X.K = k) : IxR X (rIxL k) := by
  subst h
  exact ix_list
theorem ix_tupK (h : X.K = k) : IxR X (rIxT k) := by
  subst h
  exact ix_tup
def rLenS (k : PySem.W.Frag) : List V → Hp → VK → Prop := fun xs H Q => ∃ p ys, xs = [.ref p] ∧ (SqL k H p ys ∨ SqT k H p ys) ∧ Q (.int ys.length) H
theorem call_lenK (h : X.K = k) : CallR X (.builtin "len") (rLenS k) := by
  subst h
  exact call_len_seq
end
theorem hu65 {A : Around} {k : Nat} (hr : Room k A) : A.units + 65 < cLine := by have := hr.un; omega
theorem ifT {c : Bool} {A B : Prop} (hc : c = true) (h : A) : if c = true then A else B := by rw [if_pos hc]; exact h
theorem ifF {c : Bool} {A B : Prop} (hc : c = false) (h : B) : if c = true then A else B := by rw [hc]; exact iteF h
theorem lk1 {k : Str} {v : V} {r : List (Str × V)} : List.lookup k ((k, v) :: r) = some v := by
  have e : (k == k) = true := beq_self_eq_true k
  simp only [List.lookup, e]
theorem lkN {k g : Str} {v : V} {r : List (Str × V)} (h : (k == g) = false) : List.lookup k ((g, v) :: r) = List.lookup k r := by simp only [List.lookup, h]
theorem pf1 {f : Str} {v x : V} {r : List (Str × V)} : putF f v ((f, x) :: r) = (f, v) :: r := if_pos rfl
theorem pfN {f g : Str} {v x : V} {r : List (Str × V)} (h : ¬ g = f) : putF f v ((g, x) :: r) = (g, x) :: putF f v r := if_neg h
theorem pf0 {f : Str} {v : V} : putF f v [] = [(f, v)] := rfl
theorem small {n : Nat} (h : n ≤ 16777216) : n ≤ sizeLine := by rw [sizeLine_eq]; exact h
theorem smaller {n : Nat} (h : n < 16777216) : n < sizeLine := by rw [sizeLine_eq]; exact h
/-! ### beside one another -/
structure Each {β : Type} (R : Addr → β → Prop) (as : List Addr) (bs : List β) : Prop where
  len : as.length = bs.length
  at_ : ∀ (i : Nat) (a : Addr) (b : β), as[i]? = some a → bs[i]? = some b → R a b
section
variable {β : Type} {R R' : Addr → β → Prop} {as as' : List Addr} {bs bs' : List β}
theorem Each.nil : Each R [] [] := ⟨rfl, fun i a b h => by simp at h⟩
theorem Each.mono (e : Each R as bs) (h : ∀ a b, a ∈ as → b ∈ bs → R a b → R' a b) : Each R' as bs := ⟨e.len, fun i a b ha hb => h a b (List.mem_of_getElem? ha) (List.mem_of_getElem? hb) (e.at_ i a b ha hb)⟩
theorem Each.get (e : Each R as bs) {i : Nat} {b : β} (h : bs[i]? = some b) : ∃ a, as[i]? = some a ∧ R a b := by
  have hb := (List.getElem?_eq_some_iff.mp h).1
  have ha : i < as.length := by rw [e.len]; exact hb
  exact ⟨as[i], List.getElem?_eq_getElem ha, e.at_ i _ _ (List.getElem?_eq_getElem ha) h⟩
theorem Each.got (e : Each R as bs) {i : Nat} {a : Addr} (h : as[i]? = some a) : ∃ b, bs[i]? = some b ∧ R a b := by
  have ha := (List.getElem?_eq_some_iff.mp h).1
  have hb : i < bs.length := by rw [← e.len]; exact ha
  exact ⟨bs[i], List.getElem?_eq_getElem hb, e.at_ i _ _ h (List.getElem?_eq_getElem hb)⟩
theorem Each.put (e : Each R as bs) {i : Nat} {a : Addr} {b : β} (r : R a b) : Each R (as.set i a) (bs.set i b) := by
  refine ⟨by simpa using e.len, fun j x y hx hy => ?_⟩
  rw [List.getElem?_set] at hx hy
  by_cases h : i = j
  · rw [if_pos h] at hx hy
    subst h
    split at hx
    · split at hy
      · cases hx; cases hy; exact r
      · cases hy
    · cases hx
  · rw [if_neg h] at hx hy
    exact e.at_ j x y hx hy
theorem Each.add (e : Each R as bs) {a : Addr} {b : β} (r : R a b) : Each R (as ++ [a]) (bs ++ [b]) := by
  refine ⟨by simp [e.len], fun i x y hx hy => ?_⟩
  have hl := e.len
  by_cases h : i < as.length
  · rw [List.getElem?_append_left h] at hx
    rw [List.getElem?_append_left (by omega)] at hy
    exact e.at_ i x y hx hy
  · rw [List.getElem?_append_right (by omega)] at hx hy
    have hi : i - as.length = 0 := by
      have := (List.getElem?_eq_some_iff.mp hx).1
      simpa using this
    rw [hi] at hx
    rw [← hl, hi] at hy
    simp at hx hy
    subst hx hy
    exact r
theorem Each.take (e : Each R as bs) (n : Nat) : Each R (as.take n) (bs.take n) := by
  refine ⟨by simp [e.len], fun i x y hx hy => ?_⟩
  rw [List.getElem?_take] at hx hy
  split at hx
  · rename_i h
    rw [if_pos h] at hy
    exact e.at_ i x y hx hy
  · cases hx
theorem Each.drop (e : Each R as bs) (n : Nat) : Each R (as.drop n) (bs.drop n) := by
  refine ⟨by simp [e.len], fun i x y hx hy => ?_⟩
  rw [List.getElem?_drop] at hx hy
  exact e.at_ _ x y hx hy
theorem Each.erase (e : Each R as bs) (j : Nat) : Each R (as.eraseIdx j) (bs.eraseIdx j) := by
  refine ⟨by rw [List.length_eraseIdx, List.length_eraseIdx, e.len], fun i x y hx hy => ?_⟩
  rw [List.getElem?_eraseIdx] at hx hy
  split at hx
  · rename_i h
    rw [if_pos h] at hy
    exact e.at_ _ x y hx hy
  · rename_i h
    rw [if_neg h] at hy
    exact e.at_ _ x y hx hy
end
theorem map_get {α β : Type} {f : α → β} {l : List α} {i : Nat} {y : β} (h : (l.map f)[i]? = some y) : ∃ x, l[i]? = some x ∧ y = f x := by
  rw [List.getElem?_map] at h
  cases e : l[i]? with
  | none => rw [e] at h; cases h
  | some x => rw [e] at h; exact ⟨x, rfl, (Option.some.inj h).symm⟩
theorem get_map {α β : Type} (f : α → β) {l : List α} {i : Nat} {x : α} (h : l[i]? = some x) : (l.map f)[i]? = some (f x) := by rw [List.getElem?_map, h]; rfl
/-! ### what nobody changes: tuples, the request, players, worlds, states, a world's list of players -/
def imm (H : Hp) : HO → Prop
  | .tup _ => True
  | .frz _ _ => True
  | .ins _ _ fs => ∃ v r, fs = (("place" : Str), v) :: r ∨ fs = (("players" : Str), v) :: r ∨ fs = (("tick" : Str), v) :: r
  | .lst xs => ∃ p r C dx t fs, xs = .ref p :: r ∧ H p = some (.ins C dx ((("place" : Str), t) :: fs))
  | _ => False
def Fix (H H' : Hp) : Prop := ∀ b o, H b = some o → imm H o → H' b = some o
def Stay (M : List Addr) (H H' : Hp) : Prop := ∀ b o, H b = some o → b ∉ M → H' b = some o
theorem imm_place {H : Hp} {C dx : Addr} {v : V} {r : List (Str × V)} : imm H (.ins C dx ((("place" : Str), v) :: r)) := ⟨v, r, .inl rfl⟩
theorem imm_players {H : Hp} {C dx : Addr} {v : V} {r : List (Str × V)} : imm H (.ins C dx ((("players" : Str), v) :: r)) := ⟨v, r, .inr (.inl rfl)⟩
theorem imm_tick {H : Hp} {C dx : Addr} {v : V} {r : List (Str × V)} : imm H (.ins C dx ((("tick" : Str), v) :: r)) := ⟨v, r, .inr (.inr rfl)⟩
theorem Fix.imm {H H' : Hp} (e : Fix H H') : ∀ {o : HO}, imm H o → Pa.imm H' o
  | .tup _, h => h
  | .frz _ _, h => h
  | .ins _ _ _, h => h
  | .lst _, ⟨p, r, C, dx, t, fs, hx, hp⟩ => ⟨p, r, C, dx, t, fs, hx, e p _ hp imm_place⟩
theorem Fix.refl (H : Hp) : Fix H H := fun _ _ h _ => h
theorem Fix.trans {H H1 H2 : Hp} (x : Fix H H1) (y : Fix H1 H2) : Fix H H2 := fun b o h i => y b o (x b o h i) (x.imm i)
theorem Same.fix {H H' : Hp} (e : Same H H') : Fix H H' := fun b o h _ => e b o h
theorem Same.stay {M : List Addr} {H H' : Hp} (e : Same H H') : Stay M H H' := fun b o h _ => e b o h
theorem Stay.trans {M : List Addr} {H H1 H2 : Hp} (x : Stay M H H1) (y : Stay M H1 H2) : Stay M H H2 := fun b o h n => y b o (x b o h n) n
theorem Stay.more {M M' : List Addr} {H H1 : Hp} (x : Stay M H H1) (h : ∀ m ∈ M, m ∈ M') : Stay M' H H1 := fun b o e n => x b o e fun z => n (h b z)
theorem Stay.fix {M : List Addr} {H H' : Hp} (e : Stay M H H') (h : ∀ m ∈ M, ∀ o, H m = some o → ¬ imm H o) : Fix H H' := fun b o hb i => e b o hb fun z => h b z o hb i
theorem same_upd {H : Hp} {p : Addr} {o : HO} (h : H p = none) : Same H (upd H p o) := fun b x e => by
  rw [upd_ne (ne_of_none e h)]
  exact e
theorem stay_upd {H : Hp} {p : Addr} {o : HO} : Stay [p] H (upd H p o) := fun b x e n => by
  rw [upd_ne fun z => n (by rw [z]; exact List.mem_singleton.mpr rfl)]
  exact e
theorem Same.sqT {K : PySem.W.Frag} {H H' : Hp} {t : Addr} {xs : List V} (e : Same H H') (h : SqT K H t xs) : SqT K H' t xs := by
  rcases h with (h | ⟨o, h⟩) | h
  · exact .inl (.inl (e _ _ h))
  · exact .inl (.inr ⟨o, e _ _ h⟩)
  · exact .inr h
theorem Fix.sqT {K : PySem.W.Frag} {H H' : Hp} {t : Addr} {xs : List V} (e : Fix H H') (h : SqT K H t xs) : SqT K H' t xs := by
  rcases h with (h | ⟨o, h⟩) | h
  · exact .inl (.inl (e _ _ h trivial))
  · exact .inl (.inr ⟨o, e _ _ h trivial⟩)
  · exact .inr h
/-! ### the things of the program in the heap -/
abbrev plF (t : Addr) (s : Int) : List (Str × V) := [("place", .ref t), ("points", .int s)]
abbrev woF (l c : Addr) (k : Int) : List (Str × V) := [("players", .ref l), ("coin", .ref c), ("luck", .int k)]
abbrev stF (k : Int) (q : Addr) : List (Str × V) := [("tick", .int k), ("world", .ref q)]
abbrev reF (n s : Int) (pl sl : Addr) : List (Str × V) := [("how_many", .int n), ("seed", .int s), ("presses", .ref pl), ("states", .ref sl)]
abbrev liF (g o : Addr) : List (Str × V) := [("going", .ref g), ("aside", .ref o)]
abbrev rdF (l : Addr) (i : Int) : List (Str × V) := [("numbers", .ref l), ("at", .int i)]
abbrev pt (x y : Nat) : List V := [.int (x : Int), .int (y : Int)]
section
variable (K : PySem.W.Frag) (a : Ad)
def PlayerAt (H : Hp) (p : Addr) (x : Nat × Nat × Nat) : Prop := ∃ dx t, H p = some (.ins a.c_Player dx (plF t (x.2.2 : Int))) ∧ SqT K H t (pt x.1 x.2.1)
def WorldAt (H : Hp) (q : Addr) (w : Ge09.World) : Prop := ∃ dx l c ps, H q = some (.ins a.c_World dx (woF l c (w.luck : Int))) ∧ H l = some (.lst (ps.map V.ref)) ∧ Each (PlayerAt K a H) ps w.players ∧ w.players ≠ [] ∧ SqT K H c (pt w.coin.1 w.coin.2)
def StateAt (H : Hp) (s : Addr) (x : Nat × Ge09.World) : Prop := ∃ dx q, H s = some (.ins a.c_State dx (stF (x.1 : Int) q)) ∧ WorldAt K a H q x.2
abbrev keyV (k : List Nat) : List V := k.map fun (n : Nat) => V.int (n : Int)
def PressAt (H : Hp) (t : Addr) (k : List Nat) : Prop := H t = some (.tup (keyV k))
structure RecAt (H : Hp) (g pl sl : Addr) (t : Ge09.Tape) : Prop where
  obj : ∃ dx, H g = some (.ins a.c_Recording dx (reF (t.n : Int) (t.seed : Int) pl sl))
  prs : ∃ ps, H pl = some (.lst (ps.map V.ref)) ∧ Each (PressAt H) ps t.keys
  sts : ∃ ss, H sl = some (.lst (ss.map V.ref)) ∧ Each (StateAt K a H) ss t.kept
  ne : pl ≠ sl
end
section
variable {K : PySem.W.Frag} {a : Ad} {H H' : Hp}
theorem PlayerAt.fix {p : Addr} {x : Nat × Nat × Nat} (h : PlayerAt K a H p x) (e : Fix H H') : PlayerAt K a H' p x := by
  obtain ⟨dx, t, h1, h2⟩ := h
  exact ⟨dx, t, e _ _ h1 imm_place, e.sqT h2⟩
theorem players_imm {l : Addr} {ps : List Addr} {xs : List (Nat × Nat × Nat)} (e : Each (PlayerAt K a H) ps xs) (ne : xs ≠ []) : imm H (.lst (ps.map V.ref)) := by
  cases ps with
  | nil =>
    have := e.len
    cases xs with
    | nil => exact absurd rfl ne
    | cons _ _ => simp at this
  | cons p r =>
    obtain ⟨b, hb, dx, t, h1, _⟩ := e.got (i := 0) (a := p) rfl
    exact ⟨p, r.map V.ref, _, _, _, _, rfl, h1⟩
theorem WorldAt.fix {q : Addr} {w : Ge09.World} (h : WorldAt K a H q w) (e : Fix H H') : WorldAt K a H' q w := by
  obtain ⟨dx, l, c, ps, h1, h2, h3, h4, h5⟩ := h
  exact ⟨dx, l, c, ps, e _ _ h1 imm_players, e _ _ h2 (players_imm (l := l) h3 h4), h3.mono fun _ _ _ _ r => r.fix e, h4, e.sqT h5⟩
theorem StateAt.fix {s : Addr} {x : Nat × Ge09.World} (h : StateAt K a H s x) (e : Fix H H') : StateAt K a H' s x := by
  obtain ⟨dx, q, h1, h2⟩ := h
  exact ⟨dx, q, e _ _ h1 imm_tick, h2.fix e⟩
theorem PressAt.fix {t : Addr} {k : List Nat} (h : PressAt H t k) (e : Fix H H') : PressAt H' t k := e _ _ h trivial
/-- what may be changed is none of those -/
theorem not_rec {C dx : Addr} {n s : Int} {p q : Addr} : ¬ imm H (.ins C dx (reF n s p q)) := by
  rintro ⟨v, r, h | h | h⟩ <;> (injection h with h1; injection h1 with h2; exact absurd h2 (by decide +kernel))
theorem not_line {C dx p q : Addr} : ¬ imm H (.ins C dx (liF p q)) := by
  rintro ⟨v, r, h | h | h⟩ <;> (injection h with h1; injection h1 with h2; exact absurd h2 (by decide +kernel))
theorem not_reader {C dx p : Addr} {i : Int} : ¬ imm H (.ins C dx (rdF p i)) := by
  rintro ⟨v, r, h | h | h⟩ <;> (injection h with h1; injection h1 with h2; exact absurd h2 (by decide +kernel))
theorem not_new {C dx : Addr} : ¬ imm H (.ins C dx []) := by
  rintro ⟨v, r, h | h | h⟩ <;> cases h
theorem not_presses {ps : List Addr} {ks : List (List Nat)} (e : Each (PressAt H) ps ks) : ¬ imm H (.lst (ps.map V.ref)) := by
  rintro ⟨p, r, C, dx, t, fs, hx, hp⟩
  cases ps with
  | nil => cases hx
  | cons p' r' =>
    injection hx with h1
    injection h1 with h1
    subst h1
    obtain ⟨b, _, h2⟩ := e.got (i := 0) (a := p') rfl
    rw [show H p' = _ from h2] at hp
    cases hp
theorem not_states {ss : List Addr} {xs : List (Nat × Ge09.World)} (e : Each (StateAt K a H) ss xs) : ¬ imm H (.lst (ss.map V.ref)) := by
  rintro ⟨p, r, C, dx, t, fs, hx, hp⟩
  cases ss with
  | nil => cases hx
  | cons p' r' =>
    injection hx with h1
    injection h1 with h1
    subst h1
    obtain ⟨b, _, dx', q, h2, _⟩ := e.got (i := 0) (a := p') rfl
    rw [h2] at hp
    injection hp with hp
    injection hp with _ _ hf
    injection hf with hf _
    injection hf with hf _
    exact absurd hf (by decide +kernel)
theorem not_ints {xs : List V} (h : ∀ v ∈ xs, ∃ i, v = V.int i) : ¬ imm H (.lst xs) := by
  rintro ⟨p, r, C, dx, t, fs, hx, hp⟩
  subst hx
  obtain ⟨i, hi⟩ := h _ List.mem_cons_self
  cases hi
/-- a recording whose own three things stand, and all that nobody changes -/
theorem RecAt.keep {g pl sl : Addr} {t : Ge09.Tape} (h : RecAt K a H g pl sl t) (e : Fix H H') (h1 : H' g = H g) (h2 : H' pl = H pl) (h3 : H' sl = H sl) : RecAt K a H' g pl sl t := by
  obtain ⟨⟨dx, o⟩, ⟨ps, p1, p2⟩, ⟨ss, s1, s2⟩, ne⟩ := h
  exact ⟨⟨dx, h1.trans o⟩, ⟨ps, h2.trans p1, p2.mono fun _ _ _ _ r => r.fix e⟩, ⟨ss, h3.trans s1, s2.mono fun _ _ _ _ r => r.fix e⟩, ne⟩
theorem RecAt.same {g pl sl : Addr} {t : Ge09.Tape} (h : RecAt K a H g pl sl t) (e : Same H H') : RecAt K a H' g pl sl t := by
  obtain ⟨⟨dx, o⟩, ⟨ps, p1, p2⟩, ⟨ss, s1, s2⟩, ne⟩ := h
  exact ⟨⟨dx, e _ _ o⟩, ⟨ps, e _ _ p1, p2.mono fun _ _ _ _ r => r.fix (Same.fix e)⟩, ⟨ss, e _ _ s1, s2.mono fun _ _ _ _ r => r.fix (Same.fix e)⟩, ne⟩
end
end Pa

set_option Elab.async false
set_option linter.all false
set_option maxRecDepth 100000
set_option maxHeartbeats 2000000
namespace Pa
open PySem PySem.Spec PyProof.Rows L2
variable {P : Program} {w : PySem.World} {K : PySem.W.Frag} {mg : Str → Option Value} {base : Heap} {a : Ad} {d : Fd}
/-! ### the three things that nobody changes are made -/
def sp_Player_init (a : Ad) : Sp := fun vs H Q _ => ∃ (p dx t : Addr) (s : Int), vs = [.ref p, .ref t, .int s] ∧ H p = some (.ins a.c_Player dx []) ∧
  ∀ H' : Hp, H' p = some (.ins a.c_Player dx (plF t s)) → Stay [p] H H' → Q .non H'
theorem ok_Player_init (T : Txt K mg a d) : FnOk P w K mg base CX0 1 a.f_Player_init d.f_Player_init ["self", "place", "points"] (sp_Player_init a) := by
  refine T.F_Player_init.ok sc_Player_init (fun vs H Q E h => ?_) (fun cdv A outer s H vs Q E hr h => ⟨_, (pss_cons (ps_fld (pv 0) (pv 1) rfl)
    (pss_one (ps_fld (pv 0) (pv 2) rfl))), ?_⟩)
  · obtain ⟨p, dx, t, s, rfl, _⟩ := h
    rfl
  · obtain ⟨p, dx, t, s, rfl, hp, k⟩ := h
    refine ⟨_, rfl, _, rfl, p, _, dx, _, rfl, hp, T.cl_Player, T.na_Player_place, by show 0 < 1000; decide, ?_⟩
    refine ⟨_, rfl, _, rfl, p, _, dx, _, rfl, upd_same, T.cl_Player, T.na_Player_points, by show 1 < 1000; decide, ?_⟩
    exact k _ (upd_same.trans (congrArg (fun q => some (HO.ins _ dx q)) (pfN (by decide +kernel)))) (stay_upd.trans stay_upd)
def sp_World_init (a : Ad) : Sp := fun vs H Q _ => ∃ (p dx l c : Addr) (s : Int), vs = [.ref p, .ref l, .ref c, .int s] ∧ H p = some (.ins a.c_World dx []) ∧
  ∀ H' : Hp, H' p = some (.ins a.c_World dx (woF l c s)) → Stay [p] H H' → Q .non H'
theorem ok_World_init (T : Txt K mg a d) : FnOk P w K mg base CX0 1 a.f_World_init d.f_World_init ["self", "players", "coin", "luck"] (sp_World_init a) := by
  refine T.F_World_init.ok sc_World_init (fun vs H Q E h => ?_) (fun cdv A outer s H vs Q E hr h => ⟨_, (pss_cons (ps_fld (pv 0) (pv 1) rfl)
    (pss_cons (ps_fld (pv 0) (pv 2) rfl)
    (pss_one (ps_fld (pv 0) (pv 3) rfl)))), ?_⟩)
  · obtain ⟨p, dx, l, c, s, rfl, _⟩ := h
    rfl
  · obtain ⟨p, dx, l, c, s, rfl, hp, k⟩ := h
    refine ⟨_, rfl, _, rfl, p, _, dx, _, rfl, hp, T.cl_World, T.na_World_players, by show 0 < 1000; decide, ?_⟩
    refine ⟨_, rfl, _, rfl, p, _, dx, _, rfl, upd_same, T.cl_World, T.na_World_coin, by show 1 < 1000; decide, ?_⟩
    refine ⟨_, rfl, _, rfl, p, _, dx, _, rfl, upd_same, T.cl_World, T.na_World_luck, by show 2 < 1000; decide, ?_⟩
    exact k _ (upd_same.trans (congrArg (fun q => some (HO.ins _ dx q)) ((pfN (by decide +kernel)).trans (congrArg _ (pfN (by decide +kernel)))))) (stay_upd.trans (stay_upd.trans stay_upd))
def sp_State_init (a : Ad) : Sp := fun vs H Q _ => ∃ (p dx q : Addr) (s : Int), vs = [.ref p, .int s, .ref q] ∧ H p = some (.ins a.c_State dx []) ∧
  ∀ H' : Hp, H' p = some (.ins a.c_State dx (stF s q)) → Stay [p] H H' → Q .non H'
theorem ok_State_init (T : Txt K mg a d) : FnOk P w K mg base CX0 1 a.f_State_init d.f_State_init ["self", "tick", "world"] (sp_State_init a) := by
  refine T.F_State_init.ok sc_State_init (fun vs H Q E h => ?_) (fun cdv A outer s H vs Q E hr h => ⟨_, (pss_cons (ps_fld (pv 0) (pv 1) rfl)
    (pss_one (ps_fld (pv 0) (pv 2) rfl))), ?_⟩)
  · obtain ⟨p, dx, t, s, rfl, _⟩ := h
    rfl
  · obtain ⟨p, dx, t, s, rfl, hp, k⟩ := h
    refine ⟨_, rfl, _, rfl, p, _, dx, _, rfl, hp, T.cl_State, T.na_State_tick, by show 0 < 1000; decide, ?_⟩
    refine ⟨_, rfl, _, rfl, p, _, dx, _, rfl, upd_same, T.cl_State, T.na_State_world, by show 1 < 1000; decide, ?_⟩
    exact k _ (upd_same.trans (congrArg (fun q => some (HO.ins _ dx q)) (pfN (by decide +kernel)))) (stay_upd.trans stay_upd)
/-- a new instance and what __init__ did: all that was tracked stands -/
theorem same_made {H H1 : Hp} {x dx C : Addr} (nx : H x = none) (nd : H dx = none) (k : Stay [x] (upd (upd H dx (.own x)) x (.ins C dx [])) H1) : Same H H1 := fun b o e => by
  have n1 := ne_of_none e nx
  refine k b o ?_ fun z => n1 (List.mem_singleton.mp z)
  rw [upd_ne n1, upd_ne (ne_of_none e nd)]
  exact e
/-! ### the luck -/
def sp_next_luck : Sp := fun vs H Q _ => ∃ n : Nat, vs = [.int (n : Int)] ∧ Q (.int (Ge09.next n : Nat)) H
theorem ok_next_luck (T : Txt K mg a d) : FnOk P w K mg base CX0 1 a.f_next_luck d.f_next_luck ["luck"] sp_next_luck := by
  refine T.F_next_luck.ok sc_next_luck (fun vs H Q E h => ?_) (fun cdv A outer s H vs Q E hr h => ⟨_, (pss_one (ps_ret (pe_op op_mod (pe_op op_add (pe_op op_mul pe_int (pv 0)) pe_int) (pe_k T.k_LUCK_RANGE)))), ?_⟩)
  · obtain ⟨n, rfl, _⟩ := h
    rfl
  · obtain ⟨n, rfl, k⟩ := h
    refine ⟨_, rfl, _, _, rfl, rfl, .inl ⟨by decide, by decide⟩, _, _, rfl, rfl, _, _, rfl, rfl, (by show (0 : Int) < 2147483648; decide), ?_⟩
    have e : ((1103515245 : Int) * (n : Int) + 12345) % 2147483648 = ((Ge09.next n : Nat) : Int) := by
      unfold Ge09.next
      omega
    show Q (.int _) H
    rw [e]
    exact k
def sp_column_or_row : Sp := fun vs H Q _ => ∃ n : Nat, vs = [.int (n : Int)] ∧ Q (.int (n / 65536 % 16 : Nat)) H
theorem ok_column_or_row (T : Txt K mg a d) : FnOk P w K mg base CX0 1 a.f_column_or_row d.f_column_or_row ["luck"] sp_column_or_row := by
  refine T.F_column_or_row.ok sc_column_or_row (fun vs H Q E h => ?_) (fun cdv A outer s H vs Q E hr h => ⟨_, (pss_one (ps_ret (pe_op op_mod (pe_op op_fdiv (pv 0) (pe_k T.k_LUCK_PER_PLACE)) (pe_k T.k_FIELD_SIZE)))), ?_⟩)
  · obtain ⟨n, rfl, _⟩ := h
    rfl
  · obtain ⟨n, rfl, k⟩ := h
    refine ⟨_, rfl, _, _, rfl, rfl, ⟨by decide, by decide⟩, _, _, rfl, rfl, (by show (0 : Int) < 16; decide), ?_⟩
    have e : (n : Int) / 65536 % 16 = ((n / 65536 % 16 : Nat) : Int) := by omega
    show Q (.int _) H
    rw [e]
    exact k
/-! ### a key -/
def sp_is_key : Sp := fun vs H Q _ => ∃ n : Nat, vs = [.int (n : Int)] ∧ Q (.bl (decide (n ≤ 4))) H
theorem ok_is_key (T : Txt K mg a d) : FnOk P w K mg base CX0 1 a.f_is_key d.f_is_key ["number"] sp_is_key := by
  refine T.F_is_key.ok sc_is_key (fun vs H Q E h => ?_) (fun cdv A outer s H vs Q E hr h => ⟨_, (pss_one (ps_ret (pe_cmpR op_lt (pv 0) (pe_callB call_len_seq (by rfl) T.n_len PySem.boot_len (pa_cons (pe_glob (v := .ref a.t_STEPS) (by rfl) T.k_STEPS rfl) pa_nil)) (nomark _)))), ?_⟩)
  · obtain ⟨n, rfl, _⟩ := h
    rfl
  · obtain ⟨n, rfl, k⟩ := h
    refine ⟨_, rfl, a.t_STEPS, _, rfl, .inr (T.t_STEPS _), _, _, rfl, rfl, ?_⟩
    have e : decide ((n : Int) < ([V.ref a.t_STEPS_0, .ref a.t_STEPS_1, .ref a.t_STEPS_2, .ref a.t_STEPS_3, .ref a.t_STEPS_4].length : Int)) = decide (n ≤ 4) := by
      rw [decide_eq_decide]
      show (n : Int) < 5 ↔ _
      omega
    show Q (.bl _) H
    rw [e]
    exact k
/-! ### where a key leads -/
theorem step_of (T : Txt K mg a d) {x y k : Nat} (hx : x < 16) (hy : y < 16) (hk : k ≤ 4) : ∃ (s : Addr) (i j : Int),
    atI [V.ref a.t_STEPS_0, .ref a.t_STEPS_1, .ref a.t_STEPS_2, .ref a.t_STEPS_3, .ref a.t_STEPS_4] (k : Int) = some (.ref s) ∧ (∀ H, SqT K H s [.int i, .int j]) ∧
    ((x : Int) + i) % 16 = ((Ge09.goes x y k).1 : Nat) ∧ ((y : Int) + j) % 16 = ((Ge09.goes x y k).2 : Nat) := by
  have h : k = 0 ∨ k = 1 ∨ k = 2 ∨ k = 3 ∨ k = 4 := by omega
  rcases h with h | h | h | h | h <;> subst h
  · exact ⟨_, 0, 0, rfl, T.t_STEPS_0, by show _ = ((x : Nat) : Int); omega, by show _ = ((y : Nat) : Int); omega⟩
  · exact ⟨_, 1, 0, rfl, T.t_STEPS_1, by show _ = (((x + 1) % 16 : Nat) : Int); omega, by show _ = ((y : Nat) : Int); omega⟩
  · exact ⟨_, 0, 1, rfl, T.t_STEPS_2, by show _ = ((x : Nat) : Int); omega, by show _ = (((y + 1) % 16 : Nat) : Int); omega⟩
  · exact ⟨_, -1, 0, rfl, T.t_STEPS_3, by show _ = (((x + 16 - 1) % 16 : Nat) : Int); omega, by show _ = ((y : Nat) : Int); omega⟩
  · exact ⟨_, 0, -1, rfl, T.t_STEPS_4, by show _ = ((x : Nat) : Int); omega, by show _ = (((y + 16 - 1) % 16 : Nat) : Int); omega⟩
def sp_place_ahead (K : PySem.W.Frag) : Sp := fun vs H Q _ => ∃ (t : Addr) (x y k : Nat), vs = [.ref t, .int (k : Int)] ∧ SqT K H t (pt x y) ∧ x < 16 ∧ y < 16 ∧ k ≤ 4 ∧
  ∀ p, H p = none → Q (.ref p) (upd H p (.tup (pt (Ge09.goes x y k).1 (Ge09.goes x y k).2)))
theorem ok_place_ahead (T : Txt K mg a d) : FnOk P w K mg base CX0 1 a.f_place_ahead d.f_place_ahead ["place", "key"] (sp_place_ahead K) := by
  refine T.F_place_ahead.ok sc_place_ahead (fun vs H Q E h => ?_) (fun cdv A outer s H vs Q E hr h => ⟨_, (pss_cons (ps_set (i := 2) sc_place_ahead.nd rfl (Or.inl rfl) (pe_ix ix_tup (pe_glob (v := .ref a.t_STEPS) (by rfl) T.k_STEPS rfl) (pv 1) (fun _ _ => rfl)))
    (pss_one (ps_ret (pe_tup (pa_cons (pe_op op_mod (pe_op op_add (pe_ix ix_tup (pv 0) pe_int (fun _ _ => rfl)) (pe_ix ix_tup (pv 2) pe_int (fun _ _ => rfl))) (pe_k T.k_FIELD_SIZE)) (pa_cons (pe_op op_mod (pe_op op_add (pe_ix ix_tup (pv 0) pe_int (fun _ _ => rfl)) (pe_ix ix_tup (pv 2) pe_int (fun _ _ => rfl))) (pe_k T.k_FIELD_SIZE)) pa_nil)))))), ?_⟩)
  · obtain ⟨t, x, y, k, rfl, _⟩ := h
    rfl
  · obtain ⟨t, x, y, k, rfl, ht, hx, hy, hk, q⟩ := h
    obtain ⟨s, i, j, h1, h2, e1, e2⟩ := step_of T hx hy hk
    refine ⟨_, rfl, _, _, _, _, rfl, rfl, T.t_STEPS H, h1, ?_⟩
    refine ⟨_, rfl, _, _, _, _, rfl, rfl, ht, atI_nat (j := 0) rfl, _, rfl, _, _, _, _, rfl, rfl, h2 H, atI_nat (j := 0) rfl, _, _, rfl, rfl, _, _, rfl, rfl, (by show (0 : Int) < 16; decide), ?_⟩
    refine ⟨_, rfl, _, _, _, _, rfl, rfl, ht, atI_nat (j := 1) rfl, _, rfl, _, _, _, _, rfl, rfl, h2 H, atI_nat (j := 1) rfl, _, _, rfl, rfl, _, _, rfl, rfl, (by show (0 : Int) < 16; decide), ?_⟩
    refine ⟨by show 2 ≤ sizeLine; decide, fun p hp => ?_⟩
    have r := q p hp
    simp only [pt, ← e1, ← e2] at r
    exact r
/-! ### the players with another in one's place -/
theorem cut_take {xs : List V} {i : Nat} (h : i ≤ xs.length) : cutV xs none (some (i : Int)) = xs.take i := by
  unfold cutV
  rw [HT.sIx_nat, HT.sIx_none, Nat.min_eq_left h, List.drop_zero, Nat.sub_zero]
theorem cut_drop {xs : List V} {i : Nat} (h : i ≤ xs.length) : cutV xs (some (i : Int)) none = xs.drop i := by
  unfold cutV
  rw [HT.sIx_nat, HT.sIx_none, Nat.min_eq_left h]
  exact List.take_of_length_le (by simp)
theorem cut_both {xs : List V} {i j : Nat} (h : i ≤ j) (h' : j ≤ xs.length) : cutV xs (some (i : Int)) (some (j : Int)) = (xs.take j).drop i := by
  unfold cutV
  rw [HT.sIx_nat, HT.sIx_nat, Nat.min_eq_left h', Nat.min_eq_left (Nat.le_trans h h'), List.drop_take]
theorem set_cut {xs : List V} {i : Nat} {v : V} (h : i < xs.length) : xs.take i ++ [v] ++ xs.drop (i + 1) = xs.set i v := by
  rw [List.set_eq_take_append_cons_drop, if_pos h, List.append_assoc]
  rfl
def sp_with_player (a : Ad) : Sp := fun vs H Q _ => ∃ (q dx l c : Addr) (k : Int) (i : Nat) (v : V) (xs : List V), vs = [.ref q, .int (i : Int), v] ∧ H q = some (.ins a.c_World dx (woF l c k)) ∧ H l = some (.lst xs) ∧ i < xs.length ∧ xs.length ≤ 100 ∧
  ∀ H' p, Same H H' → H p = none → H' p = some (.lst (xs.set i v)) → Q (.ref p) H'
theorem ok_with_player (T : Txt K mg a d) : FnOk P w K mg base CX0 1 a.f_with_player d.f_with_player ["world", "number", "player"] (sp_with_player a) := by
  refine T.F_with_player.ok sc_with_player (fun vs H Q E h => ?_) (fun cdv A outer s H vs Q E hr h => ⟨_, (pss_one (ps_ret (pe_op op_cat (pe_op op_cat (pe_slice sl_list (pe_fld (pv 0) rfl) po_none (po_some (pv 1))) (pe_lst (pa_cons (pv 2) pa_nil))) (pe_slice sl_list (pe_fld (pv 0) rfl) (po_some (pe_op op_add (pv 1) pe_int)) po_none)))), ?_⟩)
  · obtain ⟨q, dx, l, c, k, i, v, xs, rfl, _⟩ := h
    rfl
  · obtain ⟨q, dx, l, c, k, i, v, xs, rfl, hq, hl, hi, h100, kk⟩ := h
    refine ⟨_, rfl, q, _, dx, _, _, rfl, hq, T.cl_World, T.na_World_players, lk1, _, rfl, _, rfl, l, xs, rfl, SqL.of hl, fun p1 n1 => ?_⟩
    rw [cut_take (Nat.le_of_lt hi)]
    have s1 := same_upd (o := .lst (xs.take i)) n1
    refine ⟨_, rfl, by show 1 ≤ sizeLine; decide, fun p2 n2 => ?_⟩
    have s2 := same_upd (o := .lst [v]) n2
    refine ⟨p1, p2, xs.take i, [v], rfl, rfl, s2 _ _ upd_same, upd_same, small (by simp; omega), fun p3 n3 => ?_⟩
    have s3 := same_upd (o := .lst (xs.take i ++ [v])) n3
    have s13 := s1.trans (s2.trans s3)
    refine ⟨_, rfl, q, _, dx, _, _, rfl, s13 _ _ hq, T.cl_World, T.na_World_players, lk1, _, rfl, _, _, rfl, rfl, _, rfl, l, xs, rfl, SqL.of (s13 _ _ hl), fun p4 n4 => ?_⟩
    have e1 : (i : Int) + 1 = ((i + 1 : Nat) : Int) := by omega
    rw [e1, cut_drop (Nat.succ_le_of_lt hi)]
    have s4 := same_upd (o := .lst (xs.drop (i + 1))) n4
    refine ⟨p3, p4, _, _, rfl, rfl, s4 _ _ upd_same, upd_same, small (by simp; omega), fun p5 n5 => ?_⟩
    have s5 := same_upd (o := .lst (xs.take i ++ [v] ++ xs.drop (i + 1))) n5
    have all := s13.trans (s4.trans s5)
    refine kk _ p5 all ((s13.trans s4).free n5) ?_
    rw [upd_same, set_cut hi]
end Pa

set_option Elab.async false
set_option linter.all false
set_option maxRecDepth 100000
set_option maxHeartbeats 2000000
namespace Pa
open PySem PySem.Spec PyProof.Rows L2
variable {P : Program} {w : PySem.World} {K : PySem.W.Frag} {mg : Str → Option Value} {base : Heap} {a : Ad} {d : Fd}
/-! ### the first world -/
theorem sqT_stay {H H' : Hp} {D t : Addr} {xs ys : List V} (e : Stay [D] H H') (hD : H D = some (.lst ys)) (h : SqT K H t xs) : SqT K H' t xs := by
  rcases h with (h | ⟨o, h⟩) | h
  · exact .inl (.inl (e _ _ h fun z => ne_of h hD (fun q => by cases q) (List.mem_singleton.mp z)))
  · exact .inl (.inr ⟨o, e _ _ h fun z => ne_of h hD (fun q => by cases q) (List.mem_singleton.mp z)⟩)
  · exact .inr h
theorem PlayerAt.stay {H H' : Hp} {D p : Addr} {x : Nat × Nat × Nat} {ys : List V} (h : PlayerAt K a H p x) (e : Stay [D] H H') (hD : H D = some (.lst ys)) : PlayerAt K a H' p x := by
  obtain ⟨dx, t, h1, h2⟩ := h
  exact ⟨dx, t, e _ _ h1 fun z => ne_of h1 hD (fun q => by cases q) (List.mem_singleton.mp z), sqT_stay e hD h2⟩
def first (i : Nat) : Nat × Nat × Nat := (4 * i, 4 * i, 0)
def sp_first_world (K : PySem.W.Frag) (a : Ad) : Sp := fun vs H Q _ => ∃ n s : Nat, vs = [.int (n : Int), .int (s : Int)] ∧ 1 ≤ n ∧ n ≤ 4 ∧
  ∀ H' q, Same H H' → WorldAt K a H' q (Ge09.start n s) → Q (.ref q) H'
theorem ok_first_world (T : Txt K mg a d) : FnOk P w K mg base CX0 3 a.f_first_world d.f_first_world ["how_many", "seed"] (sp_first_world K a) := by
  refine T.F_first_world.ok sc_first_world (fun vs H Q E h => ?_) (fun cdv A outer s H vs Q E hr h => ⟨_, (pss_cons (ps_setLc (i := 2) (own := [("i", 3)]) rfl sc_first_world.nd rfl rfl (sw_true rfl rfl rfl (by decide +kernel)) (pi_range1 (by rfl) T.n_range (pa_cons (pv 0) pa_nil)) (blkOk_by (own := [("i", 3)]) (N := ["how_many", "seed", "players", "i"]) (sc := defScope s_first_world) (by decide +kernel)) (fun _ _ _ _ _ => pg_name (i := 3) sc_first_world.nd rfl (Or.inl rfl)) (fun _ _ _ _ _ => pts_nil) (fun _ _ _ _ _ => (pe_make T.mk_Player (ok_Player_init T) (hr.mono (by decide)) (by rfl) T.g_Player T.b_Player_init .nil pass0 (pa_cons (pe_tup (pa_cons (pe_op op_mul pe_int (pv 3)) (pa_cons (pe_op op_mul pe_int (pv 3)) pa_nil))) (pa_cons pe_int pa_nil)))))
    (pss_one (ps_ret (pe_make T.mk_World (ok_World_init T) (hr.mono (by decide)) (by rfl) T.g_World T.b_World_init .nil pass0 (pa_cons (pv 2) (pa_cons (pe_glob (v := .ref a.t_FIRST_COIN) (by rfl) T.k_FIRST_COIN rfl) (pa_cons (pe_op op_mod (pv 1) (pe_k T.k_LUCK_RANGE)) pa_nil))))))), ?_⟩)
  · obtain ⟨n, s, rfl, _⟩ := h
    rfl
  · obtain ⟨n, sd, rfl, n1, n4, k⟩ := h
    refine ⟨_, rfl, (n : Int), rfl, by omega, by omega, fun D nD => ?_⟩
    refine lc_range (lo := 0) (n := n) (fun i H' => Same H H' ∧ ∃ ps, H' D = some (.lst (ps.map V.ref)) ∧ Each (PlayerAt K a H') ps ((List.range i).map first)) ⟨same_upd nD, [], upd_same, Each.nil⟩ ?_ ?_
    · rintro i H1 hi ⟨s1, ps, hD, hp⟩
      refine ⟨rfl, ?_⟩
      refine ⟨_, rfl, _, _, rfl, rfl, .inl ⟨by decide, by decide⟩, _, rfl, _, _, rfl, rfl, .inl ⟨by decide, by decide⟩, by show 2 ≤ sizeLine; decide, fun t nt => ?_⟩
      intro x dx nx nd ne
      refine ⟨x, dx, t, 0, rfl, upd_same, fun H2 h2 st => ⟨rfl, ?_⟩⟩
      have s3 := same_made nx nd st
      have s13 : Same H1 H2 := (same_upd nt).trans s3
      have hD2 := s13 _ _ hD
      have st3 : Stay [D] H2 (upd H2 D (.lst (ps.map V.ref ++ [.ref x]))) := stay_upd
      have hl : ps.length = i := by rw [hp.len]; simp
      refine ⟨_, hD2, smaller (by simp; omega), fun b o e => ?_, ps ++ [x], by rw [upd_same, List.map_append]; rfl, ?_⟩
      · have nb : b ≠ D := ne_of_none e nD
        rw [upd_ne nb]
        exact s13 _ _ (s1 _ _ e)
      · rw [List.range_succ, List.map_append]
        refine (hp.mono fun p y _ _ r => ((r.fix (Same.fix s13)).stay st3 hD2)).add ?_
        refine PlayerAt.stay ⟨dx, t, h2, ?_⟩ st3 hD2
        have e : ((4 : Int) * (0 + (i : Int))) = ((4 * i : Nat) : Int) := by omega
        refine SqT.of ?_
        show H2 t = some (.tup [.int ((4 * i : Nat) : Int), .int ((4 * i : Nat) : Int)])
        rw [← e]
        exact s3 _ _ upd_same
    · rintro H1 ⟨s1, ps, hD, hp⟩
      refine ⟨_, rfl, _, rfl, _, _, rfl, rfl, (by show (0 : Int) < 2147483648; decide), ?_⟩
      intro x dx nx nd ne
      refine ⟨x, dx, D, a.t_FIRST_COIN, _, rfl, upd_same, fun H2 h2 st => ⟨rfl, ?_⟩⟩
      have s2 := same_made nx nd st
      refine k _ x (s1.trans s2) ⟨dx, D, a.t_FIRST_COIN, ps, ?_, s2 _ _ hD, hp.mono fun p y _ _ r => r.fix (Same.fix s2), ?_, T.t_FIRST_COIN _⟩
      · rw [h2]
        have e : (sd : Int) % 2147483648 = ((sd % 2147483648 : Nat) : Int) := by omega
        rw [e]
        rfl
      · show (List.range n).map first ≠ []
        intro z
        have := congrArg List.length z
        simp at this
        omega
end Pa

set_option Elab.async false
set_option linter.all false
set_option maxRecDepth 100000
set_option maxHeartbeats 2000000
namespace Pa
open PySem PySem.Spec PyProof.Rows L2
variable {P : Program} {w : PySem.World} {K : PySem.W.Frag} {mg : Str → Option Value} {base : Heap} {a : Ad} {d : Fd}
/-! ### places as data -/
def pairD (x y : Nat) : PyData := .tuple [.int (x : Int), .int (y : Int)]
theorem pairD_lay (x y : Nat) : (pairD x y).canLay0 = true := by simp [pairD, PyData.canLay0, PyData.canLayAll0]
theorem pairD_depth (x y : Nat) : (pairD x y).depth ≤ 1 := by simp [pairD, PyData.depth, PyData.depthAll]
theorem pairD_shaped (x y : Nat) : SeqAt.shaped (pairD x y) = true := by
  have h := pairD_depth x y
  show ((pairD x y).canLay0 && decide ((pairD x y).depth ≤ 64)) = true
  rw [pairD_lay, decide_eq_true (by omega)]
  rfl
def placesD (l : List (Nat × Nat × Nat)) : List PyData := l.map fun p => pairD p.1 p.2.1
theorem placesD_lay : ∀ l, PyData.canLayAll0 (placesD l) = true
  | [] => by simp [placesD, PyData.canLayAll0]
  | p :: l => by
    have h := placesD_lay l
    unfold placesD at h ⊢
    simp [PyData.canLayAll0, pairD_lay, h]
theorem placesD_depth : ∀ l, PyData.depthAll (placesD l) ≤ 1
  | [] => by simp [placesD, PyData.depthAll]
  | p :: l => by
    have h := placesD_depth l
    have h2 := pairD_depth p.1 p.2.1
    unfold placesD at h ⊢
    simp only [List.map_cons, PyData.depthAll]
    omega
theorem placesD_shaped (l : List (Nat × Nat × Nat)) : SeqAt.shaped (.list (placesD l)) = true := by
  have h := placesD_depth l
  show (PyData.canLay0 (.list (placesD l)) && decide (PyData.depth (.list (placesD l)) ≤ 64)) = true
  have h1 : PyData.canLay0 (.list (placesD l)) = true := by simp only [PyData.canLay0]; exact placesD_lay l
  have h2 : PyData.depth (.list (placesD l)) ≤ 64 := by simp only [PyData.depth]; omega
  rw [h1, decide_eq_true h2]
  rfl
theorem pairD_eqv (x y u v : Nat) : PyData.eqv (pairD x y) (pairD u v) = (x == u && y == v) := by
  have e : PyData.eqv (pairD x y) (pairD u v) = (((x : Int) == (u : Int)) && (((y : Int) == (v : Int)) && true)) := by simp only [pairD, PyData.eqv, PyData.eqvAll]
  have i : ∀ m n : Nat, ((m : Int) == (n : Int)) = (m == n) := fun m n => by
    rw [Bool.eq_iff_iff, beq_iff_eq, beq_iff_eq]
    omega
  rw [e, i, i, Bool.and_true]
theorem any_places (l : List (Nat × Nat × Nat)) (x y : Nat) : ((placesD l).any fun z => PyData.eqv z (pairD x y)) = l.any fun p => p.1 == x && p.2.1 == y := by
  unfold placesD
  rw [List.any_map]
  congr 1
  funext p
  exact pairD_eqv _ _ _ _
theorem Dp_pair {H : Hp} {t : Addr} {x y : Nat} (h : SqT K H t (pt x y)) : Dp K H (.ref t) (pairD x y) := .tup h (.cons (.int _) (.cons (.int _) .nil))
/-! ### the places of the players -/
theorem places_of {H : Hp} : ∀ {ps : List Addr} {xs : List (Nat × Nat × Nat)}, Each (PlayerAt K a H) ps xs → ∃ ts : List Addr, Each (fun p t => ∃ dx s, H p = some (.ins a.c_Player dx (plF t s))) ps ts ∧ Each (fun t x => SqT K H t (pt x.1 x.2.1)) ts xs
  | [], [], _ => ⟨[], Each.nil, Each.nil⟩
  | [], _ :: _, e => by have := e.len; simp at this
  | _ :: _, [], e => by have := e.len; simp at this
  | p :: ps, x :: xs, e => by
    obtain ⟨ts, e1, e2⟩ := places_of (ps := ps) (xs := xs) ⟨by have := e.len; simpa using this, fun i q y hq hy => e.at_ (i + 1) q y (by simpa using hq) (by simpa using hy)⟩
    obtain ⟨dx, t, h1, h2⟩ := e.at_ 0 p x rfl rfl
    refine ⟨t :: ts, ⟨by simp [e1.len], fun i q y hq hy => ?_⟩, ⟨by simp [e2.len], fun i q y hq hy => ?_⟩⟩
    · cases i with
      | zero => cases hq; cases hy; exact ⟨dx, _, h1⟩
      | succ i => exact e1.at_ i q y (by simpa using hq) (by simpa using hy)
    · cases i with
      | zero => cases hq; cases hy; exact h2
      | succ i => exact e2.at_ i q y (by simpa using hq) (by simpa using hy)
theorem dpAll_places {H : Hp} : ∀ {ts : List Addr} {xs : List (Nat × Nat × Nat)}, Each (fun t x => SqT K H t (pt x.1 x.2.1)) ts xs → DpAll K H (ts.map V.ref) (placesD xs)
  | [], [], _ => .nil
  | [], _ :: _, e => by have := e.len; simp at this
  | _ :: _, [], e => by have := e.len; simp at this
  | t :: ts, x :: xs, e => .cons (Dp_pair (e.at_ 0 t x rfl rfl)) (dpAll_places (ts := ts) (xs := xs) ⟨by have := e.len; simpa using this, fun i q y hq hy => e.at_ (i + 1) q y (by simpa using hq) (by simpa using hy)⟩)
theorem take_get {α : Type} {l : List α} {i : Nat} {x : α} (h : l[i]? = some x) : l.take (i + 1) = l.take i ++ [x] := PaM.take_more h
/-! ### one key -/
def sp_after_key (K : PySem.W.Frag) (a : Ad) : Sp := fun vs H Q _ => ∃ (q : Addr) (n i k : Nat) (w : Ge09.World), vs = [.ref q, .int (i : Int), .int (k : Int)] ∧ WorldAt K a H q w ∧ PaM.WorldOk n w ∧ i < n ∧ n ≤ 4 ∧ k ≤ 4 ∧
  ∀ H' r, Same H H' → WorldAt K a H' r (Ge09.turn w i k) → Q (.ref r) H'
theorem turn_stay {w : Ge09.World} {i k x y s : Nat} (h : w.players[i]? = some (x, y, s)) (c : (w.players.any fun p => p.1 == (Ge09.goes x y k).1 && p.2.1 == (Ge09.goes x y k).2) = true) : Ge09.turn w i k = w := by
  unfold Ge09.turn
  rw [h]
  simp only []
  rw [if_pos c]
theorem turn_move {w : Ge09.World} {i k x y s : Nat} (h : w.players[i]? = some (x, y, s)) (c : (w.players.any fun p => p.1 == (Ge09.goes x y k).1 && p.2.1 == (Ge09.goes x y k).2) = false) (n : Ge09.goes x y k ≠ w.coin) :
    Ge09.turn w i k = { w with players := w.players.set i ((Ge09.goes x y k).1, (Ge09.goes x y k).2, s) } := by
  unfold Ge09.turn
  rw [h]
  simp only []
  rw [if_neg (by rw [c]; exact Bool.false_ne_true), if_neg n]
theorem turn_coin {w : Ge09.World} {i k x y s : Nat} (h : w.players[i]? = some (x, y, s)) (c : (w.players.any fun p => p.1 == (Ge09.goes x y k).1 && p.2.1 == (Ge09.goes x y k).2) = false) (n : Ge09.goes x y k = w.coin) :
    Ge09.turn w i k = { players := w.players.set i ((Ge09.goes x y k).1, (Ge09.goes x y k).2, s + 1), coin := (Ge09.next w.luck / 65536 % 16, Ge09.next (Ge09.next w.luck) / 65536 % 16), luck := Ge09.next (Ge09.next w.luck) } := by
  unfold Ge09.turn
  rw [h]
  simp only []
  rw [if_neg (by rw [c]; exact Bool.false_ne_true), if_pos n]
  rfl
theorem set_ne {α : Type} {l : List α} {i : Nat} {x : α} (h : l ≠ []) : l.set i x ≠ [] := fun z => h (List.eq_nil_of_length_eq_zero (by have := congrArg List.length z; simpa using this))
theorem ok_after_key (T : Txt K mg a d) : FnOk P w K mg base CX0 3 a.f_after_key d.f_after_key ["world", "number", "key"] (sp_after_key K a) := by
  refine T.F_after_key.ok sc_after_key (fun vs H Q E h => ?_) (fun cdv A outer s H vs Q E hr h => ⟨_, (pss_cons (ps_set (i := 3) sc_after_key.nd rfl (Or.inl rfl) (pe_ix ix_list (pe_fld (pv 0) rfl) (pv 1) (fun _ _ => rfl)))
    (pss_cons (ps_set (i := 4) sc_after_key.nd rfl (Or.inl rfl) (pe_call (ok_place_ahead T) (hr.mono (by decide)) (by rfl) T.g_place_ahead T.F_place_ahead.kp T.b_place_ahead .nil pass0 (pa_cons (pe_fld (pv 3) rfl) (pa_cons (pv 2) pa_nil))))
    (pss_cons (ps_if (pt_cmpR (op_inD (hu65 hr)) (pv 4) (pe_lc (own := [("other", 8)]) rfl sc_after_key.nd (pi_list (pe_fld (pv 0) rfl)) (blkOk_by (own := [("other", 8)]) (N := ["world", "number", "key", "player", "place", "luck_for_x", "luck_for_y", "coin", "other"]) (sc := defScope s_after_key) (by decide +kernel)) (fun _ _ _ _ _ => pg_name (i := 8) sc_after_key.nd rfl (Or.inl rfl)) (fun _ _ _ _ _ => pts_nil) (fun _ _ _ _ _ => (pe_fldK (k := K) rfl (pv 8) rfl))) (by rfl)) (pss_one (ps_ret (pv 0))) pss_nil)
    (pss_cons (ps_if (pt_cmpR (op_neD hr.units) (pv 4) (pe_fld (pv 0) rfl) (nomark _)) (pss_one (ps_ret (pe_make T.mk_World (ok_World_init T) (hr.mono (by decide)) (by rfl) T.g_World T.b_World_init .nil pass0 (pa_cons (pe_call (ok_with_player T) (hr.mono (by decide)) (by rfl) T.g_with_player T.F_with_player.kp T.b_with_player .nil pass0 (pa_cons (pv 0) (pa_cons (pv 1) (pa_cons (pe_make T.mk_Player (ok_Player_init T) (hr.mono (by decide)) (by rfl) T.g_Player T.b_Player_init .nil pass0 (pa_cons (pv 4) (pa_cons (pe_fld (pv 3) rfl) pa_nil))) pa_nil)))) (pa_cons (pe_fld (pv 0) rfl) (pa_cons (pe_fld (pv 0) rfl) pa_nil)))))) pss_nil)
    (pss_cons (ps_set (i := 5) sc_after_key.nd rfl (Or.inl rfl) (pe_call (ok_next_luck T) (hr.mono (by decide)) (by rfl) T.g_next_luck T.F_next_luck.kp T.b_next_luck .nil pass0 (pa_cons (pe_fld (pv 0) rfl) pa_nil)))
    (pss_cons (ps_set (i := 6) sc_after_key.nd rfl (Or.inl rfl) (pe_call (ok_next_luck T) (hr.mono (by decide)) (by rfl) T.g_next_luck T.F_next_luck.kp T.b_next_luck .nil pass0 (pa_cons (pv 5) pa_nil)))
    (pss_cons (ps_set (i := 7) sc_after_key.nd rfl (Or.inl rfl) (pe_tup (pa_cons (pe_call (ok_column_or_row T) (hr.mono (by decide)) (by rfl) T.g_column_or_row T.F_column_or_row.kp T.b_column_or_row .nil pass0 (pa_cons (pv 5) pa_nil)) (pa_cons (pe_call (ok_column_or_row T) (hr.mono (by decide)) (by rfl) T.g_column_or_row T.F_column_or_row.kp T.b_column_or_row .nil pass0 (pa_cons (pv 6) pa_nil)) pa_nil))))
    (pss_one (ps_ret (pe_make T.mk_World (ok_World_init T) (hr.mono (by decide)) (by rfl) T.g_World T.b_World_init .nil pass0 (pa_cons (pe_call (ok_with_player T) (hr.mono (by decide)) (by rfl) T.g_with_player T.F_with_player.kp T.b_with_player .nil pass0 (pa_cons (pv 0) (pa_cons (pv 1) (pa_cons (pe_make T.mk_Player (ok_Player_init T) (hr.mono (by decide)) (by rfl) T.g_Player T.b_Player_init .nil pass0 (pa_cons (pv 4) (pa_cons (pe_op op_add (pe_fld (pv 3) rfl) pe_int) pa_nil))) pa_nil)))) (pa_cons (pv 7) (pa_cons (pv 6) pa_nil))))))))))))), ?_⟩)
  · obtain ⟨q, n, i, k, w, rfl, _⟩ := h
    rfl
  · obtain ⟨q, n, i, k, w, rfl, W, ok, hi, n4, hk, kk⟩ := h
    obtain ⟨dw, l, c, ps, hq, hl, hp, hne, hc⟩ := id W
    have hix : i < w.players.length := by rw [ok.len]; exact hi
    obtain ⟨⟨x, y, sc⟩, hxy⟩ : ∃ p, w.players[i]? = some p := ⟨_, List.getElem?_eq_getElem hix⟩
    have hlt := ok.at_ _ (List.mem_of_getElem? hxy)
    obtain ⟨p, hpi, dp, t, hpp, ht⟩ := hp.get hxy
    obtain ⟨ts, ets, exs⟩ := places_of hp
    have hps : ps.length = n := by rw [hp.len, ok.len]
    -- player = world.players[number]
    refine ⟨_, rfl, q, _, dw, _, _, rfl, hq, T.cl_World, T.na_World_players, lk1, _, rfl, l, _, _, _, rfl, rfl, SqL.of hl, atI_nat (get_map V.ref hpi), ?_⟩
    -- place = place_ahead(player.place, key)
    refine ⟨_, rfl, p, _, dp, _, _, rfl, hpp, T.cl_Player, T.na_Player_place, lk1, _, rfl, t, x, y, k, rfl, ht, hlt.1, hlt.2, hk, fun np nnp => ?_⟩
    have s1 : Same H (upd H np (.tup (pt (Ge09.goes x y k).1 (Ge09.goes x y k).2))) := same_upd nnp
    generalize hH1 : upd H np (.tup (pt (Ge09.goes x y k).1 (Ge09.goes x y k).2)) = H1 at s1
    have hnp : H1 np = some (.tup (pt (Ge09.goes x y k).1 (Ge09.goes x y k).2)) := by rw [← hH1]; exact upd_same
    -- place in [other.place for other in world.players]
    refine ⟨_, rfl, _, rfl, q, _, dw, _, _, rfl, s1 _ _ hq, T.cl_World, T.na_World_players, lk1, l, rfl, ⟨_, SqL.of (s1 _ _ hl)⟩, fun D nD => ?_⟩
    refine lc_list (K := K) (a := l) (xs := ps.map V.ref) (fun j H' => H' = upd H1 D (.lst ((ts.take j).map V.ref))) rfl (fun j H' _ e => ?_) ?_ ?_
    · rw [e]
      exact SqL.of (same_upd nD _ _ (s1 _ _ hl))
    · rintro j v H' hj rfl
      obtain ⟨pj, hpj, rfl⟩ := map_get hj
      obtain ⟨tj, htj, dj, sj, hpo⟩ := ets.got hpj
      refine ⟨rfl, ?_⟩
      refine ⟨_, rfl, pj, _, dj, _, _, rfl, same_upd nD _ _ (s1 _ _ hpo), T.cl_Player, T.na_Player_place, lk1, _, upd_same, smaller ?_, ?_⟩
      · have := ets.len
        simp
        omega
      · rw [upd_upd, take_get htj, List.map_append]
        rfl
    · rintro H2 rfl
      have s2 : Same H1 (upd H1 D (.lst ((ts.take (ps.map V.ref).length).map V.ref))) := same_upd nD
      have etk : ts.take (ps.map V.ref).length = ts := List.take_of_length_le (by rw [List.length_map, ets.len]; exact Nat.le_refl _)
      rw [etk] at s2 ⊢
      generalize hH2 : upd H1 D (.lst (ts.map V.ref)) = H2 at s2
      have hD : H2 D = some (.lst (ts.map V.ref)) := by rw [← hH2]; exact upd_same
      have s12 := s1.trans s2
      refine ⟨_, _, Dp_pair (SqT.of (s2 _ _ hnp)), .lst (SqL.of hD) (dpAll_places (exs.mono fun _ _ _ _ r => Same.sqT s12 r)), pairD_shaped _ _, placesD_shaped _, _, rfl, ?_⟩
      rw [any_places]
      cases hany : (w.players.any fun p => p.1 == (Ge09.goes x y k).1 && p.2.1 == (Ge09.goes x y k).2) with
      | true =>
        refine iteT ?_
        refine ⟨_, rfl, ?_⟩
        exact kk _ q s12 (by rw [turn_stay hxy hany]; exact W.fix (Same.fix s12))
      | false =>
        refine iteF ?_
        -- place != world.coin
        refine ⟨_, rfl, _, rfl, q, _, dw, _, _, rfl, s12 _ _ hq, T.cl_World, T.na_World_coin, (lkN (by decide +kernel)).trans lk1, _, _, Dp_pair (SqT.of (s2 _ _ hnp)), Dp_pair (Same.sqT s12 hc), pairD_shaped _ _, pairD_shaped _ _, _, rfl, ?_⟩
        rw [pairD_eqv]
        have at2 : H2 np = some (.tup (pt (Ge09.goes x y k).1 (Ge09.goes x y k).2)) := s2 _ _ hnp
        cases hcoin : ((Ge09.goes x y k).1 == w.coin.1 && (Ge09.goes x y k).2 == w.coin.2) with
        | false =>
          have nc : Ge09.goes x y k ≠ w.coin := fun z => by rw [z] at hcoin; simp at hcoin
          refine iteT ?_
          refine ⟨_, rfl, _, rfl, _, rfl, _, rfl, p, _, dp, _, _, rfl, s12 _ _ hpp, T.cl_Player, T.na_Player_points, (lkN (by decide +kernel)).trans lk1, ?_⟩
          intro x1 dx1 nx1 nd1 ne1
          refine ⟨x1, dx1, np, _, rfl, upd_same, fun H3 h3 st3 => ⟨rfl, ?_⟩⟩
          have s3 := same_made nx1 nd1 st3
          have s13 := s12.trans s3
          refine ⟨q, dw, l, c, _, i, .ref x1, ps.map V.ref, rfl, s13 _ _ hq, s13 _ _ hl, by rw [List.length_map, hps]; exact hi, by rw [List.length_map]; omega, fun H4 pl s4 npl hpl => ?_⟩
          have s14 := s13.trans s4
          refine ⟨_, rfl, q, _, dw, _, _, rfl, s14 _ _ hq, T.cl_World, T.na_World_coin, (lkN (by decide +kernel)).trans lk1, _, rfl, q, _, dw, _, _, rfl, s14 _ _ hq, T.cl_World, T.na_World_luck, (lkN (by decide +kernel)).trans ((lkN (by decide +kernel)).trans lk1), ?_⟩
          intro x2 dx2 nx2 nd2 ne2
          refine ⟨x2, dx2, pl, c, _, rfl, upd_same, fun H5 h5 st5 => ⟨rfl, ?_⟩⟩
          have s5 := same_made nx2 nd2 st5
          have s15 := s14.trans s5
          refine kk _ x2 s15 ?_
          rw [turn_move hxy hany nc]
          refine ⟨dx2, pl, c, ps.set i x1, h5, ?_, (hp.mono fun _ _ _ _ r => r.fix (Same.fix s15)).put ⟨dx1, np, (s4.trans s5) _ _ h3, SqT.of ((s3.trans (s4.trans s5)) _ _ at2)⟩, set_ne hne, Same.sqT s15 hc⟩
          rw [s5 _ _ hpl, List.map_set]
        | true =>
          have hc' : Ge09.goes x y k = w.coin := by
            have e := Bool.and_eq_true_iff.mp hcoin
            exact Prod.ext (eq_of_beq e.1) (eq_of_beq e.2)
          refine iteF ?_
          refine ⟨_, rfl, q, _, dw, _, _, rfl, s12 _ _ hq, T.cl_World, T.na_World_luck, (lkN (by decide +kernel)).trans ((lkN (by decide +kernel)).trans lk1), w.luck, rfl, ?_⟩
          refine ⟨_, rfl, Ge09.next w.luck, rfl, ?_⟩
          refine ⟨_, rfl, Ge09.next w.luck, rfl, _, rfl, Ge09.next (Ge09.next w.luck), rfl, by show 2 ≤ sizeLine; decide, fun cp ncp => ?_⟩
          have sc2 : Same H2 (upd H2 cp (.tup (pt (Ge09.next w.luck / 65536 % 16) (Ge09.next (Ge09.next w.luck) / 65536 % 16)))) := same_upd ncp
          have s1c := s12.trans sc2
          refine ⟨_, rfl, _, rfl, _, rfl, _, rfl, p, _, dp, _, _, rfl, s1c _ _ hpp, T.cl_Player, T.na_Player_points, (lkN (by decide +kernel)).trans lk1, _, _, rfl, rfl, ?_⟩
          intro x1 dx1 nx1 nd1 ne1
          refine ⟨x1, dx1, np, _, rfl, upd_same, fun H3 h3 st3 => ⟨rfl, ?_⟩⟩
          have s3 := same_made nx1 nd1 st3
          have s13 := s1c.trans s3
          refine ⟨q, dw, l, c, _, i, .ref x1, ps.map V.ref, rfl, s13 _ _ hq, s13 _ _ hl, by rw [List.length_map, hps]; exact hi, by rw [List.length_map]; omega, fun H4 pl s4 npl hpl => ?_⟩
          have s14 := s13.trans s4
          refine ⟨_, rfl, _, rfl, ?_⟩
          intro x2 dx2 nx2 nd2 ne2
          refine ⟨x2, dx2, pl, cp, _, rfl, upd_same, fun H5 h5 st5 => ⟨rfl, ?_⟩⟩
          have s5 := same_made nx2 nd2 st5
          have s15 := s14.trans s5
          refine kk _ x2 s15 ?_
          rw [turn_coin hxy hany hc']
          refine ⟨dx2, pl, cp, ps.set i x1, h5, ?_, (hp.mono fun _ _ _ _ r => r.fix (Same.fix s15)).put ⟨dx1, np, ?_, SqT.of ((sc2.trans (s3.trans (s4.trans s5))) _ _ at2)⟩, set_ne hne, SqT.of ((s3.trans (s4.trans s5)) _ _ upd_same)⟩
          · rw [s5 _ _ hpl, List.map_set]
          · exact (s4.trans s5) _ _ h3
end Pa

set_option Elab.async false
set_option linter.all false
set_option maxRecDepth 100000
set_option maxHeartbeats 2000000
namespace Pa
open PySem PySem.Spec PyProof.Rows L2
variable {P : Program} {w : PySem.World} {K : PySem.W.Frag} {mg : Str → Option Value} {base : Heap} {a : Ad} {d : Fd}
/-! ### one tick -/
def sp_after_tick (K : PySem.W.Frag) (a : Ad) : Sp := fun vs H Q _ => ∃ (q t : Addr) (n : Nat) (ks : List Nat) (w : Ge09.World), vs = [.ref q, .ref t] ∧ WorldAt K a H q w ∧ PaM.WorldOk n w ∧ n ≤ 4 ∧ ks.length = n ∧ (∀ x ∈ ks, x ≤ 4) ∧ (SqL K H t (keyV ks) ∨ SqT K H t (keyV ks)) ∧
  ∀ H' r, Same H H' → WorldAt K a H' r (Ge09.tick w ks) → Q (.ref r) H'
theorem ok_after_tick (T : Txt K mg a d) : FnOk P w K mg base CX0 4 a.f_after_tick d.f_after_tick ["world", "pressed"] (sp_after_tick K a) := by
  refine T.F_after_tick.ok sc_after_tick (fun vs H Q E h => ?_) (fun cdv A outer s H vs Q E hr h => ⟨_, (pss_cons (ps_for PassesOwn.never rfl (pi_enumS (by rfl) T.n_enumerate (pa_cons (pv 1) pa_nil)) (pg_tup rfl (pgs_cons (pg_name (i := 2) sc_after_tick.nd rfl (Or.inl rfl)) (pgs_cons (pg_name (i := 3) sc_after_tick.nd rfl (Or.inl rfl)) pgs_nil))) (pss_one (ps_set (i := 0) sc_after_tick.nd rfl (Or.inl rfl) (pe_call (ok_after_key T) (hr.mono (by decide)) (by rfl) T.g_after_key T.F_after_key.kp T.b_after_key .nil pass0 (pa_cons (pv 0) (pa_cons (pv 2) (pa_cons (pv 3) pa_nil)))))))
    (pss_one (ps_ret (pv 0)))), ?_⟩)
  · obtain ⟨q, t, n, ks, w, rfl, _⟩ := h
    rfl
  · obtain ⟨q, t, n, ks, w, rfl, W, ok, n4, hn, hle, hS, kk⟩ := h
    refine ⟨_, rfl, t, keyV ks, rfl, ?_⟩
    rcases hS with hS | hS
    · refine .inl ⟨hS, ?_⟩
      refine for_it (walk_enum (xs := keyV ks)) (fun i σ H' => ∃ r v2 v3, σ = [some (.ref r), some (.ref t), v2, v3] ∧ Same H H' ∧ WorldAt K a H' r (Ge09.tick w (ks.take i))) ⟨q, none, none, rfl, Same.refl H, W⟩ (fun i σ H' _ ⟨_, _, _, _, s1, _⟩ => s1.seq hS) ?_ ?_
      · rintro i v σ H1 H2 hi ⟨r, v2, v3, rfl, s1, W1⟩ ⟨N, e1, e2, rfl, nN, rfl, h1, h2⟩
        cases h1
        obtain ⟨k, hk, rfl⟩ := map_get h2
        have sN := s1.trans (same_upd (o := .tup [V.int (i : Nat), V.int (k : Int)]) nN)
        refine ⟨N, _, rfl, SqT.of upd_same, rfl, ?_⟩
        refine ⟨_, _, rfl, ?_⟩
        refine ⟨_, _, rfl, ?_⟩
        refine ⟨rfl, ?_⟩
        refine ⟨_, rfl, _, rfl, _, rfl, r, n, i, k, Ge09.tick w (ks.take i), rfl, W1.fix (Same.fix (same_upd nN)), PaM.tick_ok ok _, ?_, n4, hle _ (List.mem_of_getElem? hk), fun H3 r3 s3 W3 => ?_⟩
        · rw [List.length_map] at hi
          omega
        · refine ⟨r3, _, _, rfl, sN.trans s3, ?_⟩
          rw [PaM.tick_more hk]
          exact W3
      · rintro σ H1 ⟨r, v2, v3, rfl, s1, W1⟩
        refine ⟨_, rfl, ?_⟩
        refine kk _ r s1 ?_
        rw [List.length_map, PaM.tick_all] at W1
        exact W1
    · refine .inr ⟨hS, ?_⟩
      refine for_it (walk_enumT (xs := keyV ks)) (fun i σ H' => ∃ r v2 v3, σ = [some (.ref r), some (.ref t), v2, v3] ∧ Same H H' ∧ WorldAt K a H' r (Ge09.tick w (ks.take i))) ⟨q, none, none, rfl, Same.refl H, W⟩ (fun i σ H' _ ⟨_, _, _, _, s1, _⟩ => Same.sqT s1 hS) ?_ ?_
      · rintro i v σ H1 H2 hi ⟨r, v2, v3, rfl, s1, W1⟩ ⟨N, e1, e2, rfl, nN, rfl, h1, h2⟩
        cases h1
        obtain ⟨k, hk, rfl⟩ := map_get h2
        have sN := s1.trans (same_upd (o := .tup [V.int (i : Nat), V.int (k : Int)]) nN)
        refine ⟨N, _, rfl, SqT.of upd_same, rfl, ?_⟩
        refine ⟨_, _, rfl, ?_⟩
        refine ⟨_, _, rfl, ?_⟩
        refine ⟨rfl, ?_⟩
        refine ⟨_, rfl, _, rfl, _, rfl, r, n, i, k, Ge09.tick w (ks.take i), rfl, W1.fix (Same.fix (same_upd nN)), PaM.tick_ok ok _, ?_, n4, hle _ (List.mem_of_getElem? hk), fun H3 r3 s3 W3 => ?_⟩
        · rw [List.length_map] at hi
          omega
        · refine ⟨r3, _, _, rfl, sN.trans s3, ?_⟩
          rw [PaM.tick_more hk]
          exact W3
      · rintro σ H1 ⟨r, v2, v3, rfl, s1, W1⟩
        refine ⟨_, rfl, ?_⟩
        refine kk _ r s1 ?_
        rw [List.length_map, PaM.tick_all] at W1
        exact W1
/-! ### a world's numbers -/
abbrev rowV (w : Ge09.World) : List V := keyV (Ge09.worldRow w)
def three (p : Nat × Nat × Nat) : List Nat := [p.1, p.2.1, p.2.2]
theorem flat_more {l : List (Nat × Nat × Nat)} {i : Nat} {p : Nat × Nat × Nat} (h : l[i]? = some p) : (l.take (i + 1)).flatMap three = (l.take i).flatMap three ++ three p := by
  rw [take_get h, List.flatMap_append]
  simp
theorem flat_len : ∀ l : List (Nat × Nat × Nat), (l.flatMap three).length = 3 * l.length
  | [] => rfl
  | p :: l => by
    have := flat_len l
    simp only [List.flatMap_cons, List.length_append, List.length_cons, three, List.length_nil]
    omega
def sp_world_numbers (K : PySem.W.Frag) (a : Ad) : Sp := fun vs H Q _ => ∃ (q : Addr) (w : Ge09.World), vs = [.ref q] ∧ WorldAt K a H q w ∧ w.players.length ≤ 4 ∧
  ∀ H' p, Same H H' → H p = none → H' p = some (.lst (rowV w)) → Q (.ref p) H'
theorem ok_world_numbers (T : Txt K mg a d) : FnOk P w K mg base CX0 1 a.f_world_numbers d.f_world_numbers ["world"] (sp_world_numbers K a) := by
  refine T.F_world_numbers.ok sc_world_numbers (fun vs H Q E h => ?_) (fun cdv A outer s H vs Q E hr h => ⟨_, (pss_cons (ps_set (i := 1) sc_world_numbers.nd rfl (Or.inl rfl) (pe_lst pa_nil))
    (pss_cons (ps_for PassesOwn.never rfl (pi_list (pe_fld (pv 0) rfl)) (pg_name (i := 2) sc_world_numbers.nd rfl (Or.inl rfl)) (pss_one (ps_expr (pe_bm PySem.F.plainAttrs_list PySem.F.slot_list_extend PySem.F.type_list_extend mt_extend (pv 1) (pa_cons (pe_lst (pa_cons (pe_ix ix_tup (pe_fld (pv 2) rfl) pe_int (fun _ _ => rfl)) (pa_cons (pe_ix ix_tup (pe_fld (pv 2) rfl) pe_int (fun _ _ => rfl)) (pa_cons (pe_fld (pv 2) rfl) pa_nil)))) pa_nil)))))
    (pss_one (ps_ret (pe_op op_cat (pv 1) (pe_lst (pa_cons (pe_ix ix_tup (pe_fld (pv 0) rfl) pe_int (fun _ _ => rfl)) (pa_cons (pe_ix ix_tup (pe_fld (pv 0) rfl) pe_int (fun _ _ => rfl)) pa_nil)))))))), ?_⟩)
  · obtain ⟨q, w, rfl, _⟩ := h
    rfl
  · obtain ⟨q, w, rfl, W, n4, kk⟩ := h
    obtain ⟨dw, l, c, ps, hq, hl, hp, hne, hc⟩ := id W
    refine ⟨by show 0 ≤ sizeLine; decide, fun o no => ?_⟩
    have s1 : Same H (upd H o (.lst [])) := same_upd no
    refine ⟨_, rfl, q, _, dw, _, _, rfl, s1 _ _ hq, T.cl_World, T.na_World_players, lk1, l, rfl, ⟨_, SqL.of (s1 _ _ hl)⟩, ?_⟩
    refine for_list (K := K) (a := l) (xs := ps.map V.ref) (fun i σ H' => ∃ v2, σ = [some (.ref q), some (.ref o), v2] ∧ Same H H' ∧ H' o = some (.lst (keyV ((w.players.take i).flatMap three)))) ⟨none, rfl, s1, upd_same⟩ (fun i σ H' _ ⟨_, _, s, _⟩ => SqL.of (s _ _ hl)) ?_ ?_
    · rintro i v σ H1 hi ⟨v2, rfl, s, ho⟩
      obtain ⟨p, hpi, rfl⟩ := map_get hi
      obtain ⟨x, hx, dp, t, hpp, ht⟩ := hp.got hpi
      have ht1 := Same.sqT s ht
      refine ⟨_, rfl, .inl ⟨rfl, _, SqL.of ho⟩, ?_⟩
      refine ⟨_, rfl, p, _, dp, _, _, rfl, s _ _ hpp, T.cl_Player, T.na_Player_place, lk1, t, _, _, _, rfl, rfl, ht1, atI_nat (j := 0) rfl, ?_⟩
      refine ⟨_, rfl, p, _, dp, _, _, rfl, s _ _ hpp, T.cl_Player, T.na_Player_place, lk1, t, _, _, _, rfl, rfl, ht1, atI_nat (j := 1) rfl, ?_⟩
      refine ⟨_, rfl, p, _, dp, _, _, rfl, s _ _ hpp, T.cl_Player, T.na_Player_points, (lkN (by decide +kernel)).trans lk1, ?_⟩
      refine ⟨by show 3 ≤ sizeLine; decide, fun b nb => ?_⟩
      have sb := same_upd (o := .lst (keyV (three x))) nb
      refine ⟨o, b, _, _, rfl, rfl, sb _ _ ho, upd_same, small ?_, ?_⟩
      · have h1 := flat_len (w.players.take i)
        have h2 : (w.players.take i).length ≤ 4 := by rw [List.length_take]; omega
        show (keyV ((w.players.take i).flatMap three)).length + 3 ≤ 16777216
        simp only [keyV, List.length_map]
        omega
      · refine ⟨_, rfl, fun b' o' e => ?_, ?_⟩
        · rw [upd_ne (ne_of_none e no)]
          exact sb _ _ (s _ _ e)
        · rw [upd_same, flat_more hx]
          simp only [keyV, List.map_append]
          rfl
    · rintro σ H1 ⟨v2, rfl, s, ho⟩
      have etk : w.players.take (ps.map V.ref).length = w.players := List.take_of_length_le (by rw [List.length_map, hp.len]; exact Nat.le_refl _)
      rw [etk] at ho
      have hc1 := Same.sqT s hc
      refine ⟨_, rfl, _, rfl, q, _, dw, _, _, rfl, s _ _ hq, T.cl_World, T.na_World_coin, (lkN (by decide +kernel)).trans lk1, c, _, _, _, rfl, rfl, hc1, atI_nat (j := 0) rfl, ?_⟩
      refine ⟨_, rfl, q, _, dw, _, _, rfl, s _ _ hq, T.cl_World, T.na_World_coin, (lkN (by decide +kernel)).trans lk1, c, _, _, _, rfl, rfl, hc1, atI_nat (j := 1) rfl, ?_⟩
      refine ⟨by show 2 ≤ sizeLine; decide, fun b nb => ?_⟩
      have sb := same_upd (o := .lst (pt w.coin.1 w.coin.2)) nb
      refine ⟨o, b, _, _, rfl, rfl, sb _ _ ho, upd_same, small ?_, fun r nr => ?_⟩
      · have h1 := flat_len w.players
        show (keyV (w.players.flatMap three)).length + 2 ≤ 16777216
        simp only [keyV, List.length_map]
        omega
      · refine kk _ r (s.trans (sb.trans (same_upd nr))) ((s.trans sb).free nr) ?_
        rw [upd_same]
        simp only [rowV, keyV, Ge09.worldRow, List.map_append]
        rfl
end Pa

set_option Elab.async false
set_option linter.all false
set_option maxRecDepth 100000
set_option maxHeartbeats 2000000
namespace Pa
open PySem PySem.Spec PyProof.Rows L2
variable {P : Program} {w : PySem.World} {K : PySem.W.Frag} {mg : Str → Option Value} {base : Heap} {a : Ad} {d : Fd}
/-! ### all that a world has -/
theorem row_small {w : Ge09.World} (h : w.players.length ≤ 4) : (rowV w).length ≤ 100 := by
  show (keyV (Ge09.worldRow w)).length ≤ 100
  rw [List.length_map]
  show ((w.players.flatMap three) ++ [_, _]).length ≤ 100
  rw [List.length_append, flat_len]
  simp only [List.length_cons, List.length_nil]
  omega
def sp_numbers_with_luck (K : PySem.W.Frag) (a : Ad) : Sp := fun vs H Q _ => ∃ (q : Addr) (w : Ge09.World), vs = [.ref q] ∧ WorldAt K a H q w ∧ w.players.length ≤ 4 ∧
  ∀ H' p, Same H H' → H p = none → H' p = some (.lst (keyV (PaM.nums w))) → Q (.ref p) H'
theorem ok_numbers_with_luck (T : Txt K mg a d) : FnOk P w K mg base CX0 2 a.f_numbers_with_luck d.f_numbers_with_luck ["world"] (sp_numbers_with_luck K a) := by
  refine T.F_numbers_with_luck.ok sc_numbers_with_luck (fun vs H Q E h => ?_) (fun cdv A outer s H vs Q E hr h => ⟨_, (pss_one (ps_ret (pe_op op_cat (pe_call (ok_world_numbers T) (hr.mono (by decide)) (by rfl) T.g_world_numbers T.F_world_numbers.kp T.b_world_numbers .nil pass0 (pa_cons (pv 0) pa_nil)) (pe_lst (pa_cons (pe_fld (pv 0) rfl) pa_nil))))), ?_⟩)
  · obtain ⟨q, w, rfl, _⟩ := h
    rfl
  · obtain ⟨q, w, rfl, W, n4, kk⟩ := h
    obtain ⟨dw, l, c, ps, hq, hl, hp, hne, hc⟩ := id W
    refine ⟨_, rfl, q, w, rfl, W, n4, fun H1 p s1 np hp1 => ?_⟩
    refine ⟨_, rfl, q, _, dw, _, _, rfl, s1 _ _ hq, T.cl_World, T.na_World_luck, (lkN (by decide +kernel)).trans ((lkN (by decide +kernel)).trans lk1), by show 1 ≤ sizeLine; decide, fun b nb => ?_⟩
    have sb := same_upd (o := .lst [V.int (w.luck : Int)]) nb
    have len := row_small n4
    refine ⟨p, b, _, _, rfl, rfl, sb _ _ hp1, upd_same, small (by show (rowV w).length + 1 ≤ 16777216; omega), fun r nr => ?_⟩
    refine kk _ r (s1.trans (sb.trans (same_upd nr))) ((s1.trans sb).free nr) ?_
    rw [upd_same]
    simp only [PaM.nums, keyV, List.map_append]
    rfl
/-! ### are two worlds alike -/
def numsD (l : List Nat) : List PyData := l.map fun (n : Nat) => .int (n : Int)
theorem numsD_lay : ∀ l, PyData.canLayAll0 (numsD l) = true
  | [] => by simp [numsD, PyData.canLayAll0]
  | n :: l => by
    have h := numsD_lay l
    unfold numsD at h ⊢
    simp [PyData.canLayAll0, PyData.canLay0, h]
theorem numsD_depth : ∀ l, PyData.depthAll (numsD l) ≤ 0
  | [] => by simp [numsD, PyData.depthAll]
  | n :: l => by
    have h := numsD_depth l
    unfold numsD at h ⊢
    simp only [List.map_cons, PyData.depthAll, PyData.depth]
    omega
theorem numsD_shaped (l : List Nat) : SeqAt.shaped (.list (numsD l)) = true := by
  have h := numsD_depth l
  show (PyData.canLay0 (.list (numsD l)) && decide (PyData.depth (.list (numsD l)) ≤ 64)) = true
  have h1 : PyData.canLay0 (.list (numsD l)) = true := by simp only [PyData.canLay0]; exact numsD_lay l
  have h2 : PyData.depth (.list (numsD l)) ≤ 64 := by simp only [PyData.depth]; omega
  rw [h1, decide_eq_true h2]
  rfl
theorem numsD_all : ∀ l m : List Nat, PyData.eqvAll (numsD l) (numsD m) = decide (l = m)
  | [], [] => by simp [numsD, PyData.eqvAll]
  | [], _ :: _ => by simp [numsD, PyData.eqvAll]
  | _ :: _, [] => by simp [numsD, PyData.eqvAll]
  | x :: l, y :: m => by
    have h := numsD_all l m
    have e : PyData.eqvAll (numsD (x :: l)) (numsD (y :: m)) = (((x : Int) == (y : Int)) && PyData.eqvAll (numsD l) (numsD m)) := by simp only [numsD, List.map_cons, PyData.eqvAll, PyData.eqv]
    rw [e, h, Bool.eq_iff_iff, Bool.and_eq_true, beq_iff_eq, decide_eq_true_eq, decide_eq_true_eq, List.cons.injEq]
    constructor
    · rintro ⟨h1, h2⟩
      exact ⟨by omega, h2⟩
    · rintro ⟨h1, h2⟩
      exact ⟨by omega, h2⟩
theorem numsD_eqv (v w : Ge09.World) : PyData.eqv (.list (numsD (PaM.nums v))) (.list (numsD (PaM.nums w))) = decide (v = w) := by
  have e : PyData.eqv (.list (numsD (PaM.nums v))) (.list (numsD (PaM.nums w))) = PyData.eqvAll (numsD (PaM.nums v)) (numsD (PaM.nums w)) := by simp only [PyData.eqv]
  rw [e, numsD_all, decide_eq_decide]
  exact ⟨PaM.nums_inj, fun h => by rw [h]⟩
theorem dpAll_nums {H : Hp} : ∀ l : List Nat, DpAll K H (keyV l) (numsD l)
  | [] => .nil
  | x :: l => .cons (.int _) (dpAll_nums l)
def sp_are_alike (K : PySem.W.Frag) (a : Ad) : Sp := fun vs H Q _ => ∃ (q r : Addr) (v w : Ge09.World), vs = [.ref q, .ref r] ∧ WorldAt K a H q v ∧ WorldAt K a H r w ∧ v.players.length ≤ 4 ∧ w.players.length ≤ 4 ∧
  ∀ H', Same H H' → Q (.bl (decide (v = w))) H'
theorem ok_are_alike (T : Txt K mg a d) : FnOk P w K mg base CX0 3 a.f_are_alike d.f_are_alike ["world", "other"] (sp_are_alike K a) := by
  refine T.F_are_alike.ok sc_are_alike (fun vs H Q E h => ?_) (fun cdv A outer s H vs Q E hr h => ⟨_, (pss_one (ps_ret (pe_cmpR (op_eqD hr.units) (pe_call (ok_numbers_with_luck T) (hr.mono (by decide)) (by rfl) T.g_numbers_with_luck T.F_numbers_with_luck.kp T.b_numbers_with_luck .nil pass0 (pa_cons (pv 0) pa_nil)) (pe_call (ok_numbers_with_luck T) (hr.mono (by decide)) (by rfl) T.g_numbers_with_luck T.F_numbers_with_luck.kp T.b_numbers_with_luck .nil pass0 (pa_cons (pv 1) pa_nil)) (nomark _)))), ?_⟩)
  · obtain ⟨q, r, v, w, rfl, _⟩ := h
    rfl
  · obtain ⟨q, r, v, w, rfl, W1, W2, n4, m4, kk⟩ := h
    refine ⟨_, rfl, q, v, rfl, W1, n4, fun H1 p1 s1 np1 hp1 => ?_⟩
    refine ⟨_, rfl, r, w, rfl, W2.fix (Same.fix s1), m4, fun H2 p2 s2 np2 hp2 => ?_⟩
    refine ⟨_, _, .lst (SqL.of (s2 _ _ hp1)) (dpAll_nums _), .lst (SqL.of hp2) (dpAll_nums _), numsD_shaped _, numsD_shaped _, ?_⟩
    rw [numsD_eqv]
    exact kk _ (s1.trans s2)
/-! ### a world's sum -/
def sp_world_sum (K : PySem.W.Frag) (a : Ad) : Sp := fun vs H Q _ => ∃ (q : Addr) (w : Ge09.World), vs = [.ref q] ∧ WorldAt K a H q w ∧ w.players.length ≤ 4 ∧
  ∀ H', Same H H' → Q (.int (Ge09.sum w : Nat)) H'
theorem ok_world_sum (T : Txt K mg a d) : FnOk P w K mg base CX0 3 a.f_world_sum d.f_world_sum ["world"] (sp_world_sum K a) := by
  refine T.F_world_sum.ok sc_world_sum (fun vs H Q E h => ?_) (fun cdv A outer s H vs Q E hr h => ⟨_, (pss_cons (ps_set (i := 1) sc_world_sum.nd rfl (Or.inl rfl) pe_int)
    (pss_cons (ps_for PassesOwn.never rfl (pi_list (pe_call (ok_numbers_with_luck T) (hr.mono (by decide)) (by rfl) T.g_numbers_with_luck T.F_numbers_with_luck.kp T.b_numbers_with_luck .nil pass0 (pa_cons (pv 0) pa_nil))) (pg_name (i := 2) sc_world_sum.nd rfl (Or.inl rfl)) (pss_one (ps_set (i := 1) sc_world_sum.nd rfl (Or.inl rfl) (pe_op op_mod (pe_op op_add (pe_op op_add (pe_op op_mul pe_int (pv 1)) (pv 2)) pe_int) (pe_k T.k_SUM_RANGE)))))
    (pss_one (ps_ret (pv 1))))), ?_⟩)
  · obtain ⟨q, w, rfl, _⟩ := h
    rfl
  · obtain ⟨q, w, rfl, W, n4, kk⟩ := h
    refine ⟨_, rfl, q, w, rfl, W, n4, fun H1 p s1 np hp => ?_⟩
    refine ⟨p, rfl, ⟨_, SqL.of hp⟩, ?_⟩
    refine for_list (K := K) (a := p) (xs := keyV (PaM.nums w)) (fun i σ H' => ∃ v2, σ = [some (.ref q), some (.int ((((PaM.nums w).take i).foldl PaM.stir 7 : Nat) : Int)), v2] ∧ H' = H1) ⟨none, rfl, rfl⟩ (fun i σ H' _ ⟨_, _, e⟩ => by rw [e]; exact SqL.of hp) ?_ ?_
    · rintro i v σ H' hi ⟨v2, rfl, rfl⟩
      obtain ⟨x, hx, rfl⟩ := map_get hi
      refine ⟨_, rfl, _, _, rfl, rfl, .inl ⟨by decide, by decide⟩, _, rfl, _, _, rfl, rfl, _, _, rfl, rfl, _, _, rfl, rfl, (by show (0 : Int) < 1000000007; decide), ?_⟩
      have e : ((31 : Int) * ((((PaM.nums w).take i).foldl PaM.stir 7 : Nat) : Int) + (x : Int) + 1) % 1000000007 = ((((PaM.nums w).take (i + 1)).foldl PaM.stir 7 : Nat) : Int) := by
        rw [PaM.fold_more hx]
        unfold PaM.stir
        omega
      exact ⟨_, congrArg (fun z => [some (V.ref q), some (V.int z), some (V.int (x : Int))]) e, rfl⟩
    · rintro σ H' ⟨v2, rfl, rfl⟩
      refine ⟨_, rfl, ?_⟩
      have r := kk _ s1
      rw [← PaM.nums_sum] at r
      have e : (PaM.nums w).take (keyV (PaM.nums w)).length = PaM.nums w := List.take_of_length_le (by rw [List.length_map]; exact Nat.le_refl _)
      rw [e]
      exact r
end Pa

set_option Elab.async false
set_option linter.all false
set_option maxRecDepth 100000
set_option maxHeartbeats 2000000
namespace Pa
open PySem PySem.Spec PyProof.Rows L2
variable {P : Program} {w : PySem.World} {K : PySem.W.Frag} {mg : Str → Option Value} {base : Heap} {a : Ad} {d : Fd}
/-! ### a recording is made -/
theorem stay_new {M : List Addr} {H : Hp} {p : Addr} {o : HO} (h : H p = none) : Stay M H (upd H p o) := Same.stay (same_upd h)
def sp_Recording_init (a : Ad) : Sp := fun vs H Q _ => ∃ (p dx : Addr) (n s : Int), vs = [.ref p, .int n, .int s] ∧ H p = some (.ins a.c_Recording dx []) ∧
  ∀ (H' : Hp) (pl sl : Addr), H' p = some (.ins a.c_Recording dx (reF n s pl sl)) → H' pl = some (.lst []) → H' sl = some (.lst []) → pl ≠ sl → H pl = none → H sl = none → Stay [p] H H' → Q .non H'
theorem reF_all {n s : Int} {pl sl : Addr} : putF "states" (.ref sl) (putF "presses" (.ref pl) (putF "seed" (.int s) (putF "how_many" (.int n) []))) = reF n s pl sl := by
  have e1 : putF "seed" (.int s) (putF "how_many" (.int n) []) = [(("how_many" : Str), V.int n), ("seed", .int s)] := (pfN (by decide +kernel)).trans rfl
  have e2 : putF "presses" (.ref pl) [(("how_many" : Str), V.int n), ("seed", .int s)] = [(("how_many" : Str), V.int n), ("seed", .int s), ("presses", .ref pl)] := (pfN (by decide +kernel)).trans (congrArg _ ((pfN (by decide +kernel)).trans rfl))
  rw [e1, e2]
  exact (pfN (by decide +kernel)).trans (congrArg _ ((pfN (by decide +kernel)).trans (congrArg _ ((pfN (by decide +kernel)).trans rfl))))
theorem ok_Recording_init (T : Txt K mg a d) : FnOk P w K mg base CX0 1 a.f_Recording_init d.f_Recording_init ["self", "how_many", "seed"] (sp_Recording_init a) := by
  refine T.F_Recording_init.ok sc_Recording_init (fun vs H Q E h => ?_) (fun cdv A outer s H vs Q E hr h => ⟨_, (pss_cons (ps_fld (pv 0) (pv 1) rfl)
    (pss_cons (ps_fld (pv 0) (pv 2) rfl)
    (pss_cons (ps_fld (pv 0) (pe_lst pa_nil) rfl)
    (pss_one (ps_fld (pv 0) (pe_lst pa_nil) rfl))))), ?_⟩)
  · obtain ⟨p, dx, n, s, rfl, _⟩ := h
    rfl
  · obtain ⟨p, dx, n, sd, rfl, hp, k⟩ := h
    refine ⟨_, rfl, _, rfl, p, _, dx, _, rfl, hp, T.cl_Recording, T.na_Recording_how_many, by show 0 < 1000; decide, ?_⟩
    refine ⟨_, rfl, _, rfl, p, _, dx, _, rfl, upd_same, T.cl_Recording, T.na_Recording_seed, by show 1 < 1000; decide, ?_⟩
    refine ⟨by show 0 ≤ sizeLine; decide, fun pl npl => ?_⟩
    have n1 : p ≠ pl := ne_of_none upd_same npl
    refine ⟨_, rfl, p, _, dx, _, rfl, (upd_ne n1).trans upd_same, T.cl_Recording, T.na_Recording_presses, by show 2 < 1000; decide, ?_⟩
    refine ⟨by show 0 ≤ sizeLine; decide, fun sl nsl => ?_⟩
    have n2 : p ≠ sl := ne_of_none upd_same nsl
    have hpl : ∀ o, upd (upd (upd (upd H p o) p (.ins a.c_Recording dx (putF "seed" (.int sd) (putF "how_many" (.int n) [])))) pl (.lst [])) p (.ins a.c_Recording dx (putF "presses" (.ref pl) (putF "seed" (.int sd) (putF "how_many" (.int n) [])))) pl = some (.lst []) := fun o => (upd_ne (Ne.symm n1)).trans upd_same
    have n3 : pl ≠ sl := ne_of_none (hpl _) nsl
    refine ⟨_, rfl, p, _, dx, _, rfl, (upd_ne n2).trans upd_same, T.cl_Recording, T.na_Recording_states, by show 3 < 1000; decide, ?_⟩
    refine k _ pl sl (upd_same.trans (congrArg (fun q => some (HO.ins _ dx q)) reF_all)) ?_ ?_ n3 ?_ ?_ ?_
    · rw [upd_ne (Ne.symm n1), upd_ne n3]
      exact hpl _
    · rw [upd_ne (Ne.symm n2), upd_same]
    · rw [upd_ne (Ne.symm n1), upd_ne (Ne.symm n1)] at npl
      exact npl
    · rw [upd_ne (Ne.symm n2), upd_ne (Ne.symm n3), upd_ne (Ne.symm n2), upd_ne (Ne.symm n2)] at nsl
      exact nsl
    · exact stay_upd.trans (stay_upd.trans ((stay_new npl).trans (stay_upd.trans ((stay_new nsl).trans stay_upd))))
/-! ### how many ticks -/
theorem re_how {n s : Int} {pl sl : Addr} : (reF n s pl sl).lookup ("how_many" : Str) = some (.int n) := lk1
theorem re_seed {n s : Int} {pl sl : Addr} : (reF n s pl sl).lookup ("seed" : Str) = some (.int s) := (lkN (by decide +kernel)).trans lk1
theorem re_prs {n s : Int} {pl sl : Addr} : (reF n s pl sl).lookup ("presses" : Str) = some (.ref pl) := (lkN (by decide +kernel)).trans ((lkN (by decide +kernel)).trans lk1)
theorem re_sts {n s : Int} {pl sl : Addr} : (reF n s pl sl).lookup ("states" : Str) = some (.ref sl) := (lkN (by decide +kernel)).trans ((lkN (by decide +kernel)).trans ((lkN (by decide +kernel)).trans lk1))
theorem re_none {n s : Int} {pl sl : Addr} {m : Str} (h1 : (m == ("how_many" : Str)) = false) (h2 : (m == ("seed" : Str)) = false) (h3 : (m == ("presses" : Str)) = false) (h4 : (m == ("states" : Str)) = false) : (reF n s pl sl).lookup m = none :=
  (lkN h1).trans ((lkN h2).trans ((lkN h3).trans ((lkN h4).trans rfl)))
def sp_Recording_ticks (K : PySem.W.Frag) (a : Ad) : Sp := fun vs H Q _ => ∃ (g pl sl : Addr) (t : Ge09.Tape), vs = [.ref g] ∧ RecAt K a H g pl sl t ∧ Q (.int (t.keys.length : Nat)) H
theorem ok_Recording_ticks (T : Txt K mg a d) : FnOk P w K mg base CX0 1 a.f_Recording_ticks d.f_Recording_ticks ["self"] (sp_Recording_ticks K a) := by
  refine T.F_Recording_ticks.ok sc_Recording_ticks (fun vs H Q E h => ?_) (fun cdv A outer s H vs Q E hr h => ⟨_, (pss_one (ps_ret (pe_callB call_len_seq (by rfl) T.n_len PySem.boot_len (pa_cons (pe_fld (pv 0) rfl) pa_nil)))), ?_⟩)
  · obtain ⟨g, pl, sl, t, rfl, _⟩ := h
    rfl
  · obtain ⟨g, pl, sl, t, rfl, R, k⟩ := h
    obtain ⟨⟨dx, ho⟩, ⟨ps, hp, ep⟩, _, _⟩ := R
    refine ⟨_, rfl, g, _, dx, _, _, rfl, ho, T.cl_Recording, T.na_Recording_presses, re_prs, pl, _, rfl, .inl (SqL.of hp), ?_⟩
    rw [List.length_map, ep.len]
    exact k
/-! ### a twin -/
theorem re_put_prs {n s : Int} {pl sl p : Addr} : putF "presses" (.ref p) (reF n s pl sl) = reF n s p sl := (pfN (by decide +kernel)).trans (congrArg _ ((pfN (by decide +kernel)).trans (congrArg _ pf1)))
theorem re_put_sts {n s : Int} {pl sl p : Addr} : putF "states" (.ref p) (reF n s pl sl) = reF n s pl p := (pfN (by decide +kernel)).trans (congrArg _ ((pfN (by decide +kernel)).trans (congrArg _ ((pfN (by decide +kernel)).trans (congrArg _ pf1)))))
def sp_Recording_twin (K : PySem.W.Frag) (a : Ad) : Sp := fun vs H Q _ => ∃ (g pl sl : Addr) (t : Ge09.Tape), vs = [.ref g] ∧ RecAt K a H g pl sl t ∧
  ∀ H' g' pl' sl', Same H H' → RecAt K a H' g' pl' sl' t → H g' = none → H pl' = none → H sl' = none → Q (.ref g') H'
theorem ok_Recording_twin (T : Txt K mg a d) : FnOk P w K mg base CX0 3 a.f_Recording_twin d.f_Recording_twin ["self"] (sp_Recording_twin K a) := by
  refine T.F_Recording_twin.ok sc_Recording_twin (fun vs H Q E h => ?_) (fun cdv A outer s H vs Q E hr h => ⟨_, (pss_cons (ps_set (i := 1) sc_Recording_twin.nd rfl (Or.inl rfl) (pe_make T.mk_Recording (ok_Recording_init T) (hr.mono (by decide)) (by rfl) T.g_Recording T.b_Recording_init .nil pass0 (pa_cons (pe_fld (pv 0) rfl) (pa_cons (pe_fld (pv 0) rfl) pa_nil))))
    (pss_cons (ps_fld (pv 1) (pe_callTy call_list_of (by rfl) T.n_list (by decide +kernel) (pa_cons (pe_fld (pv 0) rfl) pa_nil)) rfl)
    (pss_cons (ps_fld (pv 1) (pe_callTy call_list_of (by rfl) T.n_list (by decide +kernel) (pa_cons (pe_fld (pv 0) rfl) pa_nil)) rfl)
    (pss_one (ps_ret (pv 1)))))), ?_⟩)
  · obtain ⟨g, pl, sl, t, rfl, _⟩ := h
    rfl
  · obtain ⟨g, pl, sl, t, rfl, R, k⟩ := h
    obtain ⟨⟨dx, ho⟩, ⟨ps, hp, ep⟩, ⟨ss, hs, es⟩, ne⟩ := id R
    refine ⟨_, rfl, g, _, dx, _, _, rfl, ho, T.cl_Recording, T.na_Recording_how_many, re_how, _, rfl, g, _, dx, _, _, rfl, ho, T.cl_Recording, T.na_Recording_seed, re_seed, ?_⟩
    intro x dx1 nx nd ne1
    refine ⟨x, dx1, _, _, rfl, upd_same, fun H1 pl1 sl1 hx hpl1 hsl1 ne2 npl1 nsl1 st => ⟨rfl, ?_⟩⟩
    have s1 := same_made nx nd st
    have gx : g ≠ x := ne_of_none ho nx
    refine ⟨_, rfl, g, _, dx, _, _, rfl, s1 _ _ ho, T.cl_Recording, T.na_Recording_presses, re_prs, pl, _, rfl, .inl (SqL.of (s1 _ _ hp)), fun p2 n2 => ?_⟩
    have x2 : x ≠ p2 := ne_of_none hx n2
    refine ⟨_, rfl, x, _, dx1, _, rfl, (upd_ne x2).trans hx, T.cl_Recording, T.na_Recording_presses, by show 4 < 1000; decide, ?_⟩
    have k2 : ∀ b o, H1 b = some o → b ≠ x → upd (upd H1 p2 (.lst (ps.map V.ref))) x (.ins a.c_Recording dx1 (putF "presses" (.ref p2) (reF (t.n : Int) (t.seed : Int) pl1 sl1))) b = some o := fun b o e z => by
      rw [upd_ne z, upd_ne (ne_of_none e n2)]
      exact e
    have hxx : ∀ b o, H b = some o → b ≠ x := fun b o e => ne_of_none e nx
    refine ⟨_, rfl, g, _, dx, _, _, rfl, k2 _ _ (s1 _ _ ho) gx, T.cl_Recording, T.na_Recording_states, re_sts, sl, _, rfl, .inl (SqL.of (k2 _ _ (s1 _ _ hs) (hxx _ _ hs))), fun p3 n3 => ?_⟩
    have x3 : x ≠ p3 := ne_of_none upd_same n3
    have p23 : p2 ≠ p3 := ne_of_none ((upd_ne (Ne.symm x2)).trans upd_same) n3
    refine ⟨_, rfl, x, _, dx1, _, rfl, (upd_ne x3).trans upd_same, T.cl_Recording, T.na_Recording_states, by show 4 < 1000; decide, ?_⟩
    rw [re_put_prs, re_put_sts]
    rw [re_put_prs] at n3 k2
    have all : Same H _ := fun b o e => show upd (upd (upd (upd H1 p2 (.lst (ps.map V.ref))) x (.ins a.c_Recording dx1 (reF (t.n : Int) (t.seed : Int) p2 sl1))) p3 (.lst (ss.map V.ref))) x (.ins a.c_Recording dx1 (reF (t.n : Int) (t.seed : Int) p2 p3)) b = some o by
      have e1 := k2 _ _ (s1 _ _ e) (hxx _ _ e)
      rw [upd_ne (hxx _ _ e), upd_ne (ne_of_none e1 n3)]
      exact e1
    refine ⟨_, rfl, ?_⟩
    refine k _ x p2 p3 all ⟨⟨dx1, upd_same⟩, ⟨ps, ?_, ep.mono fun _ _ _ _ r => r.fix (Same.fix all)⟩, ⟨ss, ?_, es.mono fun _ _ _ _ r => r.fix (Same.fix all)⟩, p23⟩ nx (s1.free n2) ?_
    · rw [upd_ne (Ne.symm x2), upd_ne p23, upd_ne (Ne.symm x2), upd_same]
    · rw [upd_ne (Ne.symm x3), upd_same]
    · rw [upd_ne (Ne.symm x3), upd_ne (Ne.symm p23)] at n3
      exact s1.free n3
end Pa

set_option Elab.async false
set_option linter.all false
set_option maxRecDepth 100000
set_option maxHeartbeats 2000000
namespace Pa
open PySem PySem.Spec PyProof.Rows L2
variable {P : Program} {w : PySem.World} {K : PySem.W.Frag} {mg : Str → Option Value} {base : Heap} {a : Ad} {d : Fd}
/-! ### the state ahead of a tick -/
theorem ahead_more {l : List (Nat × Ge09.World)} {i k : Nat} {x s : Nat × Ge09.World} (h : l[i]? = some x) : PaM.ahead (l.take (i + 1)) k s = if x.1 ≤ k then x else PaM.ahead (l.take i) k s := by
  unfold PaM.ahead
  rw [take_get h, List.foldl_append]
  rfl
theorem st_tick {k : Int} {q : Addr} : (stF k q).lookup ("tick" : Str) = some (.int k) := lk1
theorem st_world {k : Int} {q : Addr} : (stF k q).lookup ("world" : Str) = some (.ref q) := (lkN (by decide +kernel)).trans lk1
def sp_Recording_state_ahead (K : PySem.W.Frag) (a : Ad) : Sp := fun vs H Q _ => ∃ (g pl sl : Addr) (t : Ge09.Tape) (k : Nat), vs = [.ref g, .int (k : Int)] ∧ RecAt K a H g pl sl t ∧ 1 ≤ t.n ∧ t.n ≤ 4 ∧
  ∀ H' r, Same H H' → StateAt K a H' r (PaM.ahead t.kept k (0, Ge09.start t.n t.seed)) → Q (.ref r) H'
theorem ok_Recording_state_ahead (T : Txt K mg a d) : FnOk P w K mg base CX0 4 a.f_Recording_state_ahead d.f_Recording_state_ahead ["self", "tick"] (sp_Recording_state_ahead K a) := by
  refine T.F_Recording_state_ahead.ok sc_Recording_state_ahead (fun vs H Q E h => ?_) (fun cdv A outer s H vs Q E hr h => ⟨_, (pss_cons (ps_set (i := 2) sc_Recording_state_ahead.nd rfl (Or.inl rfl) (pe_make T.mk_State (ok_State_init T) (hr.mono (by decide)) (by rfl) T.g_State T.b_State_init .nil pass0 (pa_cons pe_int (pa_cons (pe_call (ok_first_world T) (hr.mono (by decide)) (by rfl) T.g_first_world T.F_first_world.kp T.b_first_world .nil pass0 (pa_cons (pe_fld (pv 0) rfl) (pa_cons (pe_fld (pv 0) rfl) pa_nil))) pa_nil))))
    (pss_cons (ps_for PassesOwn.never rfl (pi_list (pe_fld (pv 0) rfl)) (pg_name (i := 3) sc_Recording_state_ahead.nd rfl (Or.inl rfl)) (pss_one (ps_if (pt_cmpR op_le (pe_fld (pv 3) rfl) (pv 1) (nomark _)) (pss_one (ps_set (i := 2) sc_Recording_state_ahead.nd rfl (Or.inl rfl) (pv 3))) pss_nil)))
    (pss_one (ps_ret (pv 2))))), ?_⟩)
  · obtain ⟨g, pl, sl, t, k, rfl, _⟩ := h
    rfl
  · obtain ⟨g, pl, sl, t, k, rfl, R, n1, n4, kk⟩ := h
    obtain ⟨⟨dx, ho⟩, _, ⟨ss, hs, es⟩, _⟩ := id R
    refine ⟨_, rfl, g, _, dx, _, _, rfl, ho, T.cl_Recording, T.na_Recording_how_many, re_how, _, rfl, g, _, dx, _, _, rfl, ho, T.cl_Recording, T.na_Recording_seed, re_seed, t.n, t.seed, rfl, n1, n4, fun H1 q s1 W1 => ?_⟩
    intro x dx1 nx nd ne1
    refine ⟨x, dx1, q, _, rfl, upd_same, fun H2 h2 st => ⟨rfl, ?_⟩⟩
    have s2 := same_made nx nd st
    have s12 := s1.trans s2
    refine ⟨_, rfl, g, _, dx, _, _, rfl, s12 _ _ ho, T.cl_Recording, T.na_Recording_states, re_sts, sl, rfl, ⟨_, SqL.of (s12 _ _ hs)⟩, ?_⟩
    refine for_list (K := K) (a := sl) (xs := ss.map V.ref) (fun i σ H' => ∃ r v3, σ = [some (.ref g), some (.int (k : Int)), some (.ref r), v3] ∧ H' = H2 ∧ StateAt K a H2 r (PaM.ahead (t.kept.take i) k (0, Ge09.start t.n t.seed)))
      ⟨x, none, rfl, rfl, dx1, q, h2, W1.fix (Same.fix s2)⟩ (fun i σ H' _ ⟨_, _, _, e, _⟩ => by rw [e]; exact SqL.of (s12 _ _ hs)) ?_ ?_
    · rintro i v σ H' hi ⟨r, v3, rfl, rfl, S⟩
      obtain ⟨sa, hsa, rfl⟩ := map_get hi
      obtain ⟨y, hy, R1⟩ := es.got hsa
      have R2 := R1.fix (Same.fix s12)
      obtain ⟨dy, qy, hy1, hy2⟩ := id R2
      refine ⟨_, rfl, sa, _, dy, _, _, rfl, hy1, T.cl_State, T.na_State_tick, st_tick, _, rfl, _, _, rfl, rfl, _, rfl, ?_⟩
      by_cases c : y.1 ≤ k
      · refine ifT (decide_eq_true (by omega)) ?_
        refine ⟨_, rfl, ?_⟩
        refine ⟨sa, _, rfl, rfl, ?_⟩
        rw [ahead_more hy, if_pos c]
        exact R2
      · refine ifF (decide_eq_false (by omega)) ?_
        refine ⟨r, _, rfl, rfl, ?_⟩
        rw [ahead_more hy, if_neg c]
        exact S
    · rintro σ H' ⟨r, v3, rfl, rfl, S⟩
      refine ⟨_, rfl, ?_⟩
      refine kk _ r s12 ?_
      rw [List.length_map, es.len, List.take_length] at S
      exact S
/-! ### played on from a state -/
def sp_Recording_world_from (K : PySem.W.Frag) (a : Ad) : Sp := fun vs H Q _ => ∃ (g pl sl sa : Addr) (t : Ge09.Tape) (k : Nat) (x : Nat × Ge09.World), vs = [.ref g, .ref sa, .int (k : Int)] ∧ RecAt K a H g pl sl t ∧ PaM.TapeOk t ∧ StateAt K a H sa x ∧ x.2 = Ge09.playTo t x.1 ∧ x.1 ≤ k ∧ k ≤ t.keys.length ∧
  ∀ H' r, Same H H' → WorldAt K a H' r (Ge09.playTo t k) → Q (.ref r) H'
theorem ok_Recording_world_from (T : Txt K mg a d) : FnOk P w K mg base CX0 5 a.f_Recording_world_from d.f_Recording_world_from ["self", "state", "tick"] (sp_Recording_world_from K a) := by
  refine T.F_Recording_world_from.ok sc_Recording_world_from (fun vs H Q E h => ?_) (fun cdv A outer s H vs Q E hr h => ⟨_, (pss_cons (ps_set (i := 3) sc_Recording_world_from.nd rfl (Or.inl rfl) (pe_fld (pv 1) rfl))
    (pss_cons (ps_for PassesOwn.never rfl (pi_list (pe_slice sl_list (pe_fld (pv 0) rfl) (po_some (pe_fld (pv 1) rfl)) (po_some (pv 2)))) (pg_name (i := 4) sc_Recording_world_from.nd rfl (Or.inl rfl)) (pss_one (ps_set (i := 3) sc_Recording_world_from.nd rfl (Or.inl rfl) (pe_call (ok_after_tick T) (hr.mono (by decide)) (by rfl) T.g_after_tick T.F_after_tick.kp T.b_after_tick .nil pass0 (pa_cons (pv 3) (pa_cons (pv 4) pa_nil))))))
    (pss_one (ps_ret (pv 3))))), ?_⟩)
  · obtain ⟨g, pl, sl, sa, t, k, x, rfl, _⟩ := h
    rfl
  · obtain ⟨g, pl, sl, sa, t, k, x, rfl, R, ok, S, hx, h1, h2, kk⟩ := h
    obtain ⟨⟨dx, ho⟩, ⟨ps, hp, ep⟩, _, _⟩ := id R
    obtain ⟨ds, q, hsa, W⟩ := id S
    refine ⟨_, rfl, sa, _, ds, _, _, rfl, hsa, T.cl_State, T.na_State_world, st_world, ?_⟩
    refine ⟨_, rfl, g, _, dx, _, _, rfl, ho, T.cl_Recording, T.na_Recording_presses, re_prs, _, rfl, sa, _, ds, _, _, rfl, hsa, T.cl_State, T.na_State_tick, st_tick, _, rfl, _, rfl, _, rfl, pl, _, rfl, SqL.of hp, fun p np => ?_⟩
    have hlen : k ≤ (ps.map V.ref).length := by rw [List.length_map, ep.len]; exact h2
    rw [cut_both h1 hlen]
    have e1 : ((ps.map V.ref).take k).drop x.1 = ((ps.take k).drop x.1).map V.ref := by rw [List.map_drop, List.map_take]
    rw [e1]
    have s1 := same_upd (o := .lst (((ps.take k).drop x.1).map V.ref)) np
    have ek : Each (PressAt H) ((ps.take k).drop x.1) ((t.keys.take k).drop x.1) := (ep.take k).drop x.1
    refine ⟨p, rfl, ⟨_, SqL.of upd_same⟩, ?_⟩
    refine for_list (K := K) (a := p) (xs := ((ps.take k).drop x.1).map V.ref) (fun i σ H' => ∃ r v4, σ = [some (.ref g), some (.ref sa), some (.int (k : Int)), some (.ref r), v4] ∧ Same (upd H p (.lst (((ps.take k).drop x.1).map V.ref))) H' ∧ WorldAt K a H' r (Ge09.playTo t (x.1 + i)))
      ⟨q, none, rfl, Same.refl _, by rw [Nat.add_zero, ← hx]; exact W.fix (Same.fix s1)⟩ (fun i σ H' _ ⟨_, _, _, s2, _⟩ => SqL.of (s2 _ _ upd_same)) ?_ ?_
    · rintro i v σ H' hi ⟨r, v4, rfl, s2, W2⟩
      obtain ⟨tp, htp, rfl⟩ := map_get hi
      obtain ⟨ky, hky, P1⟩ := ek.got htp
      have hkk : t.keys[x.1 + i]? = some ky := by
        rw [List.getElem?_drop, List.getElem?_take] at hky
        split at hky
        · exact hky
        · cases hky
      have km := ok.keys ky (List.mem_of_getElem? hkk)
      refine ⟨_, rfl, _, rfl, r, tp, t.n, ky, _, rfl, W2, PaM.play_ok ok _, ok.n4, km.1, km.2, .inr (SqT.of ((s1.trans s2) _ _ P1)), fun H3 r3 s3 W3 => ?_⟩
      refine ⟨r3, _, rfl, s2.trans s3, ?_⟩
      have e2 : Ge09.playTo t (x.1 + (i + 1)) = Ge09.tick (Ge09.playTo t (x.1 + i)) ky := PaM.play_more hkk
      rw [e2]
      exact W3
    · rintro σ H' ⟨r, v4, rfl, s2, W2⟩
      refine ⟨_, rfl, ?_⟩
      refine kk _ r (s1.trans s2) ?_
      have e3 : x.1 + (((ps.take k).drop x.1).map V.ref).length = k := by
        rw [List.length_map, ek.len, List.length_drop, List.length_take]
        omega
      rw [e3] at W2
      exact W2
/-! ### which state goes -/
theorem gap_val {l : List Nat} {i : Nat} (s : l.Pairwise (· < ·)) (h : i + 1 < l.length) : ∃ u v m : Nat, (0 :: l)[i + 2]? = some u ∧ (0 :: l)[i]? = some v ∧ (PaM.gaps l 0)[i]? = some m ∧ (u : Int) - (v : Int) = (m : Int) := by
  have h1 : (0 :: l)[i + 2]? = some l[i + 1] := by rw [List.getElem?_cons_succ, List.getElem?_eq_getElem h]
  have h2 := PaM.gaps_get l 0 i h
  have h3 : l.getD (i + 1) 0 = l[i + 1] := by rw [List.getD_eq_getElem?_getD, List.getElem?_eq_getElem h]; rfl
  cases i with
  | zero =>
    refine ⟨_, 0, _, h1, rfl, h2, ?_⟩
    rw [h3]
    simp
  | succ j =>
    have hj : j < l.length := by omega
    have h4 : (0 :: l)[j + 1]? = some l[j] := by rw [List.getElem?_cons_succ, List.getElem?_eq_getElem hj]
    have h5 : (0 :: l).getD (j + 1) 0 = l[j] := by rw [List.getD_eq_getElem?_getD, h4]; rfl
    refine ⟨_, _, _, h1, h4, h2, ?_⟩
    rw [h3, h5]
    have := List.pairwise_iff_getElem.mp s j (j + 1 + 1) hj h (by omega)
    omega
theorem sorted_map {xs : List (Nat × Ge09.World)} (s : xs.Pairwise (fun a b => a.1 < b.1)) : (xs.map (·.1)).Pairwise (· < ·) := List.pairwise_map.mpr s
def sp_which_state_goes (K : PySem.W.Frag) (a : Ad) : Sp := fun vs H Q _ => ∃ (l : Addr) (ss : List Addr) (xs : List (Nat × Ge09.World)), vs = [.ref l] ∧ H l = some (.lst (ss.map V.ref)) ∧ Each (StateAt K a H) ss xs ∧ 2 ≤ xs.length ∧ xs.length ≤ 10 ∧ xs.Pairwise (fun a b => a.1 < b.1) ∧
  ∀ H' j, Same H H' → PaM.First (PaM.gaps (xs.map (·.1)) 0) j → j < xs.length → Q (.int (j : Nat)) H'
theorem ok_which_state_goes (T : Txt K mg a d) : FnOk P w K mg base CX0 1 a.f_which_state_goes d.f_which_state_goes ["states"] (sp_which_state_goes K a) := by
  refine T.F_which_state_goes.ok sc_which_state_goes (fun vs H Q E h => ?_) (fun cdv A outer s H vs Q E hr h => ⟨_, (pss_cons (ps_set (i := 1) sc_which_state_goes.nd rfl (Or.inr rfl) (pe_op op_cat (pe_lst (pa_cons pe_int pa_nil)) (pe_lc (own := [("state", 3)]) rfl sc_which_state_goes.nd (pi_list (pv 0)) (blkOk_by (own := [("state", 3)]) (N := ["states", "ticks", "apart", "state", "i"]) (sc := defScope s_which_state_goes) (by decide +kernel)) (fun _ _ _ _ _ => pg_name (i := 3) sc_which_state_goes.nd rfl (Or.inl rfl)) (fun _ _ _ _ _ => pts_nil) (fun _ _ _ _ _ => (pe_fldK (k := K) rfl (pv 3) rfl)))))
    (pss_cons (ps_setLc (i := 2) (own := [("i", 4)]) rfl sc_which_state_goes.nd rfl rfl (sw_true rfl rfl rfl (by decide +kernel)) (pi_range1 (by rfl) T.n_range (pa_cons (pe_op op_sub (pe_callB call_len_seq (by rfl) T.n_len PySem.boot_len (pa_cons (pv 0) pa_nil)) pe_int) pa_nil)) (blkOk_by (own := [("i", 4)]) (N := ["states", "ticks", "apart", "state", "i"]) (sc := defScope s_which_state_goes) (by decide +kernel)) (fun _ _ _ _ _ => pg_name (i := 4) sc_which_state_goes.nd rfl (Or.inl rfl)) (fun _ _ _ _ _ => pts_nil) (fun _ _ _ _ _ => (pe_op op_sub (pe_ix (ix_listK (k := K) rfl) (pv 1) (pe_op op_add (pv 4) pe_int) (fun _ _ => rfl)) (pe_ix (ix_listK (k := K) rfl) (pv 1) (pv 4) (fun _ _ => rfl)))))
    (pss_one (ps_ret (pe_bm PySem.F.plainAttrs_list PySem.F.slot_list_index PySem.F.type_list_index mt_index (pv 2) (pa_cons (pe_callB (cr_min rfl) (by rfl) T.n_min (by decide +kernel) (pa_cons (pv 2) pa_nil)) pa_nil)))))), ?_⟩)
  · obtain ⟨l, ss, xs, rfl, _⟩ := h
    rfl
  · obtain ⟨l, ss, xs, rfl, hl, es, x2, x10, srt, kk⟩ := h
    refine ⟨by show 1 ≤ sizeLine; decide, fun p0 n0 => ?_⟩
    have s0 : Same H (upd H p0 (.lst [.int 0])) := same_upd n0
    generalize hH0 : upd H p0 (.lst [.int 0]) = H0 at s0
    have hp0 : H0 p0 = some (.lst [.int 0]) := by rw [← hH0]; exact upd_same
    refine ⟨_, rfl, l, rfl, ⟨_, SqL.of (s0 _ _ hl)⟩, fun D nD => ?_⟩
    refine lc_list (K := K) (a := l) (xs := ss.map V.ref) (fun i H' => H' = upd H0 D (.lst (keyV ((xs.take i).map (·.1))))) rfl (fun i H' _ e => ?_) ?_ ?_
    · rw [e]
      exact SqL.of (same_upd nD _ _ (s0 _ _ hl))
    · rintro i v H' hi rfl
      obtain ⟨sa, hsa, rfl⟩ := map_get hi
      obtain ⟨y, hy, dy, qy, hy1, hy2⟩ := es.got hsa
      refine ⟨rfl, ?_⟩
      refine ⟨_, rfl, sa, _, dy, _, _, rfl, same_upd nD _ _ (s0 _ _ hy1), T.cl_State, T.na_State_tick, st_tick, _, upd_same, smaller ?_, ?_⟩
      · simp only [keyV, List.length_map, List.length_take]
        omega
      · rw [upd_upd, take_get hy]
        simp only [keyV, List.map_append]
        rfl
    · rintro H1 rfl
      have etk : xs.take (ss.map V.ref).length = xs := List.take_of_length_le (by rw [List.length_map, es.len]; exact Nat.le_refl _)
      rw [etk]
      have s1 : Same H0 (upd H0 D (.lst (keyV (xs.map (·.1))))) := same_upd nD
      generalize hH1 : upd H0 D (.lst (keyV (xs.map (·.1)))) = H1 at s1
      have hD : H1 D = some (.lst (keyV (xs.map (·.1)))) := by rw [← hH1]; exact upd_same
      refine ⟨p0, D, _, _, rfl, rfl, s1 _ _ hp0, hD, small (by simp only [keyV, List.length_map, List.length_cons, List.length_nil]; omega), fun p2 n2 => ?_⟩
      have s2 : Same H1 (upd H1 p2 (.lst (keyV (0 :: xs.map (·.1))))) := same_upd n2
      have e2 : upd H1 p2 (.lst ([V.int 0] ++ keyV (xs.map (·.1)))) = upd H1 p2 (.lst (keyV (0 :: xs.map (·.1)))) := rfl
      rw [e2]
      generalize hH2 : upd H1 p2 (.lst (keyV (0 :: xs.map (·.1)))) = H2 at s2
      have hp2 : H2 p2 = some (.lst (keyV (0 :: xs.map (·.1)))) := by rw [← hH2]; exact upd_same
      have s02 := s0.trans (s1.trans s2)
      refine ⟨_, rfl, l, _, rfl, .inl (SqL.of (s02 _ _ hl)), _, _, rfl, rfl, _, rfl, ?_, ?_, fun D2 nD2 => ?_⟩
      · rw [List.length_map, es.len]
        omega
      · rw [List.length_map, es.len]
        omega
      have hn : (((ss.map V.ref).length : Int) - 1).toNat = xs.length - 1 := by rw [List.length_map, es.len]; omega
      rw [hn]
      refine lc_range (lo := 0) (n := xs.length - 1) (fun i H' => H' = upd H2 D2 (.lst (keyV ((PaM.gaps (xs.map (·.1)) 0).take i)))) rfl ?_ ?_
      · rintro i H' hi rfl
        have hlm : (xs.map (·.1)).length = xs.length := List.length_map ..
        obtain ⟨u, v, m, hu, hv, hm, e⟩ := gap_val (l := xs.map (·.1)) (i := i) (sorted_map srt) (by rw [hlm]; omega)
        have sD := same_upd (o := .lst (keyV ((PaM.gaps (xs.map (·.1)) 0).take i))) nD2
        refine ⟨rfl, ?_⟩
        refine ⟨_, rfl, _, rfl, _, _, rfl, rfl, p2, _, _, _, rfl, rfl, SqL.of (sD _ _ hp2), at_of (j := i + 2) (by omega) (get_map _ hu), _, rfl, _, rfl, p2, _, _, _, rfl, rfl, SqL.of (sD _ _ hp2), at_of (j := i) (by omega) (get_map _ hv), _, _, rfl, rfl, _, upd_same, smaller ?_, ?_⟩
        · simp only [keyV, List.length_map, List.length_take]
          omega
        · rw [upd_upd, take_get hm]
          simp only [keyV, List.map_append, e]
          rfl
      · rintro H3 rfl
        have hgl : (PaM.gaps (xs.map (·.1)) 0).length = xs.length - 1 := by rw [PaM.gaps_length, List.length_map]
        rw [List.take_of_length_le (Nat.le_of_eq hgl)]
        have s3 : Same H2 (upd H2 D2 (.lst (keyV (PaM.gaps (xs.map (·.1)) 0)))) := same_upd nD2
        generalize hH3 : upd H2 D2 (.lst (keyV (PaM.gaps (xs.map (·.1)) 0))) = H3 at s3
        have hD2 : H3 D2 = some (.lst (keyV (PaM.gaps (xs.map (·.1)) 0))) := by rw [← hH3]; exact upd_same
        obtain ⟨j, m, F, hjm, _, hj1⟩ := PaM.spare_first xs 0 x2
        have F' := F
        obtain ⟨m', hm', least, fst⟩ := F
        have em : m' = m := Option.some.inj (hm'.symm.trans hjm)
        subst em
        have ei : keyV (PaM.gaps (xs.map (·.1)) 0) = ((PaM.gaps (xs.map (·.1)) 0).map fun (n : Nat) => (n : Int)).map V.int := by rw [List.map_map]; rfl
        refine ⟨_, rfl, .inl ⟨rfl, _, SqL.of hD2⟩, _, rfl, D2, _, rfl, ei ▸ SqL.of hD2, by rw [List.length_map, hgl]; omega, fun m hm hle => ?_⟩
        have emm : m = (m' : Int) := by
          obtain ⟨z, hz, rfl⟩ := List.mem_map.mp hm
          obtain ⟨i, hi, hzi⟩ := List.getElem_of_mem hz
          have h1 := least i z (by rw [List.getElem?_eq_getElem hi, hzi])
          have h2 := hle (m' : Int) (List.mem_map.mpr ⟨m', List.mem_of_getElem? hjm, rfl⟩)
          omega
        subst emm
        refine ⟨D2, _, _, j, _, rfl, rfl, SqL.of hD2, rfl, ?_, get_map _ hjm, ?_, fun i z hi hz => ?_, ?_⟩
        · rw [List.all_eq_true]
          intro v hv
          obtain ⟨z, _, rfl⟩ := List.mem_map.mp hv
          rfl
        · show eqV (.int (m' : Int)) (.int (m' : Int)) = true
          simp [eqV]
        · obtain ⟨y, hy, rfl⟩ := map_get hz
          have := fst i y hi hy
          show eqV (.int (y : Int)) (.int (m' : Int)) = false
          simp [eqV]
          omega
        · exact kk _ j (s02.trans s3) F' (by omega)
end Pa

set_option Elab.async false
set_option linter.all false
set_option maxRecDepth 100000
set_option maxHeartbeats 2000000
namespace Pa
open PySem PySem.Spec PyProof.Rows L2
variable {P : Program} {w : PySem.World} {K : PySem.W.Frag} {mg : Str → Option Value} {base : Heap} {a : Ad} {d : Fd}
/-! ### the world at a tick -/
def sp_Recording_world_at (K : PySem.W.Frag) (a : Ad) : Sp := fun vs H Q _ => ∃ (g pl sl : Addr) (t : Ge09.Tape) (k : Nat), vs = [.ref g, .int (k : Int)] ∧ RecAt K a H g pl sl t ∧ PaM.TapeOk t ∧ k ≤ t.keys.length ∧
  ∀ H' r, Same H H' → WorldAt K a H' r (Ge09.playTo t k) → Q (.ref r) H'
theorem ok_Recording_world_at (T : Txt K mg a d) : FnOk P w K mg base CX0 6 a.f_Recording_world_at d.f_Recording_world_at ["self", "tick"] (sp_Recording_world_at K a) := by
  refine T.F_Recording_world_at.ok sc_Recording_world_at (fun vs H Q E h => ?_) (fun cdv A outer s H vs Q E hr h => ⟨_, (pss_one (ps_ret (pe_meth (pv 0) T.cl_Recording T.m_Recording_world_from (ok_Recording_world_from T) (hr.mono (by decide)) T.b_Recording_world_from .nil pass0 (pa_cons (pe_meth (pv 0) T.cl_Recording T.m_Recording_state_ahead (ok_Recording_state_ahead T) (hr.mono (by decide)) T.b_Recording_state_ahead .nil pass0 (pa_cons (pv 1) pa_nil)) (pa_cons (pv 1) pa_nil))))), ?_⟩)
  · obtain ⟨g, pl, sl, t, k, rfl, _⟩ := h
    rfl
  · obtain ⟨g, pl, sl, t, k, rfl, R, ok, hk, kk⟩ := h
    obtain ⟨dx, ho⟩ := R.obj
    refine ⟨_, rfl, g, dx, _, rfl, ho, re_none (by decide +kernel) (by decide +kernel) (by decide +kernel) (by decide +kernel), ?_⟩
    refine ⟨_, rfl, g, dx, _, rfl, ho, re_none (by decide +kernel) (by decide +kernel) (by decide +kernel) (by decide +kernel), _, rfl, g, pl, sl, t, k, rfl, R, ok.n1, ok.n4, fun H1 r1 s1 S1 => ?_⟩
    have q := PaM.ahead_ok ok k
    refine ⟨_, rfl, g, pl, sl, r1, t, k, _, rfl, R.same s1, ok, S1, q.2.2, q.1, hk, fun H2 r2 s2 W2 => ?_⟩
    exact kk _ r2 (s1.trans s2) W2
/-! ### the worlds at all ticks -/
theorem not_worlds {H : Hp} {ws : List Addr} {xs : List Ge09.World} (e : Each (WorldAt K a H) ws xs) : ¬ imm H (.lst (ws.map V.ref)) := by
  rintro ⟨p, r, C, dx, t, fs, hx, hp⟩
  cases ws with
  | nil => cases hx
  | cons p' r' =>
    injection hx with h1
    injection h1 with h1
    subst h1
    obtain ⟨b, _, dx', l, c, ps, h2, _⟩ := e.got (i := 0) (a := p') rfl
    rw [h2] at hp
    injection hp with hp
    injection hp with _ _ hf
    injection hf with hf _
    injection hf with hf _
    exact absurd hf (by decide +kernel)
def sp_Recording_all_worlds (K : PySem.W.Frag) (a : Ad) : Sp := fun vs H Q _ => ∃ (g pl sl : Addr) (t : Ge09.Tape), vs = [.ref g] ∧ RecAt K a H g pl sl t ∧ PaM.TapeOk t ∧
  ∀ H' o ws, Same H H' → H o = none → H' o = some (.lst (ws.map V.ref)) → Each (WorldAt K a H') ws (PaM.plays t (t.keys.length + 1)) → Q (.ref o) H'
theorem ok_Recording_all_worlds (T : Txt K mg a d) : FnOk P w K mg base CX0 5 a.f_Recording_all_worlds d.f_Recording_all_worlds ["self"] (sp_Recording_all_worlds K a) := by
  refine T.F_Recording_all_worlds.ok sc_Recording_all_worlds (fun vs H Q E h => ?_) (fun cdv A outer s H vs Q E hr h => ⟨_, (pss_cons (ps_set (i := 1) sc_Recording_all_worlds.nd rfl (Or.inl rfl) (pe_lst (pa_cons (pe_call (ok_first_world T) (hr.mono (by decide)) (by rfl) T.g_first_world T.F_first_world.kp T.b_first_world .nil pass0 (pa_cons (pe_fld (pv 0) rfl) (pa_cons (pe_fld (pv 0) rfl) pa_nil))) pa_nil)))
    (pss_cons (ps_for PassesOwn.never rfl (pi_list (pe_fld (pv 0) rfl)) (pg_name (i := 2) sc_Recording_all_worlds.nd rfl (Or.inl rfl)) (pss_one (ps_expr (pe_bm PySem.F.plainAttrs_list PySem.F.slot_list_append PySem.F.type_list_append mt_append (pv 1) (pa_cons (pe_call (ok_after_tick T) (hr.mono (by decide)) (by rfl) T.g_after_tick T.F_after_tick.kp T.b_after_tick .nil pass0 (pa_cons (pe_ix ix_list (pv 1) (pe_un un_neg pe_int) (fun _ _ => rfl)) (pa_cons (pv 2) pa_nil))) pa_nil)))))
    (pss_one (ps_ret (pv 1))))), ?_⟩)
  · obtain ⟨g, pl, sl, t, rfl, _⟩ := h
    rfl
  · obtain ⟨g, pl, sl, t, rfl, R, ok, kk⟩ := h
    obtain ⟨⟨dx, ho⟩, ⟨ps, hp, ep⟩, _, _⟩ := id R
    -- worlds = [first_world(self.how_many, self.seed)]
    refine ⟨_, rfl, g, _, dx, _, _, rfl, ho, T.cl_Recording, T.na_Recording_how_many, re_how, _, rfl, g, _, dx, _, _, rfl, ho, T.cl_Recording, T.na_Recording_seed, re_seed, t.n, t.seed, rfl, ok.n1, ok.n4, fun H1 q s1 W1 => ?_⟩
    refine ⟨by show 1 ≤ sizeLine; decide, fun o no => ?_⟩
    have s2 : Same H1 (upd H1 o (.lst [V.ref q])) := same_upd no
    have s12 := s1.trans s2
    have ho2 : upd H1 o (.lst [V.ref q]) o = some (.lst [V.ref q]) := upd_same
    generalize upd H1 o (.lst [V.ref q]) = H2 at s2 s12 ho2
    refine ⟨_, rfl, g, _, dx, _, _, rfl, s12 _ _ ho, T.cl_Recording, T.na_Recording_presses, re_prs, pl, rfl, ⟨_, SqL.of (s12 _ _ hp)⟩, ?_⟩
    refine for_list (K := K) (a := pl) (xs := ps.map V.ref) (fun i σ H' => ∃ ws v2, σ = [some (.ref g), some (.ref o), v2] ∧ Same H H' ∧ H' o = some (.lst (ws.map V.ref)) ∧ Each (WorldAt K a H') ws (PaM.plays t (i + 1)))
      ⟨[q], none, rfl, s12, ho2, rfl, fun i x y hx hy => ?_⟩ (fun i σ H' _ ⟨_, _, _, s3, _⟩ => SqL.of (s3 _ _ hp)) ?_ ?_
    · cases i with
      | zero =>
        cases hx
        have e : Ge09.playTo t 0 = y := Option.some.inj hy
        rw [← e]
        exact W1.fix (Same.fix s2)
      | succ i => cases hx
    · rintro i v σ H3 hi ⟨ws, v2, rfl, s3, ho3, ew⟩
      obtain ⟨tp, htp, rfl⟩ := map_get hi
      obtain ⟨ky, hky, P1⟩ := ep.got htp
      have km := ok.keys ky (List.mem_of_getElem? hky)
      have hil := (List.getElem?_eq_some_iff.mp hky).1
      obtain ⟨lw, hlw, W3⟩ := ew.get (PaM.plays_get t (Nat.lt_succ_self i))
      have hwl : ws.length = i + 1 := by rw [ew.len, PaM.plays_len]
      have hat : atI (ws.map V.ref) (-1) = some (V.ref lw) := by
        have e1 : ixN (ws.map V.ref).length (-1) = some i := by
          unfold ixN
          rw [if_neg (by decide), if_pos (by rw [List.length_map]; omega), List.length_map, hwl]
          congr 1
          omega
        unfold atI
        rw [e1]
        exact get_map V.ref hlw
      -- worlds.append(after_tick(worlds[-1], pressed))
      refine ⟨_, rfl, .inl ⟨rfl, _, SqL.of ho3⟩, ?_⟩
      refine ⟨_, rfl, _, rfl, o, _, _, _, rfl, rfl, SqL.of ho3, hat, _, rfl, lw, tp, t.n, ky, _, rfl, W3, PaM.play_ok ok _, ok.n4, km.1, km.2, .inr (SqT.of (s3 _ _ P1)), fun H4 r4 s4 W4 => ?_⟩
      have ho4 := s4 _ _ ho3
      have ew4 : Each (WorldAt K a H4) ws (PaM.plays t (i + 1)) := ew.mono fun _ _ _ _ r => r.fix (Same.fix s4)
      refine ⟨o, _, _, rfl, rfl, ho4, smaller (by have := ok.len; rw [List.length_map]; omega), ?_⟩
      have e5 : ws.map V.ref ++ [V.ref r4] = (ws ++ [r4]).map V.ref := by rw [List.map_append]; rfl
      rw [e5]
      have f5 : Fix H4 (upd H4 o (.lst ((ws ++ [r4]).map V.ref))) := stay_upd.fix fun m hm x e => by
        rw [List.mem_singleton.mp hm, ho4] at e
        cases e
        exact not_worlds ew4
      refine ⟨ws ++ [r4], _, rfl, fun b x e => ?_, upd_same, ?_⟩
      · have nb : b ≠ o := fun z => by
          have q1 := s1 _ _ e
          rw [z, no] at q1
          cases q1
        rw [upd_ne nb]
        exact (s3.trans s4) _ _ e
      · rw [PaM.plays_more t (i + 1)]
        refine (ew4.mono fun _ _ _ _ r => r.fix f5).add ?_
        rw [PaM.play_more hky]
        exact W4.fix f5
    · rintro σ H3 ⟨ws, v2, rfl, s3, ho3, ew⟩
      refine ⟨_, rfl, ?_⟩
      have no' : H o = none := s1.free no
      rw [List.length_map, ep.len] at ew
      exact kk _ o ws s3 no' ho3 ew
end Pa

set_option Elab.async false
set_option linter.all false
set_option maxRecDepth 100000
set_option maxHeartbeats 2000000
namespace Pa
open PySem PySem.Spec PyProof.Rows L2
variable {P : Program} {w : PySem.World} {K : PySem.W.Frag} {mg : Str → Option Value} {base : Heap} {a : Ad} {d : Fd}
/-! ### a state is kept -/
theorem ix_nat {j n : Nat} (h : j < n) : seqIndex? (j : Int) n = some j := (seqIndex_of (by omega) (by omega)).trans (by rw [Int.toNat_natCast])
theorem erase_map {α β : Type} (f : α → β) : ∀ (l : List α) (j : Nat), (l.map f).eraseIdx j = (l.eraseIdx j).map f
  | [], j => by simp
  | x :: l, 0 => rfl
  | x :: l, j + 1 => by
    rw [List.map_cons, List.eraseIdx_cons_succ, List.eraseIdx_cons_succ, List.map_cons, erase_map f l j]
theorem app_ref (l : List Addr) (x : Addr) : l.map V.ref ++ [V.ref x] = (l ++ [x]).map V.ref := by rw [List.map_append]; rfl
theorem RecAt.line_ne {H : Hp} {g pl sl : Addr} {t : Ge09.Tape} (R : RecAt K a H g pl sl t) : g ≠ pl ∧ g ≠ sl := by
  obtain ⟨⟨dx, ho⟩, ⟨ps, hp, _⟩, ⟨ss, hs, _⟩, _⟩ := R
  exact ⟨ne_of ho hp (fun q => by cases q), ne_of ho hs (fun q => by cases q)⟩
def sp_Recording_keep (K : PySem.W.Frag) (a : Ad) : Sp := fun vs H Q _ => ∃ (g pl sl sa : Addr) (t : Ge09.Tape) (x : Nat × Ge09.World), vs = [.ref g, .ref sa] ∧ RecAt K a H g pl sl t ∧ StateAt K a H sa x ∧ t.kept.length ≤ 6 ∧ (t.kept ++ [x]).Pairwise (fun a b => a.1 < b.1) ∧
  ∀ H', RecAt K a H' g pl sl (Ge09.keep t x) → Stay [sl] H H' → Q .non H'
theorem ok_Recording_keep (T : Txt K mg a d) : FnOk P w K mg base CX0 2 a.f_Recording_keep d.f_Recording_keep ["self", "state"] (sp_Recording_keep K a) := by
  refine T.F_Recording_keep.ok sc_Recording_keep (fun vs H Q E h => ?_) (fun cdv A outer s H vs Q E hr h => ⟨_, (pss_cons (ps_expr (pe_bm PySem.F.plainAttrs_list PySem.F.slot_list_append PySem.F.type_list_append mt_append (pe_fld (pv 0) rfl) (pa_cons (pv 1) pa_nil)))
    (pss_one (ps_if (pt_cmpR op_gt (pe_callB call_len_seq (by rfl) T.n_len PySem.boot_len (pa_cons (pe_fld (pv 0) rfl) pa_nil)) (pe_k T.k_MOST_STATES) (nomark _)) (pss_one (ps_expr (pe_bm PySem.F.plainAttrs_list PySem.F.slot_list_pop PySem.F.type_list_pop mt_popAt (pe_fld (pv 0) rfl) (pa_cons (pe_call (ok_which_state_goes T) (hr.mono (by decide)) (by rfl) T.g_which_state_goes T.F_which_state_goes.kp T.b_which_state_goes .nil pass0 (pa_cons (pe_fld (pv 0) rfl) pa_nil)) pa_nil)))) pss_nil))), ?_⟩)
  · obtain ⟨g, pl, sl, sa, t, x, rfl, _⟩ := h
    rfl
  · obtain ⟨g, pl, sl, sa, t, x, rfl, R, S, m6, srt, kk⟩ := h
    obtain ⟨⟨dx, ho⟩, ⟨ps, hp, ep⟩, ⟨ss, hs, es⟩, ne⟩ := id R
    have gsl := R.line_ne.2
    have hsl := es.len
    refine ⟨_, rfl, g, _, dx, _, _, rfl, ho, T.cl_Recording, T.na_Recording_states, re_sts, .inl ⟨rfl, _, SqL.of hs⟩, _, rfl, sl, _, _, rfl, rfl, hs, smaller (by rw [List.length_map]; omega), ?_⟩
    rw [app_ref]
    have f1 : Fix H (upd H sl (.lst ((ss ++ [sa]).map V.ref))) := stay_upd.fix fun m hm o e => by
      rw [List.mem_singleton.mp hm, hs] at e
      cases e
      exact not_states es
    have st1 : Stay [sl] H (upd H sl (.lst ((ss ++ [sa]).map V.ref))) := stay_upd
    generalize hH1 : upd H sl (.lst ((ss ++ [sa]).map V.ref)) = H1 at f1 st1
    have hs1 : H1 sl = some (.lst ((ss ++ [sa]).map V.ref)) := by rw [← hH1]; exact upd_same
    have ho1 : H1 g = _ := st1 _ _ ho fun z => gsl (List.mem_singleton.mp z)
    have hp1 : H1 pl = _ := st1 _ _ hp fun z => ne (List.mem_singleton.mp z)
    have es1 : Each (StateAt K a H1) (ss ++ [sa]) (t.kept ++ [x]) := (es.mono fun _ _ _ _ r => r.fix f1).add (S.fix f1)
    have ep1 : Each (PressAt H1) ps t.keys := ep.mono fun _ _ _ _ r => r.fix f1
    refine ⟨_, rfl, g, _, dx, _, _, rfl, ho1, T.cl_Recording, T.na_Recording_states, re_sts, sl, _, rfl, .inl (SqL.of hs1), _, _, rfl, rfl, _, rfl, ?_⟩
    have hlen : (((ss ++ [sa]).map V.ref).length : Int) = ((t.kept ++ [x]).length : Int) := by rw [List.length_map, es1.len]
    rw [hlen]
    by_cases c : (t.kept ++ [x]).length ≤ 6
    · refine ifF (decide_eq_false (by omega)) ?_
      refine kk _ ?_ st1
      rw [PaM.keep_few c]
      exact ⟨⟨dx, ho1⟩, ⟨ps, hp1, ep1⟩, ⟨ss ++ [sa], hs1, es1⟩, ne⟩
    · refine ifT (decide_eq_true (by omega)) ?_
      refine ⟨_, rfl, g, _, dx, _, _, rfl, ho1, T.cl_Recording, T.na_Recording_states, re_sts, .inl ⟨rfl, _, SqL.of hs1⟩, ?_⟩
      have l7 : (t.kept ++ [x]).length ≤ 10 := by rw [List.length_append, List.length_singleton]; omega
      refine ⟨_, rfl, g, _, dx, _, _, rfl, ho1, T.cl_Recording, T.na_Recording_states, re_sts, sl, ss ++ [sa], t.kept ++ [x], rfl, hs1, es1, by omega, l7, srt, fun H2 j s2 F hj => ?_⟩
      have hj' : j < (ss ++ [sa]).length := by rw [es1.len]; exact hj
      refine ⟨sl, _, _, j, _, rfl, rfl, s2 _ _ hs1, by omega, by omega, ix_nat (by rw [List.length_map]; exact hj'), get_map V.ref (List.getElem?_eq_getElem hj'), ?_⟩
      have es2 : Each (StateAt K a H2) (ss ++ [sa]) (t.kept ++ [x]) := es1.mono fun _ _ _ _ r => r.fix (Same.fix s2)
      have f3 : Fix H2 (upd H2 sl (.lst (((ss ++ [sa]).map V.ref).eraseIdx j))) := stay_upd.fix fun m hm o e => by
        rw [List.mem_singleton.mp hm, s2 _ _ hs1] at e
        cases e
        exact not_states es2
      have f13 := (Same.fix s2).trans f3
      refine kk _ ?_ (st1.trans ((Same.stay s2).trans stay_upd))
      rw [PaM.keep_many srt (by omega) F]
      refine ⟨⟨dx, (upd_ne gsl).trans (s2 _ _ ho1)⟩, ⟨ps, (upd_ne ne).trans (s2 _ _ hp1), ep1.mono fun _ _ _ _ r => r.fix f13⟩, ⟨(ss ++ [sa]).eraseIdx j, ?_, (es1.mono fun _ _ _ _ r => r.fix f13).erase j⟩, ne⟩
      rw [upd_same, erase_map]
/-! ### going on -/
def sp_Recording_record (K : PySem.W.Frag) (a : Ad) : Sp := fun vs H Q _ => ∃ (g pl sl p : Addr) (t : Ge09.Tape) (m : Nat) (ks : List Nat), vs = [.ref g, .int (m : Int), .ref p] ∧ RecAt K a H g pl sl t ∧ PaM.TapeOk t ∧ PaM.KeysOk t ks ∧ t.keys.length + m ≤ 120 ∧ H p = some (.lst (keyV ks)) ∧ p ≠ pl ∧ p ≠ sl ∧
  ∀ H' r, RecAt K a H' g pl sl (PaM.recN ks m t) → WorldAt K a H' r (Ge09.playTo (PaM.recN ks m t) (PaM.recN ks m t).keys.length) → Stay [pl, sl] H H' → Q (.ref r) H'
theorem ok_Recording_record (T : Txt K mg a d) : FnOk P w K mg base CX0 7 a.f_Recording_record d.f_Recording_record ["self", "how_often", "pressed"] (sp_Recording_record K a) := by
  refine T.F_Recording_record.ok sc_Recording_record (fun vs H Q E h => ?_) (fun cdv A outer s H vs Q E hr h => ⟨_, (pss_cons (ps_set (i := 3) sc_Recording_record.nd rfl (Or.inl rfl) (pe_meth0 (pv 0) T.cl_Recording T.m_Recording_ticks (ok_Recording_ticks T) (hr.mono (by decide)) T.b_Recording_ticks .nil pass0))
    (pss_cons (ps_set (i := 4) sc_Recording_record.nd rfl (Or.inl rfl) (pe_meth (pv 0) T.cl_Recording T.m_Recording_world_at (ok_Recording_world_at T) (hr.mono (by decide)) T.b_Recording_world_at .nil pass0 (pa_cons (pv 3) pa_nil)))
    (pss_cons (ps_for PassesOwn.never rfl (pi_range2 (by rfl) T.n_range (pa_cons (pe_op op_add (pv 3) pe_int) (pa_cons (pe_op op_add (pe_op op_add (pv 3) (pv 1)) pe_int) pa_nil))) (pg_name (i := 5) sc_Recording_record.nd rfl (Or.inl rfl)) (pss_cons (ps_set (i := 4) sc_Recording_record.nd rfl (Or.inl rfl) (pe_call (ok_after_tick T) (hr.mono (by decide)) (by rfl) T.g_after_tick T.F_after_tick.kp T.b_after_tick .nil pass0 (pa_cons (pv 4) (pa_cons (pv 2) pa_nil))))
    (pss_cons (ps_expr (pe_bm PySem.F.plainAttrs_list PySem.F.slot_list_append PySem.F.type_list_append mt_append (pe_fld (pv 0) rfl) (pa_cons (pe_callTy call_tuple_of (by rfl) T.n_tuple (by decide +kernel) (pa_cons (pv 2) pa_nil)) pa_nil)))
    (pss_one (ps_if (pt_cmpR op_eq (pe_op op_mod (pv 5) (pe_k T.k_TICKS_PER_STATE)) pe_int (nomark _)) (pss_one (ps_expr (pe_meth (pv 0) T.cl_Recording T.m_Recording_keep (ok_Recording_keep T) (hr.mono (by decide)) T.b_Recording_keep .nil pass0 (pa_cons (pe_make T.mk_State (ok_State_init T) (hr.mono (by decide)) (by rfl) T.g_State T.b_State_init .nil pass0 (pa_cons (pv 5) (pa_cons (pv 4) pa_nil))) pa_nil)))) pss_nil)))))
    (pss_one (ps_ret (pv 4)))))), ?_⟩)
  · obtain ⟨g, pl, sl, p, t, m, ks, rfl, _⟩ := h
    rfl
  · obtain ⟨g, pl, sl, p, t, m, ks, rfl, R, ok, kok, h120, hp, npl, nsl, kk⟩ := h
    obtain ⟨dx, ho⟩ := R.obj
    refine ⟨_, rfl, g, dx, _, rfl, ho, re_none (by decide +kernel) (by decide +kernel) (by decide +kernel) (by decide +kernel), g, pl, sl, t, rfl, R, ?_⟩
    refine ⟨_, rfl, g, dx, _, rfl, ho, re_none (by decide +kernel) (by decide +kernel) (by decide +kernel) (by decide +kernel), _, rfl, g, pl, sl, t, t.keys.length, rfl, R, ok, Nat.le_refl _, fun H2 r2 s12 W2 => ?_⟩
    refine ⟨_, rfl, _, _, rfl, rfl, _, rfl, _, rfl, _, _, rfl, rfl, _, _, rfl, rfl, _, _, rfl, ⟨by omega, by omega, by omega, by omega⟩, ?_⟩
    have hn : (((t.keys.length : Int) + (m : Int) + 1) - ((t.keys.length : Int) + 1)).toNat = m := by omega
    rw [hn]
    refine for_range (lo := (t.keys.length : Int) + 1) (n := m) (fun i σ H' => ∃ r v5, σ = [some (.ref g), some (.int (m : Int)), some (.ref p), some (.int (t.keys.length : Nat)), some (.ref r), v5] ∧ RecAt K a H' g pl sl (PaM.recN ks i t) ∧ WorldAt K a H' r (Ge09.playTo (PaM.recN ks i t) (PaM.recN ks i t).keys.length) ∧ Stay [pl, sl] H H')
      ⟨r2, none, rfl, R.same s12, W2, Same.stay s12⟩ ?_ ?_
    · rintro i σ H3 hi ⟨r, v5, rfl, R3, W3, st3⟩
      have same := PaM.recN_same ks i t
      have ok3 := PaM.recN_ok ok kok i (by omega)
      have kok3 : PaM.KeysOk (PaM.recN ks i t) ks := ⟨kok.len.trans same.1.symm, kok.le⟩
      have nin : p ∉ [pl, sl] := fun z => by
        rcases List.mem_cons.mp z with z | z
        · exact npl z
        · exact nsl (List.mem_singleton.mp z)
      have hp3 := st3 _ _ hp nin
      refine ⟨_, rfl, _, rfl, r, p, _, ks, _, rfl, W3, PaM.play_ok ok3 _, ok3.n4, kok3.len, kok3.le, .inl (SqL.of hp3), fun H4 r4 s4 W4 => ?_⟩
      have R4 := R3.same s4
      obtain ⟨⟨dx4, ho4⟩, ⟨ps, hpl4, ep4⟩, ⟨ss, hsl4, es4⟩, ne⟩ := id R4
      have gne := R4.line_ne
      refine ⟨_, rfl, g, _, dx4, _, _, rfl, ho4, T.cl_Recording, T.na_Recording_presses, re_prs, .inl ⟨rfl, _, SqL.of hpl4⟩, _, rfl, p, _, rfl, .inl ⟨SqL.of (s4 _ _ hp3), fun tp ntp => ?_⟩⟩
      have s5 := same_upd (o := .tup (keyV ks)) ntp
      refine ⟨pl, _, _, rfl, rfl, s5 _ _ hpl4, smaller ?_, ?_⟩
      · rw [List.length_map, ep4.len, same.2.2]
        omega
      rw [app_ref]
      have f6 : Fix (upd H4 tp (.tup (keyV ks))) (upd (upd H4 tp (.tup (keyV ks))) pl (.lst ((ps ++ [tp]).map V.ref))) := stay_upd.fix fun m hm o e => by
        rw [List.mem_singleton.mp hm, s5 _ _ hpl4] at e
        cases e
        exact not_presses (ep4.mono fun _ _ _ _ r => r.fix (Same.fix s5))
      have f46 := (Same.fix s5).trans f6
      have st6 : Stay [pl, sl] H4 (upd (upd H4 tp (.tup (keyV ks))) pl (.lst ((ps ++ [tp]).map V.ref))) := (Same.stay s5).trans (stay_upd.more fun m hm => List.mem_cons.mpr (.inl (List.mem_singleton.mp hm)))
      have R6 : RecAt K a (upd (upd H4 tp (.tup (keyV ks))) pl (.lst ((ps ++ [tp]).map V.ref))) g pl sl { PaM.recN ks i t with keys := (PaM.recN ks i t).keys ++ [ks] } := by
        refine ⟨⟨dx4, (upd_ne gne.1).trans (s5 _ _ ho4)⟩, ⟨ps ++ [tp], upd_same, (ep4.mono fun _ _ _ _ r => r.fix f46).add ?_⟩, ⟨ss, (upd_ne (Ne.symm ne)).trans (s5 _ _ hsl4), es4.mono fun _ _ _ _ r => r.fix f46⟩, ne⟩
        exact PressAt.fix (show PressAt _ tp ks from upd_same) f6
      generalize upd (upd H4 tp (.tup (keyV ks))) pl (.lst ((ps ++ [tp]).map V.ref)) = H6 at f6 f46 st6 R6
      have W6 := W4.fix f46
      have tpos : (t.keys.length : Int) + 1 + (i : Int) = (((PaM.recN ks i t).keys.length + 1 : Nat) : Int) := by rw [same.2.2]; omega
      refine ⟨_, rfl, _, _, rfl, rfl, (by show (0 : Int) < 8; decide), rfl, _, rfl, ?_⟩
      rw [tpos]
      have step : PaM.recN ks (i + 1) t = PaM.rec1 (PaM.recN ks i t) (Ge09.playTo (PaM.recN ks i t) (PaM.recN ks i t).keys.length) ks := rfl
      have wplay : Ge09.tick (Ge09.playTo (PaM.recN ks i t) (PaM.recN ks i t).keys.length) ks = Ge09.playTo (PaM.recN ks (i + 1) t) (PaM.recN ks (i + 1) t).keys.length := (PaM.recN_play ks i).symm
      by_cases c : ((PaM.recN ks i t).keys.length + 1) % 8 = 0
      · have c' : (((PaM.recN ks i t).keys.length + 1 : Nat) : Int) % 8 = 0 := by omega
        refine ifT (decide_eq_true (congrArg V.int c')) ?_
        obtain ⟨dx6, ho6⟩ := R6.obj
        refine ⟨_, rfl, g, dx6, _, rfl, ho6, re_none (by decide +kernel) (by decide +kernel) (by decide +kernel) (by decide +kernel), _, rfl, _, rfl, ?_⟩
        intro x7 dx7 nx7 nd7 ne7
        refine ⟨x7, dx7, r4, _, rfl, upd_same, fun H7 h7 st7 => ⟨rfl, ?_⟩⟩
        have s7 := same_made nx7 nd7 st7
        have U := PaM.put_ok ok3 kok3 (by omega)
        refine ⟨g, pl, sl, x7, _, ((PaM.recN ks i t).keys.length + 1, Ge09.tick (Ge09.playTo (PaM.recN ks i t) (PaM.recN ks i t).keys.length) ks), rfl, R6.same s7, ⟨dx7, r4, h7, W6.fix (Same.fix s7)⟩, ok3.most, PaM.app_sorted U (fun y hy => ?_), fun H8 R8 st8 => ?_⟩
        · have := ok3.kept y hy
          show y.1 < (PaM.recN ks i t).keys.length + 1
          omega
        · have f8 : Fix H7 H8 := st8.fix fun m hm o e => by
            obtain ⟨ss7, hs7, es7⟩ := (R6.same s7).sts
            rw [List.mem_singleton.mp hm, hs7] at e
            cases e
            exact not_states es7
          refine ⟨r4, _, rfl, ?_, ?_, ?_⟩
          · rw [step]
            unfold PaM.rec1
            rw [if_pos c]
            exact R8
          · rw [← wplay]
            exact (W6.fix (Same.fix s7)).fix f8
          · exact st3.trans ((Same.stay s4).trans (st6.trans ((Same.stay s7).trans (st8.more fun m hm => List.mem_cons_of_mem _ hm))))
      · have c' : ¬ (((PaM.recN ks i t).keys.length + 1 : Nat) : Int) % 8 = 0 := by omega
        refine ifF (decide_eq_false fun z => c' (V.int.inj z)) ?_
        refine ⟨r4, _, rfl, ?_, ?_, st3.trans ((Same.stay s4).trans st6)⟩
        · rw [step]
          unfold PaM.rec1
          rw [if_neg c]
          exact R6
        · rw [← wplay]
          exact W6
    · rintro σ H3 ⟨r, v5, rfl, R3, W3, st3⟩
      refine ⟨_, rfl, ?_⟩
      exact kk _ r R3 W3 st3
end Pa

set_option Elab.async false
set_option linter.all false
set_option maxRecDepth 100000
set_option maxHeartbeats 2000000
namespace Pa
open PySem PySem.Spec PyProof.Rows L2
variable {P : Program} {w : PySem.World} {K : PySem.W.Frag} {mg : Str → Option Value} {base : Heap} {a : Ad} {d : Fd}
/-! ### all behind a tick is forgotten -/
theorem filter_more {l : List (Nat × Ge09.World)} {i : Nat} {x : Nat × Ge09.World} {f : Nat × Ge09.World → Bool} (h : l[i]? = some x) : (l.take (i + 1)).filter f = (l.take i).filter f ++ if f x = true then [x] else [] := by
  rw [take_get h, List.filter_append]
  congr 1
  by_cases c : f x = true
  · rw [if_pos c, List.filter_cons_of_pos c]
    rfl
  · rw [if_neg c, List.filter_cons_of_neg c]
    rfl
/-- the states of later ticks are gone -/
def early (t : Ge09.Tape) (k : Nat) : Ge09.Tape := { t with kept := t.kept.filter fun x => decide (x.1 ≤ k) }
def sp_Recording_forget_states_behind (K : PySem.W.Frag) (a : Ad) : Sp := fun vs H Q _ => ∃ (g pl sl : Addr) (t : Ge09.Tape) (k : Nat), vs = [.ref g, .int (k : Int)] ∧ RecAt K a H g pl sl t ∧ t.kept.length ≤ 6 ∧
  ∀ H' sl', RecAt K a H' g pl sl' (early t k) → Stay [g] H H' → H sl' = none → Q .non H'
theorem ok_Recording_forget_states_behind (T : Txt K mg a d) : FnOk P w K mg base CX0 1 a.f_Recording_forget_states_behind d.f_Recording_forget_states_behind ["self", "tick"] (sp_Recording_forget_states_behind K a) := by
  refine T.F_Recording_forget_states_behind.ok sc_Recording_forget_states_behind (fun vs H Q E h => ?_) (fun cdv A outer s H vs Q E hr h => ⟨_, (pss_one (ps_fld (pv 0) (pe_lc (own := [("state", 2)]) rfl sc_Recording_forget_states_behind.nd (pi_list (pe_fld (pv 0) rfl)) (blkOk_by (own := [("state", 2)]) (N := ["self", "tick", "state"]) (sc := defScope s_Recording_forget_states_behind) (by decide +kernel)) (fun _ _ _ _ _ => pg_name (i := 2) sc_Recording_forget_states_behind.nd rfl (Or.inl rfl)) (fun _ _ _ _ _ => (pts_one (pt_cmpR op_le (pe_fldK (k := K) rfl (pv 2) rfl) (pv 1) (nomark _)))) (fun _ _ _ _ _ => (pv 2))) rfl)), ?_⟩)
  · obtain ⟨g, pl, sl, t, k, rfl, _⟩ := h
    rfl
  · obtain ⟨g, pl, sl, t, k, rfl, R, m6, kk⟩ := h
    obtain ⟨⟨dx, ho⟩, ⟨ps, hp, ep⟩, ⟨ss, hs, es⟩, ne⟩ := id R
    have gne := R.line_ne
    have hsl := es.len
    refine ⟨_, rfl, g, _, dx, _, _, rfl, ho, T.cl_Recording, T.na_Recording_states, re_sts, sl, rfl, ⟨_, SqL.of hs⟩, fun D nD => ?_⟩
    refine lc_list (K := K) (a := sl) (xs := ss.map V.ref) (fun i H' => ∃ qs, H' = upd H D (.lst (qs.map V.ref)) ∧ Each (StateAt K a H) qs ((t.kept.take i).filter fun x => decide (x.1 ≤ k)) ∧ qs.length ≤ i) ⟨[], rfl, Each.nil, Nat.le_refl _⟩ (fun i H' _ ⟨qs, e, _⟩ => ?_) ?_ ?_
    · rw [e]
      exact SqL.of (same_upd nD _ _ hs)
    · rintro i v H' hi ⟨qs, rfl, eq, lq⟩
      obtain ⟨sa, hsa, rfl⟩ := map_get hi
      have hil := (List.getElem?_eq_some_iff.mp hsa).1
      obtain ⟨y, hy, S⟩ := es.got hsa
      obtain ⟨dy, qy, hy1, hy2⟩ := id S
      refine ⟨rfl, ?_⟩
      refine ⟨_, rfl, sa, _, dy, _, _, rfl, same_upd nD _ _ hy1, T.cl_State, T.na_State_tick, st_tick, _, rfl, _, _, rfl, rfl, _, rfl, ?_⟩
      by_cases c : y.1 ≤ k
      · refine ifT (decide_eq_true (by omega)) ?_
        refine ⟨_, rfl, _, upd_same, smaller (by rw [List.length_map]; omega), qs ++ [sa], ?_, ?_, by simp; omega⟩
        · rw [upd_upd, app_ref]
        · rw [filter_more hy, if_pos (decide_eq_true c)]
          exact eq.add S
      · refine ifF (decide_eq_false (by omega)) ?_
        refine ⟨qs, rfl, ?_, by omega⟩
        rw [filter_more hy, if_neg (by simpa using c), List.append_nil]
        exact eq
    · rintro H3 ⟨qs, rfl, eq, _⟩
      rw [List.length_map, es.len, List.take_length] at eq
      have s3 : Same H (upd H D (.lst (qs.map V.ref))) := same_upd nD
      have gD : g ≠ D := ne_of_none ho nD
      have pD : pl ≠ D := ne_of_none hp nD
      refine ⟨_, rfl, g, _, dx, _, rfl, s3 _ _ ho, T.cl_Recording, T.na_Recording_states, by show 4 < 1000; decide, ?_⟩
      rw [re_put_sts]
      have st4 : Stay [g] H (upd (upd H D (.lst (qs.map V.ref))) g (.ins a.c_Recording dx (reF (t.n : Int) (t.seed : Int) pl D))) := (stay_new nD).trans stay_upd
      have f4 : Fix H (upd (upd H D (.lst (qs.map V.ref))) g (.ins a.c_Recording dx (reF (t.n : Int) (t.seed : Int) pl D))) := st4.fix fun m hm o e => by
        rw [List.mem_singleton.mp hm, ho] at e
        cases e
        exact not_rec
      refine kk _ D ⟨⟨dx, upd_same⟩, ⟨ps, ?_, ep.mono fun _ _ _ _ r => r.fix f4⟩, ⟨qs, ?_, eq.mono fun _ _ _ _ r => r.fix f4⟩, pD⟩ st4 nD
      · rw [upd_ne (Ne.symm gne.1), upd_ne pD]
        exact hp
      · rw [upd_ne (Ne.symm gD), upd_same]
def sp_Recording_forget_behind (K : PySem.W.Frag) (a : Ad) : Sp := fun vs H Q _ => ∃ (g pl sl : Addr) (t : Ge09.Tape) (k : Nat), vs = [.ref g, .int (k : Int)] ∧ RecAt K a H g pl sl t ∧ t.kept.length ≤ 6 ∧ k ≤ t.keys.length ∧
  ∀ H' pl' sl', RecAt K a H' g pl' sl' (Ge09.cut t k) → Stay [g] H H' → H pl' = none → H sl' = none → Q .non H'
theorem ok_Recording_forget_behind (T : Txt K mg a d) : FnOk P w K mg base CX0 2 a.f_Recording_forget_behind d.f_Recording_forget_behind ["self", "tick"] (sp_Recording_forget_behind K a) := by
  refine T.F_Recording_forget_behind.ok sc_Recording_forget_behind (fun vs H Q E h => ?_) (fun cdv A outer s H vs Q E hr h => ⟨_, (pss_cons (ps_fld (pv 0) (pe_slice sl_list (pe_fld (pv 0) rfl) po_none (po_some (pv 1))) rfl)
    (pss_one (ps_expr (pe_meth (pv 0) T.cl_Recording T.m_Recording_forget_states_behind (ok_Recording_forget_states_behind T) (hr.mono (by decide)) T.b_Recording_forget_states_behind .nil pass0 (pa_cons (pv 1) pa_nil))))), ?_⟩)
  · obtain ⟨g, pl, sl, t, k, rfl, _⟩ := h
    rfl
  · obtain ⟨g, pl, sl, t, k, rfl, R, m6, hk, kk⟩ := h
    obtain ⟨⟨dx, ho⟩, ⟨ps, hp, ep⟩, ⟨ss, hs, es⟩, ne⟩ := id R
    have gne := R.line_ne
    refine ⟨_, rfl, g, _, dx, _, _, rfl, ho, T.cl_Recording, T.na_Recording_presses, re_prs, _, rfl, _, rfl, pl, _, rfl, SqL.of hp, fun p1 n1 => ?_⟩
    have g1 : g ≠ p1 := ne_of_none ho n1
    rw [cut_take (by rw [List.length_map, ep.len]; exact hk), ← List.map_take]
    refine ⟨_, rfl, g, _, dx, _, rfl, (upd_ne g1).trans ho, T.cl_Recording, T.na_Recording_presses, by show 4 < 1000; decide, ?_⟩
    rw [re_put_prs]
    have st2 : Stay [g] H (upd (upd H p1 (.lst ((ps.take k).map V.ref))) g (.ins a.c_Recording dx (reF (t.n : Int) (t.seed : Int) p1 sl))) := (stay_new n1).trans stay_upd
    have f2 : Fix H (upd (upd H p1 (.lst ((ps.take k).map V.ref))) g (.ins a.c_Recording dx (reF (t.n : Int) (t.seed : Int) p1 sl))) := st2.fix fun m hm o e => by
      rw [List.mem_singleton.mp hm, ho] at e
      cases e
      exact not_rec
    have ho2 : upd (upd H p1 (.lst ((ps.take k).map V.ref))) g (.ins a.c_Recording dx (reF (t.n : Int) (t.seed : Int) p1 sl)) g = some (.ins a.c_Recording dx (reF (t.n : Int) (t.seed : Int) p1 sl)) := upd_same
    have hp2 : upd (upd H p1 (.lst ((ps.take k).map V.ref))) g (.ins a.c_Recording dx (reF (t.n : Int) (t.seed : Int) p1 sl)) p1 = some (.lst ((ps.take k).map V.ref)) := (upd_ne (Ne.symm g1)).trans upd_same
    generalize upd (upd H p1 (.lst ((ps.take k).map V.ref))) g (.ins a.c_Recording dx (reF (t.n : Int) (t.seed : Int) p1 sl)) = H2 at st2 f2 ho2 hp2
    have hs2 : H2 sl = _ := st2 _ _ hs fun z => gne.2 (List.mem_singleton.mp z).symm
    have np1 : p1 ≠ sl := (ne_of_none hs n1).symm
    have R2 : RecAt K a H2 g p1 sl { t with keys := t.keys.take k } := ⟨⟨dx, ho2⟩, ⟨ps.take k, hp2, (ep.take k).mono fun _ _ _ _ r => r.fix f2⟩, ⟨ss, hs2, es.mono fun _ _ _ _ r => r.fix f2⟩, np1⟩
    refine ⟨_, rfl, g, dx, _, rfl, ho2, re_none (by decide +kernel) (by decide +kernel) (by decide +kernel) (by decide +kernel), _, rfl, g, p1, sl, _, k, rfl, R2, m6, fun H3 sl3 R3 st3 n3 => ?_⟩
    refine kk _ p1 sl3 R3 (st2.trans st3) n1 ?_
    cases e : H sl3 with
    | none => rfl
    | some o =>
      by_cases z : sl3 = g
      · rw [z, ho2] at n3
        cases n3
      · have := st2 _ _ e fun q => z (List.mem_singleton.mp q)
        rw [this] at n3
        cases n3
/-! ### a key pressed otherwise -/
theorem ixN_nat {j n : Nat} (h : j < n) : ixN n (j : Int) = some j := by
  unfold ixN
  rw [if_pos (by omega), if_pos (by omega), Int.toNat_natCast]
def sp_Recording_press_otherwise (K : PySem.W.Frag) (a : Ad) : Sp := fun vs H Q _ => ∃ (g pl sl : Addr) (t : Ge09.Tape) (k i v : Nat), vs = [.ref g, .int (k : Int), .int (i : Int), .int (v : Int)] ∧ RecAt K a H g pl sl t ∧ PaM.TapeOk t ∧ k < t.keys.length ∧ i < t.n ∧
  ∀ H' sl', RecAt K a H' g pl sl' (PaM.spoil t k i v) → Stay [g, pl] H H' → H sl' = none → Q .non H'
theorem ok_Recording_press_otherwise (T : Txt K mg a d) : FnOk P w K mg base CX0 2 a.f_Recording_press_otherwise d.f_Recording_press_otherwise ["self", "tick", "player", "key"] (sp_Recording_press_otherwise K a) := by
  refine T.F_Recording_press_otherwise.ok sc_Recording_press_otherwise (fun vs H Q E h => ?_) (fun cdv A outer s H vs Q E hr h => ⟨_, (pss_cons (ps_set (i := 4) sc_Recording_press_otherwise.nd rfl (Or.inl rfl) (pe_callTy call_list_of (by rfl) T.n_list (by decide +kernel) (pa_cons (pe_ix ix_list (pe_fld (pv 0) rfl) (pv 1) (fun _ _ => rfl)) pa_nil)))
    (pss_cons (ps_asg (pv 3) (pg_sub (pv 4) (pv 2) set_list))
    (pss_cons (ps_asg (pe_callTy call_tuple_of (by rfl) T.n_tuple (by decide +kernel) (pa_cons (pv 4) pa_nil)) (pg_sub (pe_fld (pv 0) rfl) (pv 1) set_list))
    (pss_one (ps_expr (pe_meth (pv 0) T.cl_Recording T.m_Recording_forget_states_behind (ok_Recording_forget_states_behind T) (hr.mono (by decide)) T.b_Recording_forget_states_behind .nil pass0 (pa_cons (pv 1) pa_nil))))))), ?_⟩)
  · obtain ⟨g, pl, sl, t, k, i, v, rfl, _⟩ := h
    rfl
  · obtain ⟨g, pl, sl, t, k, i, v, rfl, R, ok, hk, hi, kk⟩ := h
    obtain ⟨⟨dx, ho⟩, ⟨ps, hp, ep⟩, ⟨ss, hs, es⟩, ne⟩ := id R
    have gne := R.line_ne
    obtain ⟨ky, hky⟩ : ∃ ky, t.keys[k]? = some ky := ⟨_, List.getElem?_eq_getElem hk⟩
    obtain ⟨tp, htp, P1⟩ := ep.get hky
    have km := ok.keys ky (List.mem_of_getElem? hky)
    -- pressed = list(self.presses[tick])
    refine ⟨_, rfl, g, _, dx, _, _, rfl, ho, T.cl_Recording, T.na_Recording_presses, re_prs, _, rfl, pl, _, _, _, rfl, rfl, SqL.of hp, atI_nat (get_map V.ref htp), tp, _, rfl, .inr (SqT.of P1), fun l nl => ?_⟩
    -- pressed[player] = key
    refine ⟨_, rfl, _, rfl, _, rfl, l, _, _, i, rfl, rfl, upd_same, ixN_nat (by rw [List.length_map, km.1]; exact hi), ?_⟩
    rw [upd_upd]
    have es1 : (keyV ky).set i (.int (v : Int)) = keyV (ky.set i v) := (List.map_set ..).symm
    rw [es1]
    have s1 : Same H (upd H l (.lst (keyV (ky.set i v)))) := same_upd nl
    have hl : upd H l (.lst (keyV (ky.set i v))) l = some (.lst (keyV (ky.set i v))) := upd_same
    generalize upd H l (.lst (keyV (ky.set i v))) = H1 at s1 hl
    -- self.presses[tick] = tuple(pressed)
    refine ⟨_, rfl, l, _, rfl, .inl ⟨SqL.of hl, fun tq ntq => ?_⟩⟩
    have s2 : Same H (upd H1 tq (.tup (keyV (ky.set i v)))) := s1.trans (same_upd ntq)
    have htq : upd H1 tq (.tup (keyV (ky.set i v))) tq = some (.tup (keyV (ky.set i v))) := upd_same
    generalize upd H1 tq (.tup (keyV (ky.set i v))) = H2 at s2 htq
    have hpk : k < (ps.map V.ref).length := by rw [List.length_map, ep.len]; exact hk
    refine ⟨_, rfl, g, _, dx, _, _, rfl, s2 _ _ ho, T.cl_Recording, T.na_Recording_presses, re_prs, _, rfl, pl, _, _, k, rfl, rfl, s2 _ _ hp, ixN_nat hpk, ?_⟩
    have em : (ps.map V.ref).set k (V.ref tq) = (ps.set k tq).map V.ref := (List.map_set ..).symm
    rw [em]
    have st3 : Stay [pl] H2 (upd H2 pl (.lst ((ps.set k tq).map V.ref))) := stay_upd
    have f3 : Fix H2 (upd H2 pl (.lst ((ps.set k tq).map V.ref))) := st3.fix fun m hm o e => by
      rw [List.mem_singleton.mp hm, s2 _ _ hp] at e
      cases e
      exact not_presses (ep.mono fun _ _ _ _ r => r.fix (Same.fix s2))
    have hp3 : upd H2 pl (.lst ((ps.set k tq).map V.ref)) pl = some (.lst ((ps.set k tq).map V.ref)) := upd_same
    generalize upd H2 pl (.lst ((ps.set k tq).map V.ref)) = H3 at st3 f3 hp3
    have f13 := (Same.fix s2).trans f3
    have ho3 : H3 g = _ := st3 _ _ (s2 _ _ ho) fun z => gne.1 (List.mem_singleton.mp z)
    have hs3 : H3 sl = _ := st3 _ _ (s2 _ _ hs) fun z => ne (List.mem_singleton.mp z).symm
    have R3 : RecAt K a H3 g pl sl { t with keys := t.keys.set k (ky.set i v) } := ⟨⟨dx, ho3⟩, ⟨ps.set k tq, hp3, (ep.mono fun _ _ _ _ r => r.fix f13).put (PressAt.fix (show PressAt H2 tq (ky.set i v) from htq) f3)⟩, ⟨ss, hs3, es.mono fun _ _ _ _ r => r.fix f13⟩, ne⟩
    -- self.forget_states_behind(tick)
    refine ⟨_, rfl, g, dx, _, rfl, ho3, re_none (by decide +kernel) (by decide +kernel) (by decide +kernel) (by decide +kernel), _, rfl, g, pl, sl, _, k, rfl, R3, ok.most, fun H4 sl4 R4 st4 n4 => ?_⟩
    have eg : t.keys.getD k [] = ky := by rw [List.getD_eq_getElem?_getD, hky]; rfl
    have e5 : PaM.spoil t k i v = early { t with keys := t.keys.set k (ky.set i v) } k := by
      unfold PaM.spoil early
      rw [eg]
    refine kk _ sl4 (e5 ▸ R4) ((Same.stay s2).trans ((st3.more fun m hm => by rw [List.mem_singleton.mp hm]; simp).trans (st4.more fun m hm => by rw [List.mem_singleton.mp hm]; simp))) ?_
    cases e : H sl4 with
    | none => rfl
    | some o =>
      by_cases z : sl4 = pl
      · rw [z, hp3] at n4
        cases n4
      · have := st3 _ _ (s2 _ _ e) fun q => z (List.mem_singleton.mp q)
        rw [this] at n4
        cases n4
/-! ### are these keys of so many -/
def sp_are_keys_of (K : PySem.W.Frag) : Sp := fun vs H Q _ => ∃ (p : Addr) (ks : List Nat) (n : Nat), vs = [.ref p, .int (n : Int)] ∧ SqL K H p (keyV ks) ∧ ks.length ≤ 1000 ∧
  ∀ H', Same H H' → Q (.bl (ks.length == n && ks.all fun x => decide (x ≤ 4))) H'
theorem ok_are_keys_of (T : Txt K mg a d) : FnOk P w K mg base CX0 2 a.f_are_keys_of d.f_are_keys_of ["pressed", "how_many"] (sp_are_keys_of K) := by
  refine T.F_are_keys_of.ok sc_are_keys_of (fun vs H Q E h => ?_) (fun cdv A outer s H vs Q E hr h => ⟨_, (pss_one (ps_ret (pe_and (pe_cmpR op_eq (pe_callB call_len_seq (by rfl) T.n_len PySem.boot_len (pa_cons (pv 0) pa_nil)) (pv 1) (nomark _)) (pe_one (pe_callB (cr_all rfl) (by rfl) T.n_all (by decide +kernel) (pa_cons (pe_lc (own := [("key", 2)]) rfl sc_are_keys_of.nd (pi_list (pv 0)) (blkOk_by (own := [("key", 2)]) (N := ["pressed", "how_many", "key"]) (sc := defScope s_are_keys_of) (by decide +kernel)) (fun _ _ _ _ _ => pg_name (i := 2) sc_are_keys_of.nd rfl (Or.inl rfl)) (fun _ _ _ _ _ => pts_nil) (fun _ _ _ _ _ => (pe_call (ok_is_key T) (hr.mono (by decide)) (by rfl) T.g_is_key T.F_is_key.kp T.b_is_key .nil pass0 (pa_cons (pv 2) pa_nil)))) pa_nil)))))), ?_⟩)
  · obtain ⟨p, ks, n, rfl, _⟩ := h
    rfl
  · obtain ⟨p, ks, n, rfl, hp, h1000, kk⟩ := h
    refine ⟨_, rfl, p, _, rfl, .inl hp, _, rfl, rfl, _, rfl, ?_⟩
    have hl : ((keyV ks).length : Int) = (ks.length : Int) := by rw [List.length_map]
    rw [hl]
    by_cases c : ks.length = n
    · refine ifT (decide_eq_true (by rw [c])) ?_
      refine ⟨_, rfl, p, rfl, ⟨_, hp⟩, fun D nD => ?_⟩
      refine lc_list (K := K) (a := p) (xs := keyV ks) (fun i H' => H' = upd H D (.lst ((ks.take i).map fun (x : Nat) => V.bl (decide (x ≤ 4))))) rfl (fun i H' _ e => by rw [e]; exact (same_upd nD).seq hp) ?_ ?_
      · rintro i v H' hi rfl
        obtain ⟨y, hy, rfl⟩ := map_get hi
        have hil := (List.getElem?_eq_some_iff.mp hy).1
        refine ⟨rfl, ?_⟩
        refine ⟨_, rfl, y, rfl, _, upd_same, smaller (by simp only [List.length_map, List.length_take]; omega), ?_⟩
        rw [upd_upd, take_get hy, List.map_append]
        rfl
      · rintro H1 rfl
        have e1 : (ks.take (keyV ks).length) = ks := List.take_of_length_le (by rw [List.length_map]; exact Nat.le_refl _)
        rw [e1]
        have e2 : (ks.map fun (x : Nat) => V.bl (decide (x ≤ 4))) = (ks.map fun (x : Nat) => decide (x ≤ 4)).map V.bl := by rw [List.map_map]; rfl
        rw [e2]
        refine ⟨D, _, rfl, SqL.of upd_same, ?_⟩
        have r := kk _ (same_upd (o := .lst ((ks.map fun (x : Nat) => decide (x ≤ 4)).map V.bl)) nD)
        have e3 : (ks.length == n && ks.all fun x => decide (x ≤ 4)) = (ks.map fun (x : Nat) => decide (x ≤ 4)).all id := by
          rw [c, beq_self_eq_true, Bool.true_and, List.all_map]
          rfl
        rw [e3] at r
        exact r
    · refine ifF (decide_eq_false fun z => c (by have := V.int.inj z; omega)) ?_
      have r := kk _ (Same.refl H)
      have e3 : (ks.length == n && ks.all fun x => decide (x ≤ 4)) = false := by
        rw [beq_eq_false_iff_ne.mpr c, Bool.false_and]
      rw [e3] at r
      exact r
end Pa

set_option Elab.async false
set_option linter.all false
set_option maxRecDepth 100000
set_option maxHeartbeats 2000000
namespace Pa
open PySem PySem.Spec PyProof.Rows L2
variable {P : Program} {w : PySem.World} {K : PySem.W.Frag} {mg : Str → Option Value} {base : Heap} {a : Ad} {d : Fd}
/-! ### a line: two recordings that share nothing that changes -/
structure LineAt (K : PySem.W.Frag) (a : Ad) (H : Hp) (l g pl sl o pm sm : Addr) (h : Ge09.House) : Prop where
  obj : ∃ dx, H l = some (.ins a.c_Line dx (liF g o))
  r1 : RecAt K a H g pl sl h.tape
  r2 : RecAt K a H o pm sm h.other
  d1 : g ≠ o
  d2 : pl ≠ pm
  d3 : pl ≠ sm
  d4 : sl ≠ pm
  d5 : sl ≠ sm
def LineIn (K : PySem.W.Frag) (a : Ad) (H : Hp) (l : Addr) (M : List Addr) (h : Ge09.House) : Prop := ∃ g pl sl o pm sm, M = [l, g, pl, sl, o, pm, sm] ∧ LineAt K a H l g pl sl o pm sm h
section
variable {H H' : Hp} {l g pl sl o pm sm : Addr} {h : Ge09.House} {M : List Addr}
theorem LineIn.same (L : LineIn K a H l M h) (s : Same H H') : LineIn K a H' l M h := by
  obtain ⟨g, pl, sl, o, pm, sm, e, ⟨dx, x⟩, r1, r2, d1, d2, d3, d4, d5⟩ := L
  exact ⟨g, pl, sl, o, pm, sm, e, ⟨dx, s _ _ x⟩, r1.same s, r2.same s, d1, d2, d3, d4, d5⟩
theorem RecAt.there {t : Ge09.Tape} (R : RecAt K a H g pl sl t) : ∀ m ∈ [g, pl, sl], ∃ x, H m = some x ∧ ¬ imm H x := by
  obtain ⟨⟨dx, ho⟩, ⟨ps, hp, ep⟩, ⟨ss, hs, es⟩, _⟩ := R
  intro m hm
  rcases List.mem_cons.mp hm with z | hm
  · rw [z]; exact ⟨_, ho, not_rec⟩
  · rcases List.mem_cons.mp hm with z | hm
    · rw [z]; exact ⟨_, hp, not_presses ep⟩
    · rw [List.mem_singleton.mp hm]; exact ⟨_, hs, not_states es⟩
theorem LineIn.there (L : LineIn K a H l M h) : ∀ m ∈ M, ∃ x, H m = some x ∧ ¬ imm H x := by
  obtain ⟨g, pl, sl, o, pm, sm, rfl, ⟨dx, x⟩, r1, r2, d1, d2, d3, d4, d5⟩ := L
  intro m hm
  rcases List.mem_cons.mp hm with z | hm
  · rw [z]; exact ⟨_, x, not_line⟩
  · have hm' : m ∈ [g, pl, sl] ++ [o, pm, sm] := hm
    rcases List.mem_append.mp hm' with z | z
    · exact r1.there m z
    · exact r2.there m z
theorem LineIn.fix {M' : List Addr} (L : LineIn K a H l M h) (s : Stay M' H H') (sub : ∀ m ∈ M', m ∈ M) : Fix H H' := s.fix fun m hm x e => by
  obtain ⟨y, hy, n⟩ := L.there m (sub m hm)
  rw [hy] at e
  cases e
  exact n
theorem LineAt.mem (L : LineAt K a H l g pl sl o pm sm h) : LineIn K a H l [l, g, pl, sl, o, pm, sm] h := ⟨g, pl, sl, o, pm, sm, rfl, L⟩
/-- a recording stands where nothing of it was changed -/
theorem RecAt.stays {t : Ge09.Tape} {N : List Addr} (R : RecAt K a H g pl sl t) (s : Stay N H H') (f : Fix H H') (h1 : g ∉ N) (h2 : pl ∉ N) (h3 : sl ∉ N) : RecAt K a H' g pl sl t := by
  obtain ⟨⟨dx, ho⟩, ⟨ps, hp, ep⟩, ⟨ss, hs, es⟩, ne⟩ := R
  exact ⟨⟨dx, s _ _ ho h1⟩, ⟨ps, s _ _ hp h2, ep.mono fun _ _ _ _ r => r.fix f⟩, ⟨ss, s _ _ hs h3, es.mono fun _ _ _ _ r => r.fix f⟩, ne⟩
/-- an instance is no list -/
theorem RecAt.inst_ne {C dx b : Addr} {fs : List (Str × V)} {t : Ge09.Tape} (R : RecAt K a H g pl sl t) (hb : H b = some (.ins C dx fs)) : b ≠ pl ∧ b ≠ sl := by
  obtain ⟨_, ⟨ps, hp, _⟩, ⟨ss, hs, _⟩, _⟩ := R
  exact ⟨ne_of hb hp (fun q => by cases q), ne_of hb hs (fun q => by cases q)⟩
theorem line_rec_ne {t : Ge09.Tape} {dx : Addr} {p q : Addr} (R : RecAt K a H g pl sl t) (hl : H l = some (.ins a.c_Line dx (liF p q))) : l ≠ g := by
  obtain ⟨⟨dg, ho⟩, _⟩ := R
  refine ne_of hl ho fun z => ?_
  injection z with _ _ z
  injection z with z
  injection z with z
  exact absurd z (by decide +kernel)
end
/-- what a call of the line is asked: the state then, the numbers answered in a new list -/
def ansK (K : PySem.W.Frag) (a : Ad) (H : Hp) (l : Addr) (M : List Addr) (r : Ge09.House × List Int) (Q : VK) : Prop :=
  ∀ H' p M', LineIn K a H' l M' r.1 → Stay M H H' → (∀ m ∈ M', m ∈ M ∨ H m = none) → H p = none → H' p = some (.lst (r.2.map V.int)) → Q (.ref p) H'
theorem ans_same {H H' : Hp} {l p : Addr} {M : List Addr} {h : Ge09.House} {ans : List Int} {r : Ge09.House × List Int} {Q : VK} (k : ansK K a H l M r Q) (e : r = (h, ans)) (L : LineIn K a H l M h) (s : Same H H') (np : H p = none) (hp : H' p = some (.lst (ans.map V.int))) : Q (.ref p) H' := by
  subst e
  exact k H' p M (L.same s) (Same.stay s) (fun m hm => .inl hm) np hp
theorem ints_keyV (l : List Nat) : (Ge09.ints l).map V.int = keyV l := by
  unfold Ge09.ints
  rw [List.map_map]
  rfl
theorem li_going {g o : Addr} : (liF g o).lookup ("going" : Str) = some (.ref g) := lk1
theorem li_aside {g o : Addr} : (liF g o).lookup ("aside" : Str) = some (.ref o) := (lkN (by decide +kernel)).trans lk1
theorem li_none {g o : Addr} {m : Str} (h1 : (m == ("going" : Str)) = false) (h2 : (m == ("aside" : Str)) = false) : (liF g o).lookup m = none := (lkN h1).trans ((lkN h2).trans rfl)
theorem li_put_going {g o p : Addr} : putF "going" (.ref p) (liF g o) = liF p o := pf1
theorem li_put_aside {g o p : Addr} : putF "aside" (.ref p) (liF g o) = liF g p := (pfN (by decide +kernel)).trans (congrArg _ pf1)
/-! ### a new line -/
theorem rec_new {H H1 : Hp} {x dx pl sl : Addr} {n s : Nat} (hx : H1 x = some (.ins a.c_Recording dx (reF (n : Int) (s : Int) pl sl))) (hpl : H1 pl = some (.lst [])) (hsl : H1 sl = some (.lst [])) (ne : pl ≠ sl) : RecAt K a H1 x pl sl ⟨n, s, [], []⟩ :=
  ⟨⟨dx, hx⟩, ⟨[], hpl, Each.nil⟩, ⟨[], hsl, Each.nil⟩, ne⟩
theorem free_of {H : Hp} {x dx C p : Addr} (h : upd (upd H dx (.own x)) x (.ins C dx []) p = none) : H p = none ∧ p ≠ x ∧ p ≠ dx := by
  have n1 : p ≠ x := fun z => by rw [z, upd_same] at h; cases h
  rw [upd_ne n1] at h
  have n2 : p ≠ dx := fun z => by rw [z, upd_same] at h; cases h
  rw [upd_ne n2] at h
  exact ⟨h, n1, n2⟩
def sp_Line_init (K : PySem.W.Frag) (a : Ad) : Sp := fun vs H Q _ => ∃ (p dx : Addr), vs = [.ref p] ∧ H p = some (.ins a.c_Line dx []) ∧
  ∀ H' M, LineIn K a H' p M Ge09.init → Stay [p] H H' → (∀ m ∈ M, m = p ∨ H m = none) → Q .non H'
theorem ok_Line_init (T : Txt K mg a d) : FnOk P w K mg base CX0 3 a.f_Line_init d.f_Line_init ["self"] (sp_Line_init K a) := by
  refine T.F_Line_init.ok sc_Line_init (fun vs H Q E h => ?_) (fun cdv A outer s H vs Q E hr h => ⟨_, (pss_cons (ps_fld (pv 0) (pe_make T.mk_Recording (ok_Recording_init T) (hr.mono (by decide)) (by rfl) T.g_Recording T.b_Recording_init .nil pass0 (pa_cons pe_int (pa_cons pe_int pa_nil))) rfl)
    (pss_one (ps_fld (pv 0) (pe_make T.mk_Recording (ok_Recording_init T) (hr.mono (by decide)) (by rfl) T.g_Recording T.b_Recording_init .nil pass0 (pa_cons pe_int (pa_cons pe_int pa_nil))) rfl))), ?_⟩)
  · obtain ⟨p, dx, rfl, _⟩ := h
    rfl
  · obtain ⟨p, dx, rfl, hp, k⟩ := h
    intro x dx1 nx nd ne1
    refine ⟨x, dx1, _, _, rfl, upd_same, fun H1 pl sl hx hpl hsl ne2 npl nsl st => ⟨rfl, ?_⟩⟩
    have s1 := same_made nx nd st
    have px : p ≠ x := ne_of_none hp nx
    obtain ⟨npl', plx, _⟩ := free_of npl
    obtain ⟨nsl', slx, _⟩ := free_of nsl
    have ppl : p ≠ pl := ne_of_none hp npl'
    have psl : p ≠ sl := ne_of_none hp nsl'
    refine ⟨_, rfl, p, _, dx, _, rfl, s1 _ _ hp, T.cl_Line, T.na_Line_going, by show 0 < 1000; decide, ?_⟩
    rw [pf0]
    have R1 : RecAt K a (upd H1 p (.ins a.c_Line dx [("going", .ref x)])) x pl sl ⟨1, 1, [], []⟩ :=
      rec_new (H := H) (n := 1) (s := 1) ((upd_ne (Ne.symm px)).trans hx) ((upd_ne (Ne.symm ppl)).trans hpl) ((upd_ne (Ne.symm psl)).trans hsl) ne2
    have hp2 : upd H1 p (.ins a.c_Line dx [("going", .ref x)]) p = some (.ins a.c_Line dx [("going", .ref x)]) := upd_same
    have st2 : Stay [p] H (upd H1 p (.ins a.c_Line dx [("going", .ref x)])) := (Same.stay s1).trans stay_upd
    generalize upd H1 p (.ins a.c_Line dx [("going", .ref x)]) = H2 at R1 hp2 st2
    have old : ∀ b, b ≠ p → H2 b = none → H b = none := fun b n e => by
      cases q : H b with
      | none => rfl
      | some y =>
        rw [st2 _ _ q fun z => n (List.mem_singleton.mp z)] at e
        cases e
    intro y dy ny ndy ney
    refine ⟨y, dy, _, _, rfl, upd_same, fun H3 pm sm hy hpm hsm ne3 npm nsm st3 => ⟨rfl, ?_⟩⟩
    have s3 := same_made ny ndy st3
    obtain ⟨npm', pmy, _⟩ := free_of npm
    obtain ⟨nsm', smy, _⟩ := free_of nsm
    have py : p ≠ y := ne_of_none hp2 ny
    have ppm : p ≠ pm := ne_of_none hp2 npm'
    have psm : p ≠ sm := ne_of_none hp2 nsm'
    have th := R1.there
    have off : ∀ m ∈ [x, pl, sl], ∀ b, H2 b = none → m ≠ b := fun m hm b e => by
      obtain ⟨z, hz, _⟩ := th m hm
      exact ne_of_none hz e
    refine ⟨_, rfl, p, _, dx, _, rfl, s3 _ _ hp2, T.cl_Line, T.na_Line_aside, by show 1 < 1000; decide, ?_⟩
    have e : putF "aside" (.ref y) [(("going" : Str), V.ref x)] = liF x y := (pfN (by decide +kernel)).trans rfl
    rw [e]
    have st4 : Stay [p] H3 (upd H3 p (.ins a.c_Line dx (liF x y))) := stay_upd
    have f4 : Fix H3 (upd H3 p (.ins a.c_Line dx (liF x y))) := st4.fix fun m hm o e => by
      rw [List.mem_singleton.mp hm, s3 _ _ hp2] at e
      cases e
      rintro ⟨v, r, h | h | h⟩ <;> (injection h with h1; injection h1 with h2; exact absurd h2 (by decide +kernel))
    refine k _ _ (LineAt.mem (l := p) (g := x) (pl := pl) (sl := sl) (o := y) (pm := pm) (sm := sm) ⟨⟨dx, upd_same⟩, (R1.same s3).stays st4 f4 ?_ ?_ ?_, rec_new (H := H) (n := 1) (s := 1) ((upd_ne (Ne.symm py)).trans hy) ((upd_ne (Ne.symm ppm)).trans hpm) ((upd_ne (Ne.symm psm)).trans hsm) ne3, ?_, ?_, ?_, ?_, ?_⟩) (st2.trans ((Same.stay s3).trans st4)) ?_
    · exact fun z => px (List.mem_singleton.mp z).symm
    · exact fun z => ppl (List.mem_singleton.mp z).symm
    · exact fun z => psl (List.mem_singleton.mp z).symm
    · exact off x (by simp) y ny
    · exact off pl (by simp) pm npm'
    · exact off pl (by simp) sm nsm'
    · exact off sl (by simp) pm npm'
    · exact off sl (by simp) sm nsm'
    · intro m hm
      simp only [List.mem_cons, List.not_mem_nil, or_false] at hm
      rcases hm with z | z | z | z | z | z | z <;> subst z
      · exact .inl rfl
      · exact .inr nx
      · exact .inr npl'
      · exact .inr nsl'
      · exact .inr (old _ (Ne.symm py) ny)
      · exact .inr (old _ (Ne.symm ppm) npm')
      · exact .inr (old _ (Ne.symm psm) nsm')
end Pa

set_option Elab.async false
set_option linter.all false
set_option maxRecDepth 100000
set_option maxHeartbeats 2000000
namespace Pa
open PySem PySem.Spec PyProof.Rows L2
variable {P : Program} {w : PySem.World} {K : PySem.W.Frag} {mg : Str → Option Value} {base : Heap} {a : Ad} {d : Fd}
/-! ### begins -/
def sp_Line_begins (K : PySem.W.Frag) (a : Ad) : Sp := fun vs H Q _ => ∃ (l : Addr) (M : List Addr) (h : Ge09.House) (n s : Nat), vs = [.ref l, .int (n : Int), .int (s : Int)] ∧ LineIn K a H l M h ∧ PaM.HouseOk h ∧ ansK K a H l M (Ge09.step h (.begins n s)) Q
theorem ok_Line_begins (T : Txt K mg a d) : FnOk P w K mg base CX0 4 a.f_Line_begins d.f_Line_begins ["self", "players", "seed"] (sp_Line_begins K a) := by
  refine T.F_Line_begins.ok sc_Line_begins (fun vs H Q E h => ?_) (fun cdv A outer s H vs Q E hr h => ⟨_, (pss_cons (ps_if (PW.pt (pw_or (pt_cmpR op_lt (pv 1) pe_int (nomark _)) (pw_or1 (pt_cmpR op_gt (pv 1) (pe_k T.k_MOST_PLAYERS) (nomark _))))) (pss_one (ps_ret (pe_lst (pa_cons (pe_k T.k_NOT_ALLOWED) pa_nil)))) pss_nil)
    (pss_cons (ps_fld (pv 0) (pe_make T.mk_Recording (ok_Recording_init T) (hr.mono (by decide)) (by rfl) T.g_Recording T.b_Recording_init .nil pass0 (pa_cons (pv 1) (pa_cons (pv 2) pa_nil))) rfl)
    (pss_one (ps_ret (pe_call (ok_world_numbers T) (hr.mono (by decide)) (by rfl) T.g_world_numbers T.F_world_numbers.kp T.b_world_numbers .nil pass0 (pa_cons (pe_call (ok_first_world T) (hr.mono (by decide)) (by rfl) T.g_first_world T.F_first_world.kp T.b_first_world .nil pass0 (pa_cons (pv 1) (pa_cons (pv 2) pa_nil))) pa_nil)))))), ?_⟩)
  · obtain ⟨l, M, h, n, s, rfl, _⟩ := h
    rfl
  · obtain ⟨l, M, h, n, sd, rfl, L, ok, k⟩ := h
    refine ⟨_, rfl, _, _, rfl, rfl, _, rfl, ?_⟩
    by_cases c1 : n = 0
    · refine ifT (decide_eq_true (by omega)) (iteT ?_)
      refine ⟨by show 1 ≤ sizeLine; decide, fun p np => ?_⟩
      exact ans_same k (PaM.step_begins_no (.inl c1)) L (same_upd np) np upd_same
    refine ifF (decide_eq_false (by omega)) ?_
    refine ⟨_, rfl, _, _, rfl, rfl, _, rfl, ?_⟩
    by_cases c4 : 4 < n
    · refine ifT (decide_eq_true (by omega)) ?_
      refine ⟨by show 1 ≤ sizeLine; decide, fun p np => ?_⟩
      exact ans_same k (PaM.step_begins_no (.inr c4)) L (same_upd np) np upd_same
    refine ifF (decide_eq_false (by omega)) ?_
    obtain ⟨g, pl, sl, o, pm, sm, rfl, L⟩ := L
    obtain ⟨dx, hl⟩ := L.obj
    refine ⟨_, rfl, _, rfl, ?_⟩
    intro x dx1 nx nd ne1
    refine ⟨x, dx1, _, _, rfl, upd_same, fun H1 pl1 sl1 hx hpl1 hsl1 ne2 npl nsl st => ⟨rfl, ?_⟩⟩
    have s1 := same_made nx nd st
    obtain ⟨npl', plx, _⟩ := free_of npl
    obtain ⟨nsl', slx, _⟩ := free_of nsl
    refine ⟨_, rfl, l, _, dx, _, rfl, s1 _ _ hl, T.cl_Line, T.na_Line_going, by show 2 < 1000; decide, ?_⟩
    rw [li_put_going]
    have lx : l ≠ x := ne_of_none hl nx
    have lpl : l ≠ pl1 := ne_of_none hl npl'
    have lsl : l ≠ sl1 := ne_of_none hl nsl'
    have st2 : Stay [l] H1 (upd H1 l (.ins a.c_Line dx (liF x o))) := stay_upd
    have f2 : Fix H1 (upd H1 l (.ins a.c_Line dx (liF x o))) := st2.fix fun m hm o e => by
      rw [List.mem_singleton.mp hm, s1 _ _ hl] at e
      cases e
      exact not_line
    have hl2 : upd H1 l (.ins a.c_Line dx (liF x o)) l = some (.ins a.c_Line dx (liF x o)) := upd_same
    have hx2 := (upd_ne (o := .ins a.c_Line dx (liF x o)) (Ne.symm lx)).trans hx
    have hpl2 := (upd_ne (o := .ins a.c_Line dx (liF x o)) (Ne.symm lpl)).trans hpl1
    have hsl2 := (upd_ne (o := .ins a.c_Line dx (liF x o)) (Ne.symm lsl)).trans hsl1
    generalize upd H1 l (.ins a.c_Line dx (liF x o)) = H2 at st2 f2 hl2 hx2 hpl2 hsl2
    have R2 : RecAt K a H2 o pm sm h.other := by
      refine (L.r2.same s1).stays st2 f2 ?_ ?_ ?_
      · exact fun z => line_rec_ne L.r2 hl (List.mem_singleton.mp z).symm
      · exact fun z => (L.r2.inst_ne hl).1 (List.mem_singleton.mp z).symm
      · exact fun z => (L.r2.inst_ne hl).2 (List.mem_singleton.mp z).symm
    have off : ∀ m ∈ [o, pm, sm], ∀ b, H b = none → b ≠ m := fun m hm b e => by
      obtain ⟨z, hz, _⟩ := L.r2.there m hm
      exact (ne_of_none hz e).symm
    have L2 : LineAt K a H2 l x pl1 sl1 o pm sm { h with tape := ⟨n, sd, [], []⟩ } :=
      ⟨⟨dx, hl2⟩, rec_new (H := H) (n := n) (s := sd) hx2 hpl2 hsl2 ne2, R2, off o (by simp) x nx, off pm (by simp) pl1 npl', off sm (by simp) pl1 npl', off pm (by simp) sl1 nsl', off sm (by simp) sl1 nsl'⟩
    refine ⟨_, rfl, _, rfl, n, sd, rfl, by omega, by omega, fun H3 q s3 W3 => ?_⟩
    refine ⟨q, _, rfl, W3, ?_, fun H4 p s4 np hp => ?_⟩
    · have := (PaM.start_ok (n := n) (s := sd) (by omega)).len
      omega
    have s34 := s3.trans s4
    have fr : H p = none := by
      cases e : H p with
      | none => rfl
      | some y =>
        by_cases z : p = l
        · rw [z] at np
          rw [s3 _ _ hl2] at np
          cases np
        · have := s3 _ _ (st2 _ _ (s1 _ _ e) fun q => z (List.mem_singleton.mp q))
          rw [this] at np
          cases np
    rw [PaM.step_begins (by omega)] at k
    refine k H4 p _ ((LineAt.mem L2).same s34) ?_ ?_ fr ?_
    · exact (Same.stay s1).trans ((st2.more fun m hm => by rw [List.mem_singleton.mp hm]; simp).trans (Same.stay s34))
    · intro m hm
      simp only [List.mem_cons, List.not_mem_nil, or_false] at hm
      rcases hm with z | z | z | z | z | z | z <;> subst z
      · exact .inl (by simp)
      · exact .inr nx
      · exact .inr npl'
      · exact .inr nsl'
      · exact .inl (by simp)
      · exact .inl (by simp)
      · exact .inl (by simp)
    · rw [hp, ints_keyV]
/-! ### hold, press -/
def sp_Line_hold (K : PySem.W.Frag) (a : Ad) : Sp := fun vs H Q _ => ∃ (l p : Addr) (M : List Addr) (h : Ge09.House) (m : Nat) (ks : List Nat), vs = [.ref l, .int (m : Int), .ref p] ∧ LineIn K a H l M h ∧ PaM.HouseOk h ∧ H p = some (.lst (keyV ks)) ∧ p ∉ M ∧ ks.length ≤ 1000 ∧ ansK K a H l M (Ge09.step h (.hold m ks)) Q
theorem ok_Line_hold (T : Txt K mg a d) : FnOk P w K mg base CX0 8 a.f_Line_hold d.f_Line_hold ["self", "ticks", "pressed"] (sp_Line_hold K a) := by
  refine T.F_Line_hold.ok sc_Line_hold (fun vs H Q E h => ?_) (fun cdv A outer s H vs Q E hr h => ⟨_, (pss_cons (ps_if (PW.pt (pw_or (pt_cmpR op_eq (pv 1) pe_int (nomark _)) (pw_or1 (pt_not (pt_val (pe_call (ok_are_keys_of T) (hr.mono (by decide)) (by rfl) T.g_are_keys_of T.F_are_keys_of.kp T.b_are_keys_of .nil pass0 (pa_cons (pv 2) (pa_cons (pe_fld (pe_fld (pv 0) rfl) rfl) pa_nil)))))))) (pss_one (ps_ret (pe_lst (pa_cons (pe_k T.k_NOT_ALLOWED) pa_nil)))) pss_nil)
    (pss_cons (ps_if (pt_cmpR op_gt (pe_op op_add (pe_meth0 (pe_fld (pv 0) rfl) T.cl_Recording T.m_Recording_ticks (ok_Recording_ticks T) (hr.mono (by decide)) T.b_Recording_ticks .nil pass0) (pv 1)) (pe_k T.k_MOST_TICKS) (nomark _)) (pss_one (ps_ret (pe_lst (pa_cons (pe_k T.k_TOO_MANY_TICKS) pa_nil)))) pss_nil)
    (pss_cons (ps_set (i := 3) sc_Line_hold.nd rfl (Or.inl rfl) (pe_meth (pe_fld (pv 0) rfl) T.cl_Recording T.m_Recording_record (ok_Recording_record T) (hr.mono (by decide)) T.b_Recording_record .nil pass0 (pa_cons (pv 1) (pa_cons (pv 2) pa_nil))))
    (pss_one (ps_ret (pe_op op_cat (pe_lst (pa_cons (pe_meth0 (pe_fld (pv 0) rfl) T.cl_Recording T.m_Recording_ticks (ok_Recording_ticks T) (hr.mono (by decide)) T.b_Recording_ticks .nil pass0) pa_nil)) (pe_call (ok_world_numbers T) (hr.mono (by decide)) (by rfl) T.g_world_numbers T.F_world_numbers.kp T.b_world_numbers .nil pass0 (pa_cons (pv 3) pa_nil)))))))), ?_⟩)
  · obtain ⟨l, p, M, h, m, ks, rfl, _⟩ := h
    rfl
  · obtain ⟨l, p, M, h, m, ks, rfl, L, ok, hp, nM, h1000, k⟩ := h
    refine ⟨_, rfl, rfl, _, rfl, ?_⟩
    by_cases c0 : m = 0
    · refine ifT (decide_eq_true (by rw [c0]; rfl)) (iteT ?_)
      refine ⟨by show 1 ≤ sizeLine; decide, fun r nr => ?_⟩
      exact ans_same k (PaM.step_hold_no (.inl c0)) L (same_upd nr) nr upd_same
    refine ifF (decide_eq_false fun z => c0 (by have := V.int.inj z; omega)) ?_
    obtain ⟨g, pl, sl, o, pm, sm, rfl, L⟩ := L
    obtain ⟨dx, hl⟩ := L.obj
    obtain ⟨dg, hg⟩ := L.r1.obj
    refine ⟨_, rfl, _, rfl, l, _, dx, _, _, rfl, hl, T.cl_Line, T.na_Line_going, li_going, g, _, dg, _, _, rfl, hg, T.cl_Recording, T.na_Recording_how_many, re_how, p, ks, h.tape.n, rfl, SqL.of hp, h1000, fun H1 s1 => ⟨_, rfl, ?_⟩⟩
    have ek : (ks.length == h.tape.n && ks.all fun x => decide (x ≤ 4)) = Ge09.keysOk h.tape ks := rfl
    rw [ek]
    cases c : Ge09.keysOk h.tape ks with
    | false =>
      refine iteT ?_
      refine ⟨by show 1 ≤ sizeLine; decide, fun r nr => ?_⟩
      exact ans_same k (PaM.step_hold_no (.inr c)) (LineAt.mem L) (s1.trans (same_upd nr)) (s1.free nr) upd_same
    | true =>
      refine iteF ?_
      have L1 : LineAt K a H1 l g pl sl o pm sm h := ⟨⟨dx, s1 _ _ hl⟩, L.r1.same s1, L.r2.same s1, L.d1, L.d2, L.d3, L.d4, L.d5⟩
      refine ⟨_, rfl, l, _, dx, _, _, rfl, s1 _ _ hl, T.cl_Line, T.na_Line_going, li_going, g, dg, _, rfl, s1 _ _ hg, re_none (by decide +kernel) (by decide +kernel) (by decide +kernel) (by decide +kernel), g, pl, sl, h.tape, rfl, L1.r1, ?_⟩
      refine ⟨_, rfl, _, _, rfl, rfl, _, _, rfl, rfl, _, rfl, ?_⟩
      by_cases c2 : 120 < h.tape.keys.length + m
      · refine ifT (decide_eq_true (by omega)) ?_
        refine ⟨by show 1 ≤ sizeLine; decide, fun r nr => ?_⟩
        exact ans_same k (PaM.step_hold_many c0 c c2) (LineAt.mem L) (s1.trans (same_upd nr)) (s1.free nr) upd_same
      refine ifF (decide_eq_false (by omega)) ?_
      have kok := (PaM.keysOk_iff _ _).mp c
      have np1 : p ≠ pl := fun z => nM (by rw [z]; simp)
      have np2 : p ≠ sl := fun z => nM (by rw [z]; simp)
      refine ⟨_, rfl, l, _, dx, _, _, rfl, s1 _ _ hl, T.cl_Line, T.na_Line_going, li_going, g, dg, _, rfl, s1 _ _ hg, re_none (by decide +kernel) (by decide +kernel) (by decide +kernel) (by decide +kernel), _, rfl, _, rfl, g, pl, sl, p, h.tape, m, ks, rfl, L1.r1, ok.t, kok, by omega, s1 _ _ hp, np1, np2, fun H2 r R2 W2 st2 => ?_⟩
      have f2 : Fix H1 H2 := (LineAt.mem L1).fix st2 fun z hz => by
        simp only [List.mem_cons, List.not_mem_nil, or_false] at hz ⊢
        rcases hz with hz | hz <;> simp [hz]
      have lne := L1.r1.inst_ne (s1 _ _ hl)
      obtain ⟨d_o, ho⟩ := L1.r2.obj
      have one := L1.r1.inst_ne ho
      have hl2 : H2 l = _ := st2 _ _ (s1 _ _ hl) fun z => by
        simp only [List.mem_cons, List.not_mem_nil, or_false] at z
        rcases z with z | z
        · exact lne.1 z
        · exact lne.2 z
      have R2o : RecAt K a H2 o pm sm h.other := by
        refine L1.r2.stays st2 f2 ?_ ?_ ?_ <;> (intro z; simp only [List.mem_cons, List.not_mem_nil, or_false] at z)
        · rcases z with z | z
          · exact one.1 z
          · exact one.2 z
        · rcases z with z | z
          · exact L.d2 z.symm
          · exact L.d4 z.symm
        · rcases z with z | z
          · exact L.d3 z.symm
          · exact L.d5 z.symm
      have L2 : LineAt K a H2 l g pl sl o pm sm { h with tape := PaM.recN ks m h.tape } := ⟨⟨dx, hl2⟩, R2, R2o, L.d1, L.d2, L.d3, L.d4, L.d5⟩
      obtain ⟨dg2, hg2⟩ := R2.obj
      refine ⟨_, rfl, l, _, dx, _, _, rfl, hl2, T.cl_Line, T.na_Line_going, li_going, g, dg2, _, rfl, hg2, re_none (by decide +kernel) (by decide +kernel) (by decide +kernel) (by decide +kernel), g, pl, sl, _, rfl, R2, ?_⟩
      refine ⟨by show 1 ≤ sizeLine; decide, fun p3 n3 => ?_⟩
      have s3 := same_upd (o := .lst [.int ((PaM.recN ks m h.tape).keys.length : Nat)]) n3
      have ok' := PaM.recN_ok ok.t kok m (by omega)
      have wl := (PaM.play_ok ok' (PaM.recN ks m h.tape).keys.length).len
      have n4 := ok'.n4
      refine ⟨_, rfl, r, _, rfl, W2.fix (Same.fix s3), by omega, fun H4 p4 s4 np4 hp4 => ?_⟩
      refine ⟨p3, p4, _, _, rfl, rfl, s4 _ _ upd_same, hp4, small ?_, fun p5 n5 => ?_⟩
      · have := flat_len (Ge09.playTo (PaM.recN ks m h.tape) (PaM.recN ks m h.tape).keys.length).players
        show 1 + (keyV (Ge09.worldRow _)).length ≤ 16777216
        rw [List.length_map]
        show 1 + (((Ge09.playTo (PaM.recN ks m h.tape) (PaM.recN ks m h.tape).keys.length).players.flatMap three) ++ [_, _]).length ≤ 16777216
        rw [List.length_append, this]
        simp only [List.length_cons, List.length_nil]
        omega
      have s5 := same_upd (o := .lst ([V.int ((PaM.recN ks m h.tape).keys.length : Nat)] ++ rowV (Ge09.playTo (PaM.recN ks m h.tape) (PaM.recN ks m h.tape).keys.length))) n5
      have all := s3.trans (s4.trans s5)
      rw [PaM.step_hold ok.t c0 c (by omega)] at k
      refine k _ p5 _ ((LineAt.mem L2).same all) ((Same.stay s1).trans ((st2.more fun z hz => ?_).trans (Same.stay all))) (fun z hz => .inl hz) ?_ ?_
      · simp only [List.mem_cons, List.not_mem_nil, or_false] at hz ⊢
        rcases hz with hz | hz <;> simp [hz]
      · have n5' := (s3.trans s4).free n5
        cases e : H p5 with
        | none => rfl
        | some y =>
          exfalso
          obtain ⟨ps, hpl2, _⟩ := R2.prs
          obtain ⟨ss, hsl2, _⟩ := R2.sts
          have z1 : p5 ≠ pl := (ne_of_none hpl2 n5').symm
          have z2 : p5 ≠ sl := (ne_of_none hsl2 n5').symm
          have := st2 _ _ (s1 _ _ e) fun q => by
            simp only [List.mem_cons, List.not_mem_nil, or_false] at q
            rcases q with q | q
            · exact z1 q
            · exact z2 q
          rw [this] at n5'
          cases n5'
      · rw [upd_same, ints_keyV]
        rfl
def sp_Line_press (K : PySem.W.Frag) (a : Ad) : Sp := fun vs H Q _ => ∃ (l p : Addr) (M : List Addr) (h : Ge09.House) (ks : List Nat), vs = [.ref l, .ref p] ∧ LineIn K a H l M h ∧ PaM.HouseOk h ∧ H p = some (.lst (keyV ks)) ∧ p ∉ M ∧ ks.length ≤ 1000 ∧ ansK K a H l M (Ge09.step h (.press ks)) Q
theorem ok_Line_press (T : Txt K mg a d) : FnOk P w K mg base CX0 9 a.f_Line_press d.f_Line_press ["self", "pressed"] (sp_Line_press K a) := by
  refine T.F_Line_press.ok sc_Line_press (fun vs H Q E h => ?_) (fun cdv A outer s H vs Q E hr h => ⟨_, (pss_one (ps_ret (pe_meth (pv 0) T.cl_Line T.m_Line_hold (ok_Line_hold T) (hr.mono (by decide)) T.b_Line_hold .nil pass0 (pa_cons pe_int (pa_cons (pv 1) pa_nil))))), ?_⟩)
  · obtain ⟨l, p, M, h, ks, rfl, _⟩ := h
    rfl
  · obtain ⟨l, p, M, h, ks, rfl, L, ok, hp, nM, h1000, k⟩ := h
    obtain ⟨g, pl, sl, o, pm, sm, rfl, L⟩ := L
    obtain ⟨dx, hl⟩ := L.obj
    refine ⟨_, rfl, l, dx, _, rfl, hl, li_none (by decide +kernel) (by decide +kernel), _, rfl, l, p, _, h, 1, ks, rfl, LineAt.mem L, ok, hp, nM, h1000, ?_⟩
    rw [← PaM.press_hold]
    exact k
end Pa

set_option Elab.async false
set_option linter.all false
set_option maxRecDepth 100000
set_option maxHeartbeats 2000000
namespace Pa
open PySem PySem.Spec PyProof.Rows L2
variable {P : Program} {w : PySem.World} {K : PySem.W.Frag} {mg : Str → Option Value} {base : Heap} {a : Ad} {d : Fd}
theorem one_ints (x : Int) (l : List Nat) : ([V.int x] ++ keyV l) = (x :: Ge09.ints l).map V.int := by
  rw [List.map_cons, ints_keyV]
  rfl
/-! ### seek -/
def sp_Line_seek (K : PySem.W.Frag) (a : Ad) : Sp := fun vs H Q _ => ∃ (l : Addr) (M : List Addr) (h : Ge09.House) (k : Nat), vs = [.ref l, .int (k : Int)] ∧ LineIn K a H l M h ∧ PaM.HouseOk h ∧ ansK K a H l M (Ge09.step h (.seek k)) Q
theorem ok_Line_seek (T : Txt K mg a d) : FnOk P w K mg base CX0 6 a.f_Line_seek d.f_Line_seek ["self", "tick"] (sp_Line_seek K a) := by
  refine T.F_Line_seek.ok sc_Line_seek (fun vs H Q E h => ?_) (fun cdv A outer s H vs Q E hr h => ⟨_, (pss_cons (ps_if (pt_cmpR op_gt (pv 1) (pe_meth0 (pe_fld (pv 0) rfl) T.cl_Recording T.m_Recording_ticks (ok_Recording_ticks T) (hr.mono (by decide)) T.b_Recording_ticks .nil pass0) (nomark _)) (pss_one (ps_ret (pe_lst (pa_cons (pe_k T.k_NO_SUCH_TICK) pa_nil)))) pss_nil)
    (pss_cons (ps_set (i := 2) sc_Line_seek.nd rfl (Or.inl rfl) (pe_meth (pe_fld (pv 0) rfl) T.cl_Recording T.m_Recording_state_ahead (ok_Recording_state_ahead T) (hr.mono (by decide)) T.b_Recording_state_ahead .nil pass0 (pa_cons (pv 1) pa_nil)))
    (pss_one (ps_ret (pe_op op_cat (pe_lst (pa_cons (pe_op op_sub (pv 1) (pe_fld (pv 2) rfl)) pa_nil)) (pe_call (ok_world_numbers T) (hr.mono (by decide)) (by rfl) T.g_world_numbers T.F_world_numbers.kp T.b_world_numbers .nil pass0 (pa_cons (pe_meth (pe_fld (pv 0) rfl) T.cl_Recording T.m_Recording_world_from (ok_Recording_world_from T) (hr.mono (by decide)) T.b_Recording_world_from .nil pass0 (pa_cons (pv 2) (pa_cons (pv 1) pa_nil))) pa_nil))))))), ?_⟩)
  · obtain ⟨l, M, h, k, rfl, _⟩ := h
    rfl
  · obtain ⟨l, M, h, t, rfl, L0, ok, k⟩ := h
    obtain ⟨g, pl, sl, o, pm, sm, rfl, L⟩ := id L0
    obtain ⟨dx, hl⟩ := L.obj
    obtain ⟨dg, hg⟩ := L.r1.obj
    refine ⟨_, rfl, _, rfl, l, _, dx, _, _, rfl, hl, T.cl_Line, T.na_Line_going, li_going, g, dg, _, rfl, hg, re_none (by decide +kernel) (by decide +kernel) (by decide +kernel) (by decide +kernel), g, pl, sl, h.tape, rfl, L.r1, ?_⟩
    refine ⟨_, _, rfl, rfl, _, rfl, ?_⟩
    by_cases c : h.tape.keys.length < t
    · refine ifT (decide_eq_true (by omega)) ?_
      refine ⟨by show 1 ≤ sizeLine; decide, fun r nr => ?_⟩
      exact ans_same k (PaM.step_seek_no c) L0 (same_upd nr) nr upd_same
    refine ifF (decide_eq_false (by omega)) ?_
    have q := PaM.ahead_ok ok.t t
    refine ⟨_, rfl, l, _, dx, _, _, rfl, hl, T.cl_Line, T.na_Line_going, li_going, g, dg, _, rfl, hg, re_none (by decide +kernel) (by decide +kernel) (by decide +kernel) (by decide +kernel), _, rfl, g, pl, sl, h.tape, t, rfl, L.r1, ok.t.n1, ok.t.n4, fun H1 r1 s1 S1 => ?_⟩
    obtain ⟨ds, qs, hs, _⟩ := id S1
    refine ⟨_, rfl, _, rfl, r1, _, ds, _, _, rfl, hs, T.cl_State, T.na_State_tick, st_tick, _, _, rfl, rfl, by show 1 ≤ sizeLine; decide, fun p2 n2 => ?_⟩
    have s2 := same_upd (o := .lst [.int ((t : Int) - ((PaM.ahead h.tape.kept t (0, Ge09.start h.tape.n h.tape.seed)).1 : Int))]) n2
    have s12 := s1.trans s2
    refine ⟨_, rfl, l, _, dx, _, _, rfl, s12 _ _ hl, T.cl_Line, T.na_Line_going, li_going, g, dg, _, rfl, s12 _ _ hg, re_none (by decide +kernel) (by decide +kernel) (by decide +kernel) (by decide +kernel), _, rfl, _, rfl, g, pl, sl, r1, h.tape, t, _, rfl, L.r1.same s12, ok.t, S1.fix (Same.fix s2), q.2.2, q.1, by omega, fun H3 r3 s3 W3 => ?_⟩
    have wl := (PaM.play_ok ok.t t).len
    have n4 := ok.t.n4
    refine ⟨r3, _, rfl, W3, by omega, fun H4 p4 s4 np4 hp4 => ?_⟩
    have := row_small (w := Ge09.playTo h.tape t) (by omega)
    refine ⟨p2, p4, _, _, rfl, rfl, (s3.trans s4) _ _ upd_same, hp4, small (by show 1 + (rowV (Ge09.playTo h.tape t)).length ≤ 16777216; omega), fun p5 n5 => ?_⟩
    have all := s12.trans (s3.trans s4)
    refine ans_same k (PaM.step_seek ok.t (by omega)) L0 (all.trans (same_upd n5)) (all.free n5) ?_
    rw [upd_same]
    have e : (t : Int) - ((PaM.ahead h.tape.kept t (0, Ge09.start h.tape.n h.tape.seed)).1 : Int) = ((t - (PaM.ahead h.tape.kept t (0, Ge09.start h.tape.n h.tape.seed)).1 : Nat) : Int) := by omega
    show some (HO.lst ([V.int ((t : Int) - ((PaM.ahead h.tape.kept t (0, Ge09.start h.tape.n h.tape.seed)).1 : Int))] ++ keyV (Ge09.worldRow (Ge09.playTo h.tape t)))) = _
    rw [e, one_ints]
    rfl
/-! ### cut -/
def sp_Line_cut (K : PySem.W.Frag) (a : Ad) : Sp := fun vs H Q _ => ∃ (l : Addr) (M : List Addr) (h : Ge09.House) (k : Nat), vs = [.ref l, .int (k : Int)] ∧ LineIn K a H l M h ∧ PaM.HouseOk h ∧ ansK K a H l M (Ge09.step h (.cut k)) Q
/-- the recording that goes on has come to be another; the other and the line stand -/
theorem LineAt.gone_on {H H' : Hp} {l g pl sl o pm sm pl' sl' : Addr} {h : Ge09.House} {t : Ge09.Tape} {N : List Addr} (L : LineAt K a H l g pl sl o pm sm h) (R : RecAt K a H' g pl' sl' t) (st : Stay N H H') (sub : ∀ m ∈ N, m ∈ [g, pl, sl])
    (n1 : pl' ∈ [pl, sl] ∨ H pl' = none) (n2 : sl' ∈ [pl, sl] ∨ H sl' = none) : LineAt K a H' l g pl' sl' o pm sm { h with tape := t } := by
  have f : Fix H H' := (LineAt.mem L).fix st fun z hz => by
    have := sub z hz
    simp only [List.mem_cons, List.not_mem_nil, or_false] at this ⊢
    rcases this with q | q | q <;> simp [q]
  obtain ⟨dx, hl⟩ := L.obj
  obtain ⟨d_o, ho⟩ := L.r2.obj
  have off : ∀ b, b ≠ g → b ≠ pl → b ≠ sl → b ∉ N := fun b x y z q => by
    have := sub b q
    simp only [List.mem_cons, List.not_mem_nil, or_false] at this
    rcases this with q | q | q
    · exact x q
    · exact y q
    · exact z q
  have lne := L.r1.inst_ne hl
  have one := L.r1.inst_ne ho
  obtain ⟨dg, hg⟩ := L.r1.obj
  have gne := L.r2.inst_ne hg
  have apart : ∀ b, b ∈ [pl, sl] ∨ H b = none → b ≠ pm ∧ b ≠ sm := fun b hb => by
    rcases hb with hb | hb
    · simp only [List.mem_cons, List.not_mem_nil, or_false] at hb
      rcases hb with z | z <;> subst z
      · exact ⟨L.d2, L.d3⟩
      · exact ⟨L.d4, L.d5⟩
    · obtain ⟨ps, hp, _⟩ := L.r2.prs
      obtain ⟨ss, hs, _⟩ := L.r2.sts
      exact ⟨(ne_of_none hp hb).symm, (ne_of_none hs hb).symm⟩
  refine ⟨⟨dx, st _ _ hl (off l (line_rec_ne L.r1 hl) lne.1 lne.2)⟩, R, L.r2.stays st f ?_ ?_ ?_, L.d1, (apart _ n1).1, (apart _ n1).2, (apart _ n2).1, (apart _ n2).2⟩
  · exact off o (Ne.symm L.d1) one.1 one.2
  · exact off pm (Ne.symm gne.1) (Ne.symm L.d2) (Ne.symm L.d4)
  · exact off sm (Ne.symm gne.2) (Ne.symm L.d3) (Ne.symm L.d5)
theorem free_back {H H' : Hp} {N : List Addr} {p : Addr} (st : Stay N H H') (th : ∀ m ∈ N, ∃ x, H' m = some x) (h : H' p = none) : H p = none := by
  cases e : H p with
  | none => rfl
  | some y =>
    by_cases z : p ∈ N
    · obtain ⟨x, hx⟩ := th p z
      rw [hx] at h
      cases h
    · rw [st _ _ e z] at h
      cases h
theorem ok_Line_cut (T : Txt K mg a d) : FnOk P w K mg base CX0 3 a.f_Line_cut d.f_Line_cut ["self", "tick"] (sp_Line_cut K a) := by
  refine T.F_Line_cut.ok sc_Line_cut (fun vs H Q E h => ?_) (fun cdv A outer s H vs Q E hr h => ⟨_, (pss_cons (ps_if (pt_cmpR op_gt (pv 1) (pe_meth0 (pe_fld (pv 0) rfl) T.cl_Recording T.m_Recording_ticks (ok_Recording_ticks T) (hr.mono (by decide)) T.b_Recording_ticks .nil pass0) (nomark _)) (pss_one (ps_ret (pe_lst (pa_cons (pe_k T.k_NO_SUCH_TICK) pa_nil)))) pss_nil)
    (pss_cons (ps_expr (pe_meth (pe_fld (pv 0) rfl) T.cl_Recording T.m_Recording_forget_behind (ok_Recording_forget_behind T) (hr.mono (by decide)) T.b_Recording_forget_behind .nil pass0 (pa_cons (pv 1) pa_nil)))
    (pss_one (ps_ret (pe_lst (pa_cons (pe_meth0 (pe_fld (pv 0) rfl) T.cl_Recording T.m_Recording_ticks (ok_Recording_ticks T) (hr.mono (by decide)) T.b_Recording_ticks .nil pass0) (pa_cons (pe_callB call_len_seq (by rfl) T.n_len PySem.boot_len (pa_cons (pe_fld (pe_fld (pv 0) rfl) rfl) pa_nil)) pa_nil))))))), ?_⟩)
  · obtain ⟨l, M, h, k, rfl, _⟩ := h
    rfl
  · obtain ⟨l, M, h, t, rfl, L0, ok, k⟩ := h
    obtain ⟨g, pl, sl, o, pm, sm, rfl, L⟩ := id L0
    obtain ⟨dx, hl⟩ := L.obj
    obtain ⟨dg, hg⟩ := L.r1.obj
    refine ⟨_, rfl, _, rfl, l, _, dx, _, _, rfl, hl, T.cl_Line, T.na_Line_going, li_going, g, dg, _, rfl, hg, re_none (by decide +kernel) (by decide +kernel) (by decide +kernel) (by decide +kernel), g, pl, sl, h.tape, rfl, L.r1, ?_⟩
    refine ⟨_, _, rfl, rfl, _, rfl, ?_⟩
    by_cases c : h.tape.keys.length < t
    · refine ifT (decide_eq_true (by omega)) ?_
      refine ⟨by show 1 ≤ sizeLine; decide, fun r nr => ?_⟩
      exact ans_same k (PaM.step_cut_no c) L0 (same_upd nr) nr upd_same
    refine ifF (decide_eq_false (by omega)) ?_
    refine ⟨_, rfl, l, _, dx, _, _, rfl, hl, T.cl_Line, T.na_Line_going, li_going, g, dg, _, rfl, hg, re_none (by decide +kernel) (by decide +kernel) (by decide +kernel) (by decide +kernel), _, rfl, g, pl, sl, h.tape, t, rfl, L.r1, ok.t.most, by omega, fun H1 pl1 sl1 R1 st1 npl nsl => ?_⟩
    have L1 := L.gone_on R1 st1 (fun m hm => by rw [List.mem_singleton.mp hm]; simp) (.inr npl) (.inr nsl)
    obtain ⟨dx1, hl1⟩ := L1.obj
    obtain ⟨dg1, hg1⟩ := L1.r1.obj
    obtain ⟨ss, hss, ess⟩ := L1.r1.sts
    refine ⟨_, rfl, l, _, dx1, _, _, rfl, hl1, T.cl_Line, T.na_Line_going, li_going, g, dg1, _, rfl, hg1, re_none (by decide +kernel) (by decide +kernel) (by decide +kernel) (by decide +kernel), g, pl1, sl1, _, rfl, R1, ?_⟩
    refine ⟨_, rfl, l, _, dx1, _, _, rfl, hl1, T.cl_Line, T.na_Line_going, li_going, g, _, dg1, _, _, rfl, hg1, T.cl_Recording, T.na_Recording_states, re_sts, sl1, _, rfl, .inl (SqL.of hss), by show 2 ≤ sizeLine; decide, fun p np => ?_⟩
    rw [PaM.step_cut (by omega)] at k
    refine k _ p _ ((LineAt.mem L1).same (same_upd np)) ((st1.more fun m hm => by rw [List.mem_singleton.mp hm]; simp).trans (Same.stay (same_upd np))) (fun m hm => ?_) (free_back st1 (fun m hm => by rw [List.mem_singleton.mp hm]; exact ⟨_, hg1⟩) np) ?_
    · simp only [List.mem_cons, List.not_mem_nil, or_false] at hm
      rcases hm with z | z | z | z | z | z | z <;> subst z
      · exact .inl (by simp)
      · exact .inl (by simp)
      · exact .inr npl
      · exact .inr nsl
      · exact .inl (by simp)
      · exact .inl (by simp)
      · exact .inl (by simp)
    · rw [upd_same, ints_keyV, List.length_map, ess.len]
      rfl
/-! ### putBy -/
def sp_Line_put_by (K : PySem.W.Frag) (a : Ad) : Sp := fun vs H Q _ => ∃ (l : Addr) (M : List Addr) (h : Ge09.House), vs = [.ref l] ∧ LineIn K a H l M h ∧ PaM.HouseOk h ∧ ansK K a H l M (Ge09.step h .putBy) Q
theorem ok_Line_put_by (T : Txt K mg a d) : FnOk P w K mg base CX0 4 a.f_Line_put_by d.f_Line_put_by ["self"] (sp_Line_put_by K a) := by
  refine T.F_Line_put_by.ok sc_Line_put_by (fun vs H Q E h => ?_) (fun cdv A outer s H vs Q E hr h => ⟨_, (pss_cons (ps_fld (pv 0) (pe_meth0 (pe_fld (pv 0) rfl) T.cl_Recording T.m_Recording_twin (ok_Recording_twin T) (hr.mono (by decide)) T.b_Recording_twin .nil pass0) rfl)
    (pss_one (ps_ret (pe_lst (pa_cons (pe_meth0 (pe_fld (pv 0) rfl) T.cl_Recording T.m_Recording_ticks (ok_Recording_ticks T) (hr.mono (by decide)) T.b_Recording_ticks .nil pass0) pa_nil))))), ?_⟩)
  · obtain ⟨l, M, h, rfl, _⟩ := h
    rfl
  · obtain ⟨l, M, h, rfl, L0, ok, k⟩ := h
    obtain ⟨g, pl, sl, o, pm, sm, rfl, L⟩ := id L0
    obtain ⟨dx, hl⟩ := L.obj
    obtain ⟨dg, hg⟩ := L.r1.obj
    refine ⟨_, rfl, l, _, dx, _, _, rfl, hl, T.cl_Line, T.na_Line_going, li_going, g, dg, _, rfl, hg, re_none (by decide +kernel) (by decide +kernel) (by decide +kernel) (by decide +kernel), g, pl, sl, h.tape, rfl, L.r1, fun H1 x pl1 sl1 s1 R1 nx npl nsl => ?_⟩
    refine ⟨_, rfl, l, _, dx, _, rfl, s1 _ _ hl, T.cl_Line, T.na_Line_aside, by show 2 < 1000; decide, ?_⟩
    rw [li_put_aside]
    have st2 : Stay [l] H1 (upd H1 l (.ins a.c_Line dx (liF g x))) := stay_upd
    have f2 : Fix H1 (upd H1 l (.ins a.c_Line dx (liF g x))) := st2.fix fun m hm o e => by
      rw [List.mem_singleton.mp hm, s1 _ _ hl] at e
      cases e
      exact not_line
    have hl2 : upd H1 l (.ins a.c_Line dx (liF g x)) l = some (.ins a.c_Line dx (liF g x)) := upd_same
    generalize upd H1 l (.ins a.c_Line dx (liF g x)) = H2 at st2 f2 hl2
    have hl1 := s1 _ _ hl
    have lone : ∀ b, l ≠ b → b ∉ [l] := fun b n z => n (List.mem_singleton.mp z).symm
    have r1 := (L.r1.same s1).stays st2 f2 (lone _ (line_rec_ne L.r1 hl)) (lone _ (L.r1.inst_ne hl).1) (lone _ (L.r1.inst_ne hl).2)
    have r2 := R1.stays st2 f2 (lone _ (line_rec_ne R1 hl1)) (lone _ (R1.inst_ne hl1).1) (lone _ (R1.inst_ne hl1).2)
    have off : ∀ m ∈ [g, pl, sl], ∀ b, H b = none → m ≠ b := fun m hm b e => by
      obtain ⟨z, hz, _⟩ := L.r1.there m hm
      exact ne_of_none hz e
    have L2 : LineAt K a H2 l g pl sl x pl1 sl1 { h with other := h.tape } := ⟨⟨dx, hl2⟩, r1, r2, off g (by simp) x nx, off pl (by simp) pl1 npl, off pl (by simp) sl1 nsl, off sl (by simp) pl1 npl, off sl (by simp) sl1 nsl⟩
    obtain ⟨dx2, hx2⟩ := r2.obj
    refine ⟨_, rfl, l, _, dx, _, _, rfl, hl2, T.cl_Line, T.na_Line_aside, li_aside, x, dx2, _, rfl, hx2, re_none (by decide +kernel) (by decide +kernel) (by decide +kernel) (by decide +kernel), x, pl1, sl1, _, rfl, r2, by show 1 ≤ sizeLine; decide, fun p np => ?_⟩
    rw [PaM.step_putBy] at k
    refine k _ p _ ((LineAt.mem L2).same (same_upd np)) ((Same.stay s1).trans ((st2.more fun m hm => by rw [List.mem_singleton.mp hm]; simp).trans (Same.stay (same_upd np)))) (fun m hm => ?_) (s1.free (free_back st2 (fun m hm => by rw [List.mem_singleton.mp hm]; exact ⟨_, hl2⟩) np)) ?_
    · simp only [List.mem_cons, List.not_mem_nil, or_false] at hm
      rcases hm with z | z | z | z | z | z | z <;> subst z
      · exact .inl (by simp)
      · exact .inl (by simp)
      · exact .inl (by simp)
      · exact .inl (by simp)
      · exact .inr nx
      · exact .inr npl
      · exact .inr nsl
    · rw [upd_same, ints_keyV]
      rfl
end Pa

set_option Elab.async false
set_option linter.all false
set_option maxRecDepth 100000
set_option maxHeartbeats 2000000
namespace Pa
open PySem PySem.Spec PyProof.Rows L2
variable {P : Program} {w : PySem.World} {K : PySem.W.Frag} {mg : Str → Option Value} {base : Heap} {a : Ad} {d : Fd}
/-! ### swap -/
def sp_Line_swap (K : PySem.W.Frag) (a : Ad) : Sp := fun vs H Q _ => ∃ (l : Addr) (M : List Addr) (h : Ge09.House), vs = [.ref l] ∧ LineIn K a H l M h ∧ PaM.HouseOk h ∧ ansK K a H l M (Ge09.step h .swap) Q
theorem ok_Line_swap (T : Txt K mg a d) : FnOk P w K mg base CX0 2 a.f_Line_swap d.f_Line_swap ["self"] (sp_Line_swap K a) := by
  refine T.F_Line_swap.ok sc_Line_swap (fun vs H Q E h => ?_) (fun cdv A outer s H vs Q E hr h => ⟨_, (pss_cons (ps_set (i := 1) sc_Line_swap.nd rfl (Or.inl rfl) (pe_fld (pv 0) rfl))
    (pss_cons (ps_fld (pv 0) (pe_fld (pv 0) rfl) rfl)
    (pss_cons (ps_fld (pv 0) (pv 1) rfl)
    (pss_one (ps_ret (pe_lst (pa_cons (pe_meth0 (pe_fld (pv 0) rfl) T.cl_Recording T.m_Recording_ticks (ok_Recording_ticks T) (hr.mono (by decide)) T.b_Recording_ticks .nil pass0) (pa_cons (pe_meth0 (pe_fld (pv 0) rfl) T.cl_Recording T.m_Recording_ticks (ok_Recording_ticks T) (hr.mono (by decide)) T.b_Recording_ticks .nil pass0) pa_nil)))))))), ?_⟩)
  · obtain ⟨l, M, h, rfl, _⟩ := h
    rfl
  · obtain ⟨l, M, h, rfl, L0, ok, k⟩ := h
    obtain ⟨g, pl, sl, o, pm, sm, rfl, L⟩ := id L0
    obtain ⟨dx, hl⟩ := L.obj
    -- other = self.going
    refine ⟨_, rfl, l, _, dx, _, _, rfl, hl, T.cl_Line, T.na_Line_going, li_going, ?_⟩
    -- self.going = self.aside
    refine ⟨_, rfl, l, _, dx, _, _, rfl, hl, T.cl_Line, T.na_Line_aside, li_aside, _, rfl, l, _, dx, _, rfl, hl, T.cl_Line, T.na_Line_going, by show 2 < 1000; decide, ?_⟩
    rw [li_put_going]
    -- self.aside = other
    refine ⟨_, rfl, _, rfl, l, _, dx, _, rfl, upd_same, T.cl_Line, T.na_Line_aside, by show 2 < 1000; decide, ?_⟩
    rw [li_put_aside, upd_upd]
    have st2 : Stay [l] H (upd H l (.ins a.c_Line dx (liF o g))) := stay_upd
    have f2 : Fix H (upd H l (.ins a.c_Line dx (liF o g))) := st2.fix fun m hm x e => by
      rw [List.mem_singleton.mp hm, hl] at e
      cases e
      exact not_line
    have hl2 : upd H l (.ins a.c_Line dx (liF o g)) l = some (.ins a.c_Line dx (liF o g)) := upd_same
    generalize upd H l (.ins a.c_Line dx (liF o g)) = H2 at st2 f2 hl2
    have lone : ∀ b, l ≠ b → b ∉ [l] := fun b n z => n (List.mem_singleton.mp z).symm
    have r1 := L.r1.stays st2 f2 (lone _ (line_rec_ne L.r1 hl)) (lone _ (L.r1.inst_ne hl).1) (lone _ (L.r1.inst_ne hl).2)
    have r2 := L.r2.stays st2 f2 (lone _ (line_rec_ne L.r2 hl)) (lone _ (L.r2.inst_ne hl).1) (lone _ (L.r2.inst_ne hl).2)
    have L2 : LineAt K a H2 l o pm sm g pl sl ⟨h.other, h.tape⟩ := ⟨⟨dx, hl2⟩, r2, r1, Ne.symm L.d1, Ne.symm L.d2, Ne.symm L.d4, Ne.symm L.d3, Ne.symm L.d5⟩
    obtain ⟨dg, hg⟩ := r1.obj
    obtain ⟨d_o, ho⟩ := r2.obj
    refine ⟨_, rfl, l, _, dx, _, _, rfl, hl2, T.cl_Line, T.na_Line_going, li_going, o, d_o, _, rfl, ho, re_none (by decide +kernel) (by decide +kernel) (by decide +kernel) (by decide +kernel), o, pm, sm, _, rfl, r2, ?_⟩
    refine ⟨_, rfl, l, _, dx, _, _, rfl, hl2, T.cl_Line, T.na_Line_aside, li_aside, g, dg, _, rfl, hg, re_none (by decide +kernel) (by decide +kernel) (by decide +kernel) (by decide +kernel), g, pl, sl, _, rfl, r1, by show 2 ≤ sizeLine; decide, fun p np => ?_⟩
    rw [PaM.step_swap] at k
    refine k _ p _ ((LineAt.mem L2).same (same_upd np)) ((st2.more fun m hm => by rw [List.mem_singleton.mp hm]; simp).trans (Same.stay (same_upd np))) (fun m hm => .inl ?_) (free_back st2 (fun m hm => by rw [List.mem_singleton.mp hm]; exact ⟨_, hl2⟩) np) ?_
    · simp only [List.mem_cons, List.not_mem_nil, or_false] at hm ⊢
      rcases hm with z | z | z | z | z | z | z <;> simp [z]
    · rw [upd_same, ints_keyV]
      rfl
/-! ### sumAt -/
def sp_Line_sum_at (K : PySem.W.Frag) (a : Ad) : Sp := fun vs H Q _ => ∃ (l : Addr) (M : List Addr) (h : Ge09.House) (k : Nat), vs = [.ref l, .int (k : Int)] ∧ LineIn K a H l M h ∧ PaM.HouseOk h ∧ ansK K a H l M (Ge09.step h (.sumAt k)) Q
theorem ok_Line_sum_at (T : Txt K mg a d) : FnOk P w K mg base CX0 7 a.f_Line_sum_at d.f_Line_sum_at ["self", "tick"] (sp_Line_sum_at K a) := by
  refine T.F_Line_sum_at.ok sc_Line_sum_at (fun vs H Q E h => ?_) (fun cdv A outer s H vs Q E hr h => ⟨_, (pss_cons (ps_if (pt_cmpR op_gt (pv 1) (pe_meth0 (pe_fld (pv 0) rfl) T.cl_Recording T.m_Recording_ticks (ok_Recording_ticks T) (hr.mono (by decide)) T.b_Recording_ticks .nil pass0) (nomark _)) (pss_one (ps_ret (pe_lst (pa_cons (pe_k T.k_NO_SUCH_TICK) pa_nil)))) pss_nil)
    (pss_one (ps_ret (pe_lst (pa_cons (pe_call (ok_world_sum T) (hr.mono (by decide)) (by rfl) T.g_world_sum T.F_world_sum.kp T.b_world_sum .nil pass0 (pa_cons (pe_meth (pe_fld (pv 0) rfl) T.cl_Recording T.m_Recording_world_at (ok_Recording_world_at T) (hr.mono (by decide)) T.b_Recording_world_at .nil pass0 (pa_cons (pv 1) pa_nil)) pa_nil)) pa_nil))))), ?_⟩)
  · obtain ⟨l, M, h, k, rfl, _⟩ := h
    rfl
  · obtain ⟨l, M, h, t, rfl, L0, ok, k⟩ := h
    obtain ⟨g, pl, sl, o, pm, sm, rfl, L⟩ := id L0
    obtain ⟨dx, hl⟩ := L.obj
    obtain ⟨dg, hg⟩ := L.r1.obj
    refine ⟨_, rfl, _, rfl, l, _, dx, _, _, rfl, hl, T.cl_Line, T.na_Line_going, li_going, g, dg, _, rfl, hg, re_none (by decide +kernel) (by decide +kernel) (by decide +kernel) (by decide +kernel), g, pl, sl, h.tape, rfl, L.r1, ?_⟩
    refine ⟨_, _, rfl, rfl, _, rfl, ?_⟩
    by_cases c : h.tape.keys.length < t
    · refine ifT (decide_eq_true (by omega)) ?_
      refine ⟨by show 1 ≤ sizeLine; decide, fun r nr => ?_⟩
      exact ans_same k (PaM.step_sumAt_no c) L0 (same_upd nr) nr upd_same
    refine ifF (decide_eq_false (by omega)) ?_
    refine ⟨_, rfl, l, _, dx, _, _, rfl, hl, T.cl_Line, T.na_Line_going, li_going, g, dg, _, rfl, hg, re_none (by decide +kernel) (by decide +kernel) (by decide +kernel) (by decide +kernel), _, rfl, g, pl, sl, h.tape, t, rfl, L.r1, ok.t, by omega, fun H1 r1 s1 W1 => ?_⟩
    have wl := (PaM.play_ok ok.t t).len
    have n4 := ok.t.n4
    refine ⟨r1, _, rfl, W1, by omega, fun H2 s2 => ?_⟩
    refine ⟨by show 1 ≤ sizeLine; decide, fun p np => ?_⟩
    have s12 := s1.trans s2
    exact ans_same k (PaM.step_sumAt ok.t (by omega)) L0 (s12.trans (same_upd np)) (s12.free np) upd_same
/-! ### kept -/
def sp_Line_kept (K : PySem.W.Frag) (a : Ad) : Sp := fun vs H Q _ => ∃ (l : Addr) (M : List Addr) (h : Ge09.House), vs = [.ref l] ∧ LineIn K a H l M h ∧ PaM.HouseOk h ∧ ansK K a H l M (Ge09.step h .kept) Q
theorem ok_Line_kept (T : Txt K mg a d) : FnOk P w K mg base CX0 4 a.f_Line_kept d.f_Line_kept ["self"] (sp_Line_kept K a) := by
  refine T.F_Line_kept.ok sc_Line_kept (fun vs H Q E h => ?_) (fun cdv A outer s H vs Q E hr h => ⟨_, (pss_cons (ps_set (i := 1) sc_Line_kept.nd rfl (Or.inl rfl) (pe_lst (pa_cons (pe_callB call_len_seq (by rfl) T.n_len PySem.boot_len (pa_cons (pe_fld (pe_fld (pv 0) rfl) rfl) pa_nil)) pa_nil)))
    (pss_cons (ps_for PassesOwn.never rfl (pi_list (pe_fld (pe_fld (pv 0) rfl) rfl)) (pg_name (i := 2) sc_Line_kept.nd rfl (Or.inl rfl)) (pss_one (ps_expr (pe_bm PySem.F.plainAttrs_list PySem.F.slot_list_extend PySem.F.type_list_extend mt_extend (pv 1) (pa_cons (pe_lst (pa_cons (pe_fld (pv 2) rfl) (pa_cons (pe_call (ok_world_sum T) (hr.mono (by decide)) (by rfl) T.g_world_sum T.F_world_sum.kp T.b_world_sum .nil pass0 (pa_cons (pe_fld (pv 2) rfl) pa_nil)) pa_nil))) pa_nil)))))
    (pss_one (ps_ret (pv 1))))), ?_⟩)
  · obtain ⟨l, M, h, rfl, _⟩ := h
    rfl
  · obtain ⟨l, M, h, rfl, L0, ok, k⟩ := h
    obtain ⟨g, pl, sl, o, pm, sm, rfl, L⟩ := id L0
    obtain ⟨dx, hl⟩ := L.obj
    obtain ⟨dg, hg⟩ := L.r1.obj
    obtain ⟨ss, hs, es⟩ := L.r1.sts
    -- numbers = [len(self.going.states)]
    refine ⟨_, rfl, l, _, dx, _, _, rfl, hl, T.cl_Line, T.na_Line_going, li_going, g, _, dg, _, _, rfl, hg, T.cl_Recording, T.na_Recording_states, re_sts, sl, _, rfl, .inl (SqL.of hs), by show 1 ≤ sizeLine; decide, fun nu nnu => ?_⟩
    rw [List.length_map, es.len]
    have s1 : Same H (upd H nu (.lst (keyV [h.tape.kept.length]))) := same_upd nnu
    have hnu : upd H nu (.lst (keyV [h.tape.kept.length])) nu = some (.lst (keyV [h.tape.kept.length])) := upd_same
    have e1 : upd H nu (.lst [V.int (h.tape.kept.length : Nat)]) = upd H nu (.lst (keyV [h.tape.kept.length])) := rfl
    rw [e1]
    generalize upd H nu (.lst (keyV [h.tape.kept.length])) = H1 at s1 hnu
    -- for state in self.going.states
    refine ⟨_, rfl, l, _, dx, _, _, rfl, s1 _ _ hl, T.cl_Line, T.na_Line_going, li_going, g, _, dg, _, _, rfl, s1 _ _ hg, T.cl_Recording, T.na_Recording_states, re_sts, sl, rfl, ⟨_, SqL.of (s1 _ _ hs)⟩, ?_⟩
    refine for_list (K := K) (a := sl) (xs := ss.map V.ref) (fun i σ H' => ∃ v2, σ = [some (.ref l), some (.ref nu), v2] ∧ Same H H' ∧ H' nu = some (.lst (keyV (h.tape.kept.length :: (h.tape.kept.take i).flatMap PaM.two)))) ⟨none, rfl, s1, hnu⟩ (fun i σ H' _ ⟨_, _, s, _⟩ => SqL.of (s _ _ hs)) ?_ ?_
    · rintro i v σ H2 hi ⟨v2, rfl, s2, hn2⟩
      obtain ⟨sa, hsa, rfl⟩ := map_get hi
      obtain ⟨y, hy, S⟩ := es.got hsa
      have S2 := S.fix (Same.fix s2)
      obtain ⟨dy, qy, hy1, W2⟩ := id S2
      have ky := ok.t.kept y (List.mem_of_getElem? hy)
      have wl : y.2.players.length ≤ 4 := by
        have q := (PaM.play_ok ok.t y.1).len
        have n4 := ok.t.n4
        rw [ky.2.2]
        omega
      refine ⟨_, rfl, .inl ⟨rfl, _, SqL.of hn2⟩, ?_⟩
      refine ⟨_, rfl, sa, _, dy, _, _, rfl, hy1, T.cl_State, T.na_State_tick, st_tick, _, rfl, sa, _, dy, _, _, rfl, hy1, T.cl_State, T.na_State_world, st_world, qy, y.2, rfl, W2, wl, fun H3 s3 => ?_⟩
      refine ⟨by show 2 ≤ sizeLine; decide, fun b nb => ?_⟩
      have sb := same_upd (o := .lst (keyV (PaM.two y))) nb
      refine ⟨nu, b, _, _, rfl, rfl, sb _ _ (s3 _ _ hn2), upd_same, small ?_, ?_⟩
      · have h1 := PaM.two_len (h.tape.kept.take i)
        have h2 := ok.t.most
        have h3 : (h.tape.kept.take i).length ≤ 6 := by rw [List.length_take]; omega
        show (keyV (h.tape.kept.length :: (h.tape.kept.take i).flatMap PaM.two)).length + 2 ≤ 16777216
        simp only [keyV, List.length_map, List.length_cons]
        omega
      · refine ⟨_, rfl, fun b' o' e => ?_, ?_⟩
        · rw [upd_ne (ne_of_none e nnu)]
          exact (s2.trans (s3.trans sb)) _ _ e
        · rw [upd_same, PaM.two_more hy]
          simp only [keyV, List.map_cons, List.map_append]
          rfl
    · rintro σ H2 ⟨v2, rfl, s2, hn2⟩
      refine ⟨_, rfl, ?_⟩
      rw [List.length_map, es.len, List.take_length] at hn2
      refine ans_same k PaM.step_kept L0 s2 nnu ?_
      rw [hn2, ints_keyV]
      rfl
/-! ### keys -/
theorem cut_some {xs : List V} {i m : Nat} (h : i ≤ xs.length) : cutV xs (some (i : Int)) (some ((i + m : Nat) : Int)) = (xs.drop i).take m := by
  unfold cutV
  rw [HT.sIx_nat, HT.sIx_nat, Nat.min_eq_left h]
  by_cases c : i + m ≤ xs.length
  · rw [Nat.min_eq_left c, Nat.add_sub_cancel_left]
  · rw [Nat.min_eq_right (by omega), List.take_of_length_le (by rw [List.length_drop]; exact Nat.le_refl _), List.take_of_length_le (by rw [List.length_drop]; omega)]
def sp_Line_keys_behind (K : PySem.W.Frag) (a : Ad) : Sp := fun vs H Q _ => ∃ (l : Addr) (M : List Addr) (h : Ge09.House) (k m : Nat), vs = [.ref l, .int (k : Int), .int (m : Int)] ∧ LineIn K a H l M h ∧ PaM.HouseOk h ∧ ansK K a H l M (Ge09.step h (.keys k m)) Q
theorem ok_Line_keys_behind (T : Txt K mg a d) : FnOk P w K mg base CX0 2 a.f_Line_keys_behind d.f_Line_keys_behind ["self", "tick", "how_many"] (sp_Line_keys_behind K a) := by
  refine T.F_Line_keys_behind.ok sc_Line_keys_behind (fun vs H Q E h => ?_) (fun cdv A outer s H vs Q E hr h => ⟨_, (pss_cons (ps_if (pt_cmpR op_ge (pv 1) (pe_meth0 (pe_fld (pv 0) rfl) T.cl_Recording T.m_Recording_ticks (ok_Recording_ticks T) (hr.mono (by decide)) T.b_Recording_ticks .nil pass0) (nomark _)) (pss_one (ps_ret (pe_lst (pa_cons (pe_k T.k_NO_SUCH_TICK) pa_nil)))) pss_nil)
    (pss_cons (ps_set (i := 3) sc_Line_keys_behind.nd rfl (Or.inl rfl) (pe_slice sl_list (pe_fld (pe_fld (pv 0) rfl) rfl) (po_some (pv 1)) (po_some (pe_op op_add (pv 1) (pv 2)))))
    (pss_cons (ps_set (i := 4) sc_Line_keys_behind.nd rfl (Or.inl rfl) (pe_lst (pa_cons (pe_callB call_len_seq (by rfl) T.n_len PySem.boot_len (pa_cons (pv 3) pa_nil)) pa_nil)))
    (pss_cons (ps_for PassesOwn.never rfl (pi_list (pv 3)) (pg_name (i := 5) sc_Line_keys_behind.nd rfl (Or.inl rfl)) (pss_one (ps_expr (pe_bm PySem.F.plainAttrs_list PySem.F.slot_list_extend PySem.F.type_list_extend mt_extT (pv 4) (pa_cons (pv 5) pa_nil)))))
    (pss_one (ps_ret (pv 4))))))), ?_⟩)
  · obtain ⟨l, M, h, k, m, rfl, _⟩ := h
    rfl
  · obtain ⟨l, M, h, t, m, rfl, L0, ok, k⟩ := h
    obtain ⟨g, pl, sl, o, pm, sm, rfl, L⟩ := id L0
    obtain ⟨dx, hl⟩ := L.obj
    obtain ⟨dg, hg⟩ := L.r1.obj
    obtain ⟨ps, hp, ep⟩ := L.r1.prs
    refine ⟨_, rfl, _, rfl, l, _, dx, _, _, rfl, hl, T.cl_Line, T.na_Line_going, li_going, g, dg, _, rfl, hg, re_none (by decide +kernel) (by decide +kernel) (by decide +kernel) (by decide +kernel), g, pl, sl, h.tape, rfl, L.r1, ?_⟩
    refine ⟨_, _, rfl, rfl, _, rfl, ?_⟩
    by_cases c : h.tape.keys.length ≤ t
    · refine ifT (decide_eq_true (by omega)) ?_
      refine ⟨by show 1 ≤ sizeLine; decide, fun r nr => ?_⟩
      exact ans_same k (PaM.step_keys_no c) L0 (same_upd nr) nr upd_same
    refine ifF (decide_eq_false (by omega)) ?_
    -- presses = self.going.presses[tick:tick + how_many]
    refine ⟨_, rfl, l, _, dx, _, _, rfl, hl, T.cl_Line, T.na_Line_going, li_going, g, _, dg, _, _, rfl, hg, T.cl_Recording, T.na_Recording_presses, re_prs, _, rfl, _, rfl, _, rfl, _, rfl, _, _, rfl, rfl, _, rfl, pl, _, rfl, SqL.of hp, fun b nb => ?_⟩
    have e0 : (t : Int) + (m : Int) = ((t + m : Nat) : Int) := by omega
    rw [e0, cut_some (by rw [List.length_map, ep.len]; omega), ← List.map_drop, ← List.map_take]
    have s1 : Same H (upd H b (.lst (((ps.drop t).take m).map V.ref))) := same_upd nb
    have hb : upd H b (.lst (((ps.drop t).take m).map V.ref)) b = some (.lst (((ps.drop t).take m).map V.ref)) := upd_same
    generalize upd H b (.lst (((ps.drop t).take m).map V.ref)) = H1 at s1 hb
    have ek : Each (PressAt H) ((ps.drop t).take m) ((h.tape.keys.drop t).take m) := (ep.drop t).take m
    generalize hL : (h.tape.keys.drop t).take m = ks at ek
    generalize (ps.drop t).take m = qs at ek hb
    have hks : ∀ x ∈ ks, x.length ≤ 4 := fun x hx => by
      rw [← hL] at hx
      have q := ok.t.keys x (List.mem_of_mem_drop (List.mem_of_mem_take hx))
      have n4 := ok.t.n4
      omega
    have hkl : ks.length ≤ 120 := by
      have := ok.t.len
      rw [← hL, List.length_take, List.length_drop]
      omega
    -- numbers = [len(presses)]
    refine ⟨_, rfl, b, _, rfl, .inl (SqL.of hb), by show 1 ≤ sizeLine; decide, fun nu nnu => ?_⟩
    rw [List.length_map, ek.len]
    have s2 : Same H1 (upd H1 nu (.lst (keyV [ks.length]))) := same_upd nnu
    have hnu : upd H1 nu (.lst (keyV [ks.length])) nu = some (.lst (keyV [ks.length])) := upd_same
    have e1 : upd H1 nu (.lst [V.int (ks.length : Nat)]) = upd H1 nu (.lst (keyV [ks.length])) := rfl
    rw [e1]
    generalize upd H1 nu (.lst (keyV [ks.length])) = H2 at s2 hnu
    -- for pressed in presses
    refine ⟨_, rfl, b, rfl, ⟨_, SqL.of (s2 _ _ hb)⟩, ?_⟩
    refine for_list (K := K) (a := b) (xs := qs.map V.ref) (fun i σ H' => ∃ v5, σ = [some (.ref l), some (.int (t : Int)), some (.int (m : Int)), some (.ref b), some (.ref nu), v5] ∧ Same H1 H' ∧ H' nu = some (.lst (keyV (ks.length :: (ks.take i).flatten)))) ⟨none, rfl, s2, hnu⟩ (fun i σ H' _ ⟨_, _, s, _⟩ => SqL.of (s _ _ hb)) ?_ ?_
    · rintro i v σ H3 hi ⟨v5, rfl, s3, hn3⟩
      obtain ⟨tp, htp, rfl⟩ := map_get hi
      obtain ⟨ky, hky, P1⟩ := ek.got htp
      have P3 := (s1.trans s3) _ _ P1
      refine ⟨_, rfl, .inl ⟨rfl, _, SqL.of hn3⟩, _, rfl, nu, tp, _, _, rfl, rfl, hn3, P3, small ?_, ?_⟩
      · have h1 := PaM.flat_le (l := ks.take i) (n := 4) fun x hx => hks x (List.mem_of_mem_take hx)
        have h2 : (ks.take i).length ≤ 120 := by rw [List.length_take]; omega
        have h3 := hks ky (List.mem_of_getElem? hky)
        simp only [keyV, List.length_map, List.length_cons]
        omega
      · refine ⟨_, rfl, fun b' o' e => ?_, ?_⟩
        · rw [upd_ne (ne_of_none e nnu)]
          exact s3 _ _ e
        · rw [upd_same, PaM.flat1 hky]
          simp only [keyV, List.map_cons, List.map_append]
          rfl
    · rintro σ H3 ⟨v5, rfl, s3, hn3⟩
      refine ⟨_, rfl, ?_⟩
      rw [List.length_map, ek.len, List.take_length] at hn3
      refine ans_same k (PaM.step_keys (by omega)) L0 (s1.trans s3) (s1.free nnu) ?_
      rw [hn3, ints_keyV, hL]
end Pa

set_option Elab.async false
set_option linter.all false
set_option maxRecDepth 100000
set_option maxHeartbeats 2000000
namespace Pa
open PySem PySem.Spec PyProof.Rows L2
variable {P : Program} {w : PySem.World} {K : PySem.W.Frag} {mg : Str → Option Value} {base : Heap} {a : Ad} {d : Fd}
/-! ### spoil -/
def sp_Line_spoil (K : PySem.W.Frag) (a : Ad) : Sp := fun vs H Q _ => ∃ (l : Addr) (M : List Addr) (h : Ge09.House) (k i v : Nat), vs = [.ref l, .int (k : Int), .int (i : Int), .int (v : Int)] ∧ LineIn K a H l M h ∧ PaM.HouseOk h ∧ ansK K a H l M (Ge09.step h (.spoil k i v)) Q
theorem ok_Line_spoil (T : Txt K mg a d) : FnOk P w K mg base CX0 7 a.f_Line_spoil d.f_Line_spoil ["self", "tick", "player", "what"] (sp_Line_spoil K a) := by
  refine T.F_Line_spoil.ok sc_Line_spoil (fun vs H Q E h => ?_) (fun cdv A outer s H vs Q E hr h => ⟨_, (pss_cons (ps_if (PW.pt (pw_or (pt_not (pt_val (pe_call (ok_is_key T) (hr.mono (by decide)) (by rfl) T.g_is_key T.F_is_key.kp T.b_is_key .nil pass0 (pa_cons (pv 3) pa_nil)))) (pw_or1 (pt_cmpR op_ge (pv 2) (pe_fld (pe_fld (pv 0) rfl) rfl) (nomark _))))) (pss_one (ps_ret (pe_lst (pa_cons (pe_k T.k_NOT_ALLOWED) pa_nil)))) pss_nil)
    (pss_cons (ps_if (pt_cmpR op_ge (pv 1) (pe_meth0 (pe_fld (pv 0) rfl) T.cl_Recording T.m_Recording_ticks (ok_Recording_ticks T) (hr.mono (by decide)) T.b_Recording_ticks .nil pass0) (nomark _)) (pss_one (ps_ret (pe_lst (pa_cons (pe_k T.k_NO_SUCH_TICK) pa_nil)))) pss_nil)
    (pss_cons (ps_expr (pe_meth (pe_fld (pv 0) rfl) T.cl_Recording T.m_Recording_press_otherwise (ok_Recording_press_otherwise T) (hr.mono (by decide)) T.b_Recording_press_otherwise .nil pass0 (pa_cons (pv 1) (pa_cons (pv 2) (pa_cons (pv 3) pa_nil)))))
    (pss_one (ps_ret (pe_lst (pa_cons (pe_callB call_len_seq (by rfl) T.n_len PySem.boot_len (pa_cons (pe_fld (pe_fld (pv 0) rfl) rfl) pa_nil)) (pa_cons (pe_call (ok_world_sum T) (hr.mono (by decide)) (by rfl) T.g_world_sum T.F_world_sum.kp T.b_world_sum .nil pass0 (pa_cons (pe_meth (pe_fld (pv 0) rfl) T.cl_Recording T.m_Recording_world_at (ok_Recording_world_at T) (hr.mono (by decide)) T.b_Recording_world_at .nil pass0 (pa_cons (pe_meth0 (pe_fld (pv 0) rfl) T.cl_Recording T.m_Recording_ticks (ok_Recording_ticks T) (hr.mono (by decide)) T.b_Recording_ticks .nil pass0) pa_nil)) pa_nil)) pa_nil)))))))), ?_⟩)
  · obtain ⟨l, M, h, k, i, v, rfl, _⟩ := h
    rfl
  · obtain ⟨l, M, h, t, i, v, rfl, L0, ok, k⟩ := h
    obtain ⟨g, pl, sl, o, pm, sm, rfl, L⟩ := id L0
    obtain ⟨dx, hl⟩ := L.obj
    obtain ⟨dg, hg⟩ := L.r1.obj
    refine ⟨_, rfl, v, rfl, _, rfl, ?_⟩
    by_cases c1 : v ≤ 4
    case neg =>
      rw [decide_eq_false c1]
      refine iteT (iteT ?_)
      refine ⟨by show 1 ≤ sizeLine; decide, fun r nr => ?_⟩
      exact ans_same k (PaM.step_spoil_no (.inl (by omega))) L0 (same_upd nr) nr upd_same
    rw [decide_eq_true c1]
    refine iteF ?_
    refine ⟨_, rfl, _, rfl, l, _, dx, _, _, rfl, hl, T.cl_Line, T.na_Line_going, li_going, g, _, dg, _, _, rfl, hg, T.cl_Recording, T.na_Recording_how_many, re_how, _, _, rfl, rfl, _, rfl, ?_⟩
    by_cases c2 : h.tape.n ≤ i
    · refine ifT (decide_eq_true (by omega)) ?_
      refine ⟨by show 1 ≤ sizeLine; decide, fun r nr => ?_⟩
      exact ans_same k (PaM.step_spoil_no (.inr c2)) L0 (same_upd nr) nr upd_same
    refine ifF (decide_eq_false (by omega)) ?_
    have c12 : ¬ (4 < v ∨ h.tape.n ≤ i) := fun z => z.elim (fun y => by omega) c2
    refine ⟨_, rfl, _, rfl, l, _, dx, _, _, rfl, hl, T.cl_Line, T.na_Line_going, li_going, g, dg, _, rfl, hg, re_none (by decide +kernel) (by decide +kernel) (by decide +kernel) (by decide +kernel), g, pl, sl, h.tape, rfl, L.r1, ?_⟩
    refine ⟨_, _, rfl, rfl, _, rfl, ?_⟩
    by_cases c : h.tape.keys.length ≤ t
    · refine ifT (decide_eq_true (by omega)) ?_
      refine ⟨by show 1 ≤ sizeLine; decide, fun r nr => ?_⟩
      exact ans_same k (PaM.step_spoil_none c12 c) L0 (same_upd nr) nr upd_same
    refine ifF (decide_eq_false (by omega)) ?_
    -- self.going.press_otherwise(tick, player, what)
    refine ⟨_, rfl, l, _, dx, _, _, rfl, hl, T.cl_Line, T.na_Line_going, li_going, g, dg, _, rfl, hg, re_none (by decide +kernel) (by decide +kernel) (by decide +kernel) (by decide +kernel), _, rfl, _, rfl, _, rfl, g, pl, sl, h.tape, t, i, v, rfl, L.r1, ok.t, by omega, by omega, fun H1 sl1 R1 st1 nsl => ?_⟩
    have ok1 : PaM.TapeOk (PaM.spoil h.tape t i v) := PaM.spoil_ok ok.t (by omega) c1
    have L1 := L.gone_on R1 st1 (fun m hm => by
      simp only [List.mem_cons, List.not_mem_nil, or_false] at hm ⊢
      rcases hm with z | z <;> simp [z]) (.inl (by simp)) (.inr nsl)
    obtain ⟨dx1, hl1⟩ := L1.obj
    obtain ⟨dg1, hg1⟩ := L1.r1.obj
    obtain ⟨ss, hss, ess⟩ := L1.r1.sts
    obtain ⟨ps, hpp, _⟩ := L1.r1.prs
    -- return [len(self.going.states), world_sum(self.going.world_at(self.going.ticks()))]
    refine ⟨_, rfl, l, _, dx1, _, _, rfl, hl1, T.cl_Line, T.na_Line_going, li_going, g, _, dg1, _, _, rfl, hg1, T.cl_Recording, T.na_Recording_states, re_sts, sl1, _, rfl, .inl (SqL.of hss), ?_⟩
    refine ⟨_, rfl, l, _, dx1, _, _, rfl, hl1, T.cl_Line, T.na_Line_going, li_going, g, dg1, _, rfl, hg1, re_none (by decide +kernel) (by decide +kernel) (by decide +kernel) (by decide +kernel), ?_⟩
    refine ⟨_, rfl, l, _, dx1, _, _, rfl, hl1, T.cl_Line, T.na_Line_going, li_going, g, dg1, _, rfl, hg1, re_none (by decide +kernel) (by decide +kernel) (by decide +kernel) (by decide +kernel), g, pl, sl1, _, rfl, R1, ?_⟩
    refine ⟨g, pl, sl1, _, (PaM.spoil h.tape t i v).keys.length, rfl, R1, ok1, Nat.le_refl _, fun H2 r2 s2 W2 => ?_⟩
    have wl := (PaM.play_ok ok1 (PaM.spoil h.tape t i v).keys.length).len
    have n4 := ok1.n4
    refine ⟨r2, _, rfl, W2, by omega, fun H3 s3 => ?_⟩
    refine ⟨by show 2 ≤ sizeLine; decide, fun p np => ?_⟩
    have s23 := s2.trans s3
    have all := s23.trans (same_upd (o := .lst [V.int ((ss.map V.ref).length : Nat), V.int (Ge09.sum (Ge09.playTo (PaM.spoil h.tape t i v) (PaM.spoil h.tape t i v).keys.length) : Nat)]) np)
    rw [PaM.step_spoil c12 (by omega)] at k
    refine k _ p _ ((LineAt.mem L1).same all) ((st1.more fun m hm => ?_).trans (Same.stay all)) (fun m hm => ?_) (free_back st1 (fun m hm => ?_) (s23.free np)) ?_
    · simp only [List.mem_cons, List.not_mem_nil, or_false] at hm ⊢
      rcases hm with z | z <;> simp [z]
    · simp only [List.mem_cons, List.not_mem_nil, or_false] at hm
      rcases hm with z | z | z | z | z | z | z <;> subst z
      · exact .inl (by simp)
      · exact .inl (by simp)
      · exact .inl (by simp)
      · exact .inr nsl
      · exact .inl (by simp)
      · exact .inl (by simp)
      · exact .inl (by simp)
    · simp only [List.mem_cons, List.not_mem_nil, or_false] at hm
      rcases hm with z | z <;> subst z
      · exact ⟨_, hg1⟩
      · exact ⟨_, hpp⟩
    · rw [upd_same, ints_keyV, List.length_map, ess.len]
      rfl
/-! ### differ -/
def sp_Line_differ (K : PySem.W.Frag) (a : Ad) : Sp := fun vs H Q _ => ∃ (l : Addr) (M : List Addr) (h : Ge09.House), vs = [.ref l] ∧ LineIn K a H l M h ∧ PaM.HouseOk h ∧ ansK K a H l M (Ge09.step h .differ) Q
theorem ok_Line_differ (T : Txt K mg a d) : FnOk P w K mg base CX0 6 a.f_Line_differ d.f_Line_differ ["self"] (sp_Line_differ K a) := by
  refine T.F_Line_differ.ok sc_Line_differ (fun vs H Q E h => ?_) (fun cdv A outer s H vs Q E hr h => ⟨_, (pss_cons (ps_set (i := 1) sc_Line_differ.nd rfl (Or.inl rfl) (pe_meth0 (pe_fld (pv 0) rfl) T.cl_Recording T.m_Recording_all_worlds (ok_Recording_all_worlds T) (hr.mono (by decide)) T.b_Recording_all_worlds .nil pass0))
    (pss_cons (ps_set (i := 2) sc_Line_differ.nd rfl (Or.inl rfl) (pe_meth0 (pe_fld (pv 0) rfl) T.cl_Recording T.m_Recording_all_worlds (ok_Recording_all_worlds T) (hr.mono (by decide)) T.b_Recording_all_worlds .nil pass0))
    (pss_cons (ps_for PassesOwn.never rfl (pi_range1 (by rfl) T.n_range (pa_cons (pe_callB (call_min2 rfl) (by rfl) T.n_min (by decide +kernel) (pa_cons (pe_callB call_len_seq (by rfl) T.n_len PySem.boot_len (pa_cons (pv 1) pa_nil)) (pa_cons (pe_callB call_len_seq (by rfl) T.n_len PySem.boot_len (pa_cons (pv 2) pa_nil)) pa_nil))) pa_nil)) (pg_name (i := 3) sc_Line_differ.nd rfl (Or.inl rfl)) (pss_one (ps_if (pt_not (pt_val (pe_call (ok_are_alike T) (hr.mono (by decide)) (by rfl) T.g_are_alike T.F_are_alike.kp T.b_are_alike .nil pass0 (pa_cons (pe_ix ix_list (pv 1) (pv 3) (fun _ _ => rfl)) (pa_cons (pe_ix ix_list (pv 2) (pv 3) (fun _ _ => rfl)) pa_nil))))) (pss_one (ps_ret (pe_op op_cat (pe_op op_cat (pe_lst (pa_cons (pv 3) pa_nil)) (pe_call (ok_world_numbers T) (hr.mono (by decide)) (by rfl) T.g_world_numbers T.F_world_numbers.kp T.b_world_numbers .nil pass0 (pa_cons (pe_ix ix_list (pv 1) (pv 3) (fun _ _ => rfl)) pa_nil))) (pe_call (ok_world_numbers T) (hr.mono (by decide)) (by rfl) T.g_world_numbers T.F_world_numbers.kp T.b_world_numbers .nil pass0 (pa_cons (pe_ix ix_list (pv 2) (pv 3) (fun _ _ => rfl)) pa_nil))))) pss_nil)))
    (pss_one (ps_ret (pe_lst (pa_cons (pe_k T.k_ALIKE) pa_nil))))))), ?_⟩)
  · obtain ⟨l, M, h, rfl, _⟩ := h
    rfl
  · obtain ⟨l, M, h, rfl, L0, ok, k⟩ := h
    obtain ⟨g, pl, sl, o, pm, sm, rfl, L⟩ := id L0
    obtain ⟨dx, hl⟩ := L.obj
    obtain ⟨dg, hg⟩ := L.r1.obj
    obtain ⟨d_o, ho⟩ := L.r2.obj
    -- worlds = self.going.all_worlds()
    refine ⟨_, rfl, l, _, dx, _, _, rfl, hl, T.cl_Line, T.na_Line_going, li_going, g, dg, _, rfl, hg, re_none (by decide +kernel) (by decide +kernel) (by decide +kernel) (by decide +kernel), g, pl, sl, h.tape, rfl, L.r1, ok.t, fun H1 wa ws s1 nwa hwa ew => ?_⟩
    -- others = self.aside.all_worlds()
    refine ⟨_, rfl, l, _, dx, _, _, rfl, s1 _ _ hl, T.cl_Line, T.na_Line_aside, li_aside, o, d_o, _, rfl, s1 _ _ ho, re_none (by decide +kernel) (by decide +kernel) (by decide +kernel) (by decide +kernel), o, pm, sm, h.other, rfl, L.r2.same s1, ok.o, fun H2 xa xs s2 nxa hxa ex => ?_⟩
    have s12 := s1.trans s2
    have hwa2 := s2 _ _ hwa
    have ew2 : Each (WorldAt K a H2) ws (PaM.plays h.tape (h.tape.keys.length + 1)) := ew.mono fun _ _ _ _ r => r.fix (Same.fix s2)
    have lw : (ws.map V.ref).length = h.tape.keys.length + 1 := by rw [List.length_map, ew.len, PaM.plays_len]
    have lx : (xs.map V.ref).length = h.other.keys.length + 1 := by rw [List.length_map, ex.len, PaM.plays_len]
    have t120 := ok.t.len
    have o120 := ok.o.len
    -- for tick in range(min(len(worlds), len(others)))
    refine ⟨_, rfl, wa, _, rfl, .inl (SqL.of hwa2), _, rfl, xa, _, rfl, .inl (SqL.of hxa), _, _, rfl, _, rfl, ?_, ?_, ?_⟩
    · split <;> omega
    · split <;> omega
    have hn : (if (((xs.map V.ref).length : Nat) : Int) < (((ws.map V.ref).length : Nat) : Int) then (((xs.map V.ref).length : Nat) : Int) else (((ws.map V.ref).length : Nat) : Int)).toNat = min h.tape.keys.length h.other.keys.length + 1 := by
      rw [lw, lx]
      split <;> omega
    rw [hn]
    refine for_range (lo := 0) (n := min h.tape.keys.length h.other.keys.length + 1) (fun i σ H' => ∃ v3, σ = [some (.ref l), some (.ref wa), some (.ref xa), v3] ∧ Same H2 H' ∧ ∀ j, j < i → Ge09.playTo h.tape j = Ge09.playTo h.other j)
      ⟨none, rfl, Same.refl _, fun j hj => by omega⟩ ?_ ?_
    · rintro i σ H3 hi ⟨v3, rfl, s3, same⟩
      obtain ⟨p1, hp1, W1⟩ := ew2.get (PaM.plays_get h.tape (n := h.tape.keys.length + 1) (i := i) (by omega))
      obtain ⟨q1, hq1, V1⟩ := ex.get (PaM.plays_get h.other (n := h.other.keys.length + 1) (i := i) (by omega))
      have w4 : (Ge09.playTo h.tape i).players.length ≤ 4 := by
        have q := (PaM.play_ok ok.t i).len
        have n4 := ok.t.n4
        omega
      have v4 : (Ge09.playTo h.other i).players.length ≤ 4 := by
        have q := (PaM.play_ok ok.o i).len
        have n4 := ok.o.n4
        omega
      have z0 : (0 : Int) + (i : Int) = (i : Int) := by omega
      rw [z0]
      -- are_alike(worlds[tick], others[tick])
      refine ⟨_, rfl, _, rfl, wa, _, _, _, rfl, rfl, SqL.of (s3 _ _ hwa2), atI_nat (get_map V.ref hp1), _, rfl, _, rfl, xa, _, _, _, rfl, rfl, SqL.of (s3 _ _ hxa), atI_nat (get_map V.ref hq1), p1, q1, _, _, rfl, W1.fix (Same.fix s3), V1.fix (Same.fix s3), w4, v4, fun H4 s4 => ⟨_, rfl, ?_⟩⟩
      have s34 := s3.trans s4
      by_cases c : Ge09.playTo h.tape i = Ge09.playTo h.other i
      · rw [decide_eq_true c]
        refine iteF ?_
        refine ⟨_, rfl, s34, fun j hj => ?_⟩
        by_cases cj : j = i
        · rw [cj]
          exact c
        · exact same j (by omega)
      · rw [decide_eq_false c]
        refine iteT ?_
        -- return [tick] + world_numbers(worlds[tick]) + world_numbers(others[tick])
        refine ⟨_, rfl, by show 1 ≤ sizeLine; decide, fun b1 n1 => ?_⟩
        have s5 := same_upd (o := .lst [V.int (i : Int)]) n1
        have s35 := s34.trans s5
        refine ⟨_, rfl, _, rfl, wa, _, _, _, rfl, rfl, SqL.of (s35 _ _ hwa2), atI_nat (get_map V.ref hp1), p1, _, rfl, W1.fix (Same.fix s35), w4, fun H6 b2 s6 n2 hb2 => ?_⟩
        have r1 := row_small w4
        have r2 := row_small v4
        refine ⟨b1, b2, _, _, rfl, rfl, s6 _ _ upd_same, hb2, small (by show 1 + (rowV (Ge09.playTo h.tape i)).length ≤ 16777216; omega), fun b3 n3 => ?_⟩
        have s7 := same_upd (o := .lst ([V.int (i : Int)] ++ rowV (Ge09.playTo h.tape i))) n3
        have s37 := s35.trans (s6.trans s7)
        refine ⟨_, rfl, _, rfl, xa, _, _, _, rfl, rfl, SqL.of (s37 _ _ hxa), atI_nat (get_map V.ref hq1), q1, _, rfl, V1.fix (Same.fix s37), v4, fun H8 b4 s8 n4 hb4 => ?_⟩
        refine ⟨b3, b4, _, _, rfl, rfl, s8 _ _ upd_same, hb4, small (by rw [List.length_append]; show 1 + (rowV (Ge09.playTo h.tape i)).length + (rowV (Ge09.playTo h.other i)).length ≤ 16777216; omega), fun b5 n5 => ?_⟩
        have all := s12.trans (s37.trans s8)
        refine ans_same k (PaM.step_differ (j := i) (by omega) (by omega) c same) L0 (all.trans (same_upd n5)) (all.free n5) ?_
        rw [upd_same, ints_keyV]
        simp only [keyV, List.map_append]
        rfl
    · rintro σ H3 ⟨v3, rfl, s3, same⟩
      refine ⟨by show 1 ≤ sizeLine; decide, fun p np => ?_⟩
      have all := s12.trans s3
      exact ans_same k (PaM.step_differ_none fun j h1 h2 => same j (by omega)) L0 (all.trans (same_upd np)) (all.free np) upd_same
end Pa

set_option Elab.async false
set_option linter.all false
set_option maxRecDepth 100000
set_option maxHeartbeats 2000000
namespace Pa
open PySem PySem.Spec PyProof.Rows L2
variable {P : Program} {w : PySem.World} {K : PySem.W.Frag} {mg : Str → Option Value} {base : Heap} {a : Ad} {d : Fd}
/-! ### the request, which nobody changes -/
def CallsAt (K : PySem.W.Frag) (H : Hp) (c : Addr) (ns : List Int) : Prop := (∃ o, H c = some (.frz o (.lst (ns.map V.int)))) ∨
  ∃ (o : Obj) (its : Array Value) (n : Nat), K.lookup c = some o ∧ o.cls = .type "list" ∧ o.dict = none ∧ o.data = .seq its n ∧ its.size ≤ sizeLine ∧ Vals (ns.map V.int) its.toList
theorem CallsAt.sql {H : Hp} {c : Addr} {ns : List Int} (h : CallsAt K H c ns) : SqL K H c (ns.map V.int) := by
  rcases h with ⟨o, h⟩ | h
  · exact .inl (.inr ⟨o, h⟩)
  · exact .inr h
theorem CallsAt.fix {H H' : Hp} {c : Addr} {ns : List Int} (h : CallsAt K H c ns) (f : Fix H H') : CallsAt K H' c ns := by
  rcases h with ⟨o, h⟩ | h
  · exact .inl ⟨o, f _ _ h trivial⟩
  · exact .inr h
/-! ### the reader -/
def ReaderAt (a : Ad) (H : Hp) (rd c : Addr) (i : Nat) : Prop := ∃ dx, H rd = some (.ins a.c_Reader dx (rdF c (i : Int)))
theorem rd_numbers {c : Addr} {i : Int} : (rdF c i).lookup ("numbers" : Str) = some (.ref c) := lk1
theorem rd_at {c : Addr} {i : Int} : (rdF c i).lookup ("at" : Str) = some (.int i) := (lkN (by decide +kernel)).trans lk1
theorem rd_put {c : Addr} {i j : Int} : putF "at" (.int j) (rdF c i) = rdF c j := (pfN (by decide +kernel)).trans (congrArg _ pf1)
theorem rd_none {c : Addr} {i : Int} {m : Str} (h1 : (m == ("numbers" : Str)) = false) (h2 : (m == ("at" : Str)) = false) : (rdF c i).lookup m = none := (lkN h1).trans ((lkN h2).trans rfl)
theorem reader_fix {H H' : Hp} {rd c dx : Addr} {i : Int} (h : H rd = some (.ins a.c_Reader dx (rdF c i))) (s : Stay [rd] H H') : Fix H H' := s.fix fun m hm o e => by
  rw [List.mem_singleton.mp hm, h] at e
  cases e
  exact not_reader
def sp_Reader_init (a : Ad) : Sp := fun vs H Q _ => ∃ (p dx c : Addr), vs = [.ref p, .ref c] ∧ H p = some (.ins a.c_Reader dx []) ∧
  ∀ H' : Hp, ReaderAt a H' p c 0 → Stay [p] H H' → Q .non H'
theorem ok_Reader_init (T : Txt K mg a d) : FnOk P w K mg base CX0 1 a.f_Reader_init d.f_Reader_init ["self", "numbers"] (sp_Reader_init a) := by
  refine T.F_Reader_init.ok sc_Reader_init (fun vs H Q E h => ?_) (fun cdv A outer s H vs Q E hr h => ⟨_, (pss_cons (ps_fld (pv 0) (pv 1) rfl)
    (pss_one (ps_fld (pv 0) pe_int rfl))), ?_⟩)
  · obtain ⟨p, dx, c, rfl, _⟩ := h
    rfl
  · obtain ⟨p, dx, c, rfl, hp, k⟩ := h
    refine ⟨_, rfl, _, rfl, p, _, dx, _, rfl, hp, T.cl_Reader, T.na_Reader_numbers, by show 0 < 1000; decide, ?_⟩
    refine ⟨_, rfl, p, _, dx, _, rfl, upd_same, T.cl_Reader, T.na_Reader_at, by show 1 < 1000; decide, ?_⟩
    exact k _ ⟨dx, upd_same.trans (congrArg (fun q => some (HO.ins _ dx q)) (pfN (by decide +kernel)))⟩ (stay_upd.trans stay_upd)
def sp_Reader_has_more (K : PySem.W.Frag) (a : Ad) : Sp := fun vs H Q _ => ∃ (rd c : Addr) (i : Nat) (ns : List Int), vs = [.ref rd] ∧ ReaderAt a H rd c i ∧ CallsAt K H c ns ∧ Q (.bl (decide (i < ns.length))) H
theorem ok_Reader_has_more (T : Txt K mg a d) : FnOk P w K mg base CX0 1 a.f_Reader_has_more d.f_Reader_has_more ["self"] (sp_Reader_has_more K a) := by
  refine T.F_Reader_has_more.ok sc_Reader_has_more (fun vs H Q E h => ?_) (fun cdv A outer s H vs Q E hr h => ⟨_, (pss_one (ps_ret (pe_cmpR op_lt (pe_fld (pv 0) rfl) (pe_callB call_len_seq (by rfl) T.n_len PySem.boot_len (pa_cons (pe_fld (pv 0) rfl) pa_nil)) (nomark _)))), ?_⟩)
  · obtain ⟨rd, c, i, ns, rfl, _⟩ := h
    rfl
  · obtain ⟨rd, c, i, ns, rfl, ⟨dx, hr1⟩, hc, k⟩ := h
    refine ⟨_, rfl, rd, _, dx, _, _, rfl, hr1, T.cl_Reader, T.na_Reader_at, rd_at, _, rfl, rd, _, dx, _, _, rfl, hr1, T.cl_Reader, T.na_Reader_numbers, rd_numbers, c, _, rfl, .inl hc.sql, _, _, rfl, rfl, ?_⟩
    have e : decide ((i : Int) < ((ns.map V.int).length : Int)) = decide (i < ns.length) := by
      rw [decide_eq_decide, List.length_map]
      omega
    show Q (.bl (decide ((i : Int) < ((ns.map V.int).length : Int)))) H
    rw [e]
    exact k
def sp_Reader_number (K : PySem.W.Frag) (a : Ad) : Sp := fun vs H Q _ => ∃ (rd c : Addr) (i : Nat) (ns : List Int) (z : Int), vs = [.ref rd] ∧ ReaderAt a H rd c i ∧ CallsAt K H c ns ∧ ns[i]? = some z ∧
  ∀ H', ReaderAt a H' rd c (i + 1) → Stay [rd] H H' → Q (.int z) H'
theorem ok_Reader_number (T : Txt K mg a d) : FnOk P w K mg base CX0 1 a.f_Reader_number d.f_Reader_number ["self"] (sp_Reader_number K a) := by
  refine T.F_Reader_number.ok sc_Reader_number (fun vs H Q E h => ?_) (fun cdv A outer s H vs Q E hr h => ⟨_, (pss_cons (ps_fldaug (pv 0) pe_int in_add)
    (pss_one (ps_ret (pe_ix ix_list (pe_fld (pv 0) rfl) (pe_op op_sub (pe_fld (pv 0) rfl) pe_int) (fun _ _ => rfl))))), ?_⟩)
  · obtain ⟨rd, c, i, ns, z, rfl, _⟩ := h
    rfl
  · obtain ⟨rd, c, i, ns, z, rfl, ⟨dx, hr1⟩, hc, hz, k⟩ := h
    refine ⟨_, rfl, rd, _, dx, _, _, rfl, hr1, T.cl_Reader, T.na_Reader_at, rd_at, _, _, rfl, rfl, dx, _, hr1, by show 2 < 1000; decide, ?_⟩
    rw [rd_put]
    have st : Stay [rd] H (upd H rd (.ins a.c_Reader dx (rdF c ((i : Int) + 1)))) := stay_upd
    have f := reader_fix hr1 st
    refine ⟨_, rfl, rd, _, dx, _, _, rfl, upd_same, T.cl_Reader, T.na_Reader_numbers, rd_numbers, _, rfl, rd, _, dx, _, _, rfl, upd_same, T.cl_Reader, T.na_Reader_at, rd_at, _, _, rfl, rfl, c, _, _, _, rfl, rfl, (hc.fix f).sql, at_of (j := i) (by omega) (get_map V.int hz), ?_⟩
    refine k _ ⟨dx, ?_⟩ st
    rw [upd_same]
    have e : ((i + 1 : Nat) : Int) = (i : Int) + 1 := by omega
    rw [e]
def sp_Reader_row (K : PySem.W.Frag) (a : Ad) : Sp := fun vs H Q _ => ∃ (rd c : Addr) (i n : Nat) (ns : List Int), vs = [.ref rd] ∧ ReaderAt a H rd c i ∧ CallsAt K H c ns ∧ ns[i]? = some (n : Int) ∧ i + 1 + n ≤ ns.length ∧
  ∀ H' p, ReaderAt a H' rd c (i + 1 + n) → Stay [rd] H H' → H p = none → H' p = some (.lst (((ns.take (i + 1 + n)).drop (i + 1)).map V.int)) → Q (.ref p) H'
theorem ok_Reader_row (T : Txt K mg a d) : FnOk P w K mg base CX0 1 a.f_Reader_row d.f_Reader_row ["self"] (sp_Reader_row K a) := by
  refine T.F_Reader_row.ok sc_Reader_row (fun vs H Q E h => ?_) (fun cdv A outer s H vs Q E hr h => ⟨_, (pss_cons (ps_set (i := 1) sc_Reader_row.nd rfl (Or.inl rfl) (pe_op op_add (pe_fld (pv 0) rfl) pe_int))
    (pss_cons (ps_fld (pv 0) (pe_op op_add (pv 1) (pe_ix ix_list (pe_fld (pv 0) rfl) (pe_fld (pv 0) rfl) (fun _ _ => rfl))) rfl)
    (pss_one (ps_ret (pe_slice sl_list (pe_fld (pv 0) rfl) (po_some (pv 1)) (po_some (pe_fld (pv 0) rfl))))))), ?_⟩)
  · obtain ⟨rd, c, i, n, ns, rfl, _⟩ := h
    rfl
  · obtain ⟨rd, c, i, n, ns, rfl, ⟨dx, hr1⟩, hc, hz, hl, k⟩ := h
    refine ⟨_, rfl, rd, _, dx, _, _, rfl, hr1, T.cl_Reader, T.na_Reader_at, rd_at, _, _, rfl, rfl, ?_⟩
    refine ⟨_, rfl, _, rfl, rd, _, dx, _, _, rfl, hr1, T.cl_Reader, T.na_Reader_numbers, rd_numbers, _, rfl, rd, _, dx, _, _, rfl, hr1, T.cl_Reader, T.na_Reader_at, rd_at, c, _, _, _, rfl, rfl, hc.sql, atI_nat (get_map V.int hz), _, _, rfl, rfl, ?_⟩
    refine ⟨_, rfl, rd, _, dx, _, rfl, hr1, T.cl_Reader, T.na_Reader_at, by show 2 < 1000; decide, ?_⟩
    rw [rd_put]
    have e1 : (i : Int) + 1 = ((i + 1 : Nat) : Int) := by omega
    have e2 : ((i + 1 : Nat) : Int) + (n : Int) = ((i + 1 + n : Nat) : Int) := by omega
    rw [e1, e2]
    have st : Stay [rd] H (upd H rd (.ins a.c_Reader dx (rdF c ((i + 1 + n : Nat) : Int)))) := stay_upd
    have f := reader_fix hr1 st
    have hr2 : upd H rd (.ins a.c_Reader dx (rdF c ((i + 1 + n : Nat) : Int))) rd = some (.ins a.c_Reader dx (rdF c ((i + 1 + n : Nat) : Int))) := upd_same
    generalize upd H rd (.ins a.c_Reader dx (rdF c ((i + 1 + n : Nat) : Int))) = H1 at st f hr2
    refine ⟨_, rfl, rd, _, dx, _, _, rfl, hr2, T.cl_Reader, T.na_Reader_numbers, rd_numbers, _, rfl, _, rfl, _, rfl, rd, _, dx, _, _, rfl, hr2, T.cl_Reader, T.na_Reader_at, rd_at, _, rfl, c, _, rfl, (hc.fix f).sql, fun p np => ?_⟩
    rw [e1, cut_both (i := i + 1) (j := i + 1 + n) (by omega) (by rw [List.length_map]; exact hl), ← List.map_take, ← List.map_drop]
    have s2 := same_upd (o := .lst (((ns.take (i + 1 + n)).drop (i + 1)).map V.int)) np
    exact k _ p ⟨dx, s2 _ _ hr2⟩ (st.trans (Same.stay s2)) (free_back st (fun m hm => by rw [List.mem_singleton.mp hm]; exact ⟨_, hr2⟩) np) upd_same
end Pa

set_option Elab.async false
set_option linter.all false
set_option maxRecDepth 100000
set_option maxHeartbeats 2000000
namespace Pa
open PySem PySem.Spec PyProof.Rows L2
variable {P : Program} {w : PySem.World} {K : PySem.W.Frag} {mg : Str → Option Value} {base : Heap} {a : Ad} {d : Fd}
/-! ### one call, read and answered -/
theorem LineIn.stays {H H' : Hp} {l : Addr} {M N : List Addr} {h : Ge09.House} (L : LineIn K a H l M h) (st : Stay N H H') (f : Fix H H') (off : ∀ m ∈ M, m ∉ N) : LineIn K a H' l M h := by
  obtain ⟨g, pl, sl, o, pm, sm, rfl, ⟨dx, x⟩, r1, r2, d1, d2, d3, d4, d5⟩ := L
  exact ⟨g, pl, sl, o, pm, sm, rfl, ⟨dx, st _ _ x (off _ (by simp))⟩, r1.stays st f (off _ (by simp)) (off _ (by simp)) (off _ (by simp)), r2.stays st f (off _ (by simp)) (off _ (by simp)) (off _ (by simp)), d1, d2, d3, d4, d5⟩
theorem ReaderAt.stays {H H' : Hp} {rd c : Addr} {i : Nat} {N : List Addr} (R : ReaderAt a H rd c i) (st : Stay N H H') (n : rd ∉ N) : ReaderAt a H' rd c i := by
  obtain ⟨dx, h⟩ := R
  exact ⟨dx, st _ _ h n⟩
/-- what a whole call is asked -/
def nextK (K : PySem.W.Frag) (a : Ad) (H : Hp) (l rd c : Addr) (j : Nat) (M : List Addr) (r : Ge09.House × List Int) (Q : VK) : Prop :=
  ∀ H' p M', LineIn K a H' l M' r.1 → ReaderAt a H' rd c j → Stay (rd :: M) H H' → (∀ m ∈ M', m ∈ M ∨ H m = none) → H p = none → H' p = some (.lst (r.2.map V.int)) → Q (.ref p) H'
/-- the numbers have been read: what is left to ask of the line -/
theorem ans_pass {H H2 : Hp} {l rd c : Addr} {M : List Addr} {r : Ge09.House × List Int} {i j : Nat} {Q : VK} (k : nextK K a H l rd c j M r Q) (R2 : ReaderAt a H2 rd c j) (st : Stay [rd] H H2) (nM : rd ∉ M) : ansK K a H2 l M r Q := by
  intro H' p M' L' st' sub np hp
  have back : ∀ b, H2 b = none → H b = none := fun b e => free_back st (fun m hm => by
    obtain ⟨dx, h⟩ := R2
    rw [List.mem_singleton.mp hm]
    exact ⟨_, h⟩) e
  refine k H' p M' L' (R2.stays st' nM) ((st.more fun m hm => by rw [List.mem_singleton.mp hm]; simp).trans (st'.more fun m hm => List.mem_cons_of_mem _ hm)) (fun m hm => ?_) (back p np) hp
  rcases sub m hm with z | z
  · exact .inl z
  · exact .inr (back m z)
theorem at_pre {pre u : List Int} {j : Nat} {z : Int} (h : u[j]? = some z) : (pre ++ u)[pre.length + j]? = some z := by
  rw [List.getElem?_append_right (by omega)]
  have e : pre.length + j - pre.length = j := by omega
  rw [e]
  exact h
theorem seg {pre v post : List Int} : ((pre ++ (v ++ post)).take (pre.length + v.length)).drop pre.length = v := by
  rw [← List.append_assoc, List.take_append_of_le_length (by simp), List.take_of_length_le (by simp), List.drop_left]
/-- the line's own object, by what LineIn tells -/
theorem LineIn.at_ {H : Hp} {l : Addr} {M : List Addr} {h : Ge09.House} (L : LineIn K a H l M h) : ∃ dx g o, H l = some (.ins a.c_Line dx (liF g o)) := by
  obtain ⟨g, pl, sl, o, pm, sm, rfl, ⟨dx, x⟩, _⟩ := L
  exact ⟨dx, g, o, x⟩
theorem off1 {rd : Addr} {M : List Addr} (h : rd ∉ M) : ∀ m ∈ M, m ∉ [rd] := fun m hm z => h (by rw [← List.mem_singleton.mp z]; exact hm)
/-- reading goes on in another heap -/
theorem next_pass {H H1 : Hp} {l rd c : Addr} {M : List Addr} {r : Ge09.House × List Int} {j i : Nat} {Q : VK} (k : nextK K a H l rd c j M r Q) (R1 : ReaderAt a H1 rd c i) (st : Stay [rd] H H1) : nextK K a H1 l rd c j M r Q := by
  intro H' p M' L' R' st' sub np hp
  have back : ∀ b, H1 b = none → H b = none := fun b e => free_back st (fun m hm => by
    obtain ⟨dx, h⟩ := R1
    rw [List.mem_singleton.mp hm]
    exact ⟨_, h⟩) e
  refine k H' p M' L' R' ((st.more fun m hm => by rw [List.mem_singleton.mp hm]; simp).trans st') (fun m hm => ?_) (back p np) hp
  rcases sub m hm with z | z
  · exact .inl z
  · exact .inr (back m z)
/-- the calls that the first of the two defs answers -/
def changes : Ge09.Call → Prop
  | .begins _ _ => True
  | .press _ => True
  | .hold _ _ => True
  | .cut _ => True
  | .putBy => True
  | .swap => True
  | .spoil _ _ _ => True
  | _ => False
def sp_answer_change (K : PySem.W.Frag) (a : Ad) : Sp := fun vs H Q _ => ∃ (l rd c : Addr) (M : List Addr) (h : Ge09.House) (x : Ge09.Call) (pre post : List Int) (z : Int) (u : List Int), vs = [.ref l, .int z, .ref rd] ∧ LineIn K a H l M h ∧ PaM.HouseOk h ∧ ReaderAt a H rd c (pre.length + 1) ∧ CallsAt K H c (pre ++ (PaM.enc x ++ post)) ∧ PaM.RowOk x ∧ rd ∉ M ∧ PaM.enc x = z :: u ∧ changes x ∧
  nextK K a H l rd c (pre.length + (PaM.enc x).length) M (Ge09.step h x) Q
theorem ok_answer_change (T : Txt K mg a d) : FnOk P w K mg base CX0 10 a.f_answer_change d.f_answer_change ["line", "call", "reader"] (sp_answer_change K a) := by
  refine T.F_answer_change.ok sc_answer_change (fun vs H Q E h => ?_) (fun cdv A outer s H vs Q E hr h => ⟨_, (pss_cons (ps_if (pt_cmpR op_eq (pv 1) (pe_k T.k_BEGINS) (nomark _)) (pss_cons (ps_set (i := 3) sc_answer_change.nd rfl (Or.inl rfl) (pe_meth0 (pv 2) T.cl_Reader T.m_Reader_number (ok_Reader_number T) (hr.mono (by decide)) T.b_Reader_number .nil pass0))
    (pss_one (ps_ret (pe_meth (pv 0) T.cl_Line T.m_Line_begins (ok_Line_begins T) (hr.mono (by decide)) T.b_Line_begins .nil pass0 (pa_cons (pv 3) (pa_cons (pe_meth0 (pv 2) T.cl_Reader T.m_Reader_number (ok_Reader_number T) (hr.mono (by decide)) T.b_Reader_number .nil pass0) pa_nil)))))) pss_nil)
    (pss_cons (ps_if (pt_cmpR op_eq (pv 1) (pe_k T.k_PRESS) (nomark _)) (pss_one (ps_ret (pe_meth (pv 0) T.cl_Line T.m_Line_press (ok_Line_press T) (hr.mono (by decide)) T.b_Line_press .nil pass0 (pa_cons (pe_meth0 (pv 2) T.cl_Reader T.m_Reader_row (ok_Reader_row T) (hr.mono (by decide)) T.b_Reader_row .nil pass0) pa_nil)))) pss_nil)
    (pss_cons (ps_if (pt_cmpR op_eq (pv 1) (pe_k T.k_HOLD) (nomark _)) (pss_cons (ps_set (i := 4) sc_answer_change.nd rfl (Or.inl rfl) (pe_meth0 (pv 2) T.cl_Reader T.m_Reader_number (ok_Reader_number T) (hr.mono (by decide)) T.b_Reader_number .nil pass0))
    (pss_one (ps_ret (pe_meth (pv 0) T.cl_Line T.m_Line_hold (ok_Line_hold T) (hr.mono (by decide)) T.b_Line_hold .nil pass0 (pa_cons (pv 4) (pa_cons (pe_meth0 (pv 2) T.cl_Reader T.m_Reader_row (ok_Reader_row T) (hr.mono (by decide)) T.b_Reader_row .nil pass0) pa_nil)))))) pss_nil)
    (pss_cons (ps_if (pt_cmpR op_eq (pv 1) (pe_k T.k_CUT) (nomark _)) (pss_one (ps_ret (pe_meth (pv 0) T.cl_Line T.m_Line_cut (ok_Line_cut T) (hr.mono (by decide)) T.b_Line_cut .nil pass0 (pa_cons (pe_meth0 (pv 2) T.cl_Reader T.m_Reader_number (ok_Reader_number T) (hr.mono (by decide)) T.b_Reader_number .nil pass0) pa_nil)))) pss_nil)
    (pss_cons (ps_if (pt_cmpR op_eq (pv 1) (pe_k T.k_PUT_BY) (nomark _)) (pss_one (ps_ret (pe_meth0 (pv 0) T.cl_Line T.m_Line_put_by (ok_Line_put_by T) (hr.mono (by decide)) T.b_Line_put_by .nil pass0))) pss_nil)
    (pss_cons (ps_if (pt_cmpR op_eq (pv 1) (pe_k T.k_SWAP) (nomark _)) (pss_one (ps_ret (pe_meth0 (pv 0) T.cl_Line T.m_Line_swap (ok_Line_swap T) (hr.mono (by decide)) T.b_Line_swap .nil pass0))) pss_nil)
    (pss_cons (ps_if (pt_cmpR op_eq (pv 1) (pe_k T.k_SPOIL) (nomark _)) (pss_cons (ps_set (i := 5) sc_answer_change.nd rfl (Or.inl rfl) (pe_meth0 (pv 2) T.cl_Reader T.m_Reader_number (ok_Reader_number T) (hr.mono (by decide)) T.b_Reader_number .nil pass0))
    (pss_cons (ps_set (i := 6) sc_answer_change.nd rfl (Or.inl rfl) (pe_meth0 (pv 2) T.cl_Reader T.m_Reader_number (ok_Reader_number T) (hr.mono (by decide)) T.b_Reader_number .nil pass0))
    (pss_one (ps_ret (pe_meth (pv 0) T.cl_Line T.m_Line_spoil (ok_Line_spoil T) (hr.mono (by decide)) T.b_Line_spoil .nil pass0 (pa_cons (pv 5) (pa_cons (pv 6) (pa_cons (pe_meth0 (pv 2) T.cl_Reader T.m_Reader_number (ok_Reader_number T) (hr.mono (by decide)) T.b_Reader_number .nil pass0) pa_nil)))))))) pss_nil)
    (pss_one ps_never)))))))), ?_⟩)
  · obtain ⟨l, rd, c, M, h, x, pre, post, z, u, rfl, _⟩ := h
    rfl
  · obtain ⟨l, rd, c, M, h, x, pre, post, z, u, rfl, L, ok, R0, hc, row, nM, ez, ch, k⟩ := h
    cases x with
    | begins n sd =>
      obtain rfl : z = 0 := (List.cons.inj ez).1.symm
      refine ⟨_, rfl, rfl, _, rfl, ?_⟩
      refine ifT (decide_eq_true (by rfl)) ?_
      obtain ⟨d0, h0⟩ := id R0
      refine ⟨_, rfl, rd, d0, _, rfl, h0, rd_none (by decide +kernel) (by decide +kernel), rd, c, _, _, (n : Int), rfl, R0, hc, at_pre (j := 1) rfl, fun H1 R1 b1 => ?_⟩
      have f1 := reader_fix h0 b1
      have st1 := b1
      have L1 := L.stays st1 f1 (off1 nM)
      obtain ⟨dl, g, o, hl⟩ := L1.at_
      refine ⟨_, rfl, l, dl, _, rfl, hl, li_none (by decide +kernel) (by decide +kernel), _, rfl, ?_⟩
      obtain ⟨d1, h1⟩ := id R1
      refine ⟨_, rfl, rd, d1, _, rfl, h1, rd_none (by decide +kernel) (by decide +kernel), rd, c, _, _, (sd : Int), rfl, R1, hc.fix f1, at_pre (j := 2) rfl, fun H2 R2 b2 => ?_⟩
      have f2 := f1.trans (reader_fix h1 b2)
      have st2 := st1.trans b2
      exact ⟨l, M, h, n, sd, rfl, L.stays st2 f2 (off1 nM), ok, ans_pass (i := 0) k R2 st2 nM⟩
    | press ks =>
      obtain rfl : z = 1 := (List.cons.inj ez).1.symm
      refine ⟨_, rfl, rfl, _, rfl, ?_⟩
      refine ifF (decide_eq_false (by decide)) ?_
      refine ⟨_, rfl, rfl, _, rfl, ?_⟩
      refine ifT (decide_eq_true (by rfl)) ?_
      have L0 := L
      obtain ⟨dl, g, o, hl⟩ := L0.at_
      refine ⟨_, rfl, l, dl, _, rfl, hl, li_none (by decide +kernel) (by decide +kernel), ?_⟩
      obtain ⟨d0, h0⟩ := id R0
      refine ⟨_, rfl, rd, d0, _, rfl, h0, rd_none (by decide +kernel) (by decide +kernel), rd, c, _, ks.length, _, rfl, R0, hc, at_pre (j := 1) rfl, ?_, fun H1 p R1 b1 np hp => ?_⟩
      · simp only [PaM.enc, Ge09.ints, List.length_append, List.length_cons, List.length_map]
        omega
      have f1 := reader_fix h0 b1
      have st1 := b1
      have e : ((pre ++ (PaM.enc (.press ks) ++ post)).take (pre.length + 1 + 1 + ks.length)).drop (pre.length + 1 + 1) = Ge09.ints ks := by
        have := seg (pre := pre ++ [1, (ks.length : Int)]) (v := Ge09.ints ks) (post := post)
        simpa [PaM.enc, Ge09.ints, List.append_assoc, Nat.add_assoc] using this
      rw [e, ints_keyV] at hp
      refine ⟨l, p, M, h, ks, rfl, L.stays st1 f1 (off1 nM), ok, hp, fun z => ?_, Nat.le_trans row (by decide), ?_⟩
      · obtain ⟨y, hy, _⟩ := L0.there p z
        rw [hy] at np
        cases np
      · refine ans_pass (i := 0) k ?_ st1 nM
        have e2 : pre.length + (PaM.enc (.press ks)).length = pre.length + 1 + 1 + ks.length := by
          simp only [PaM.enc, Ge09.ints, List.length_cons, List.length_map]
          omega
        rw [e2]
        exact R1
    | hold m ks =>
      obtain rfl : z = 2 := (List.cons.inj ez).1.symm
      refine ⟨_, rfl, rfl, _, rfl, ?_⟩
      refine ifF (decide_eq_false (by decide)) ?_
      refine ⟨_, rfl, rfl, _, rfl, ?_⟩
      refine ifF (decide_eq_false (by decide)) ?_
      refine ⟨_, rfl, rfl, _, rfl, ?_⟩
      refine ifT (decide_eq_true (by rfl)) ?_
      obtain ⟨d0, h0⟩ := id R0
      refine ⟨_, rfl, rd, d0, _, rfl, h0, rd_none (by decide +kernel) (by decide +kernel), rd, c, _, _, (m : Int), rfl, R0, hc, at_pre (j := 1) rfl, fun H1 R1 b1 => ?_⟩
      have f1 := reader_fix h0 b1
      have st1 := b1
      have L1 := L.stays st1 f1 (off1 nM)
      obtain ⟨dl, g, o, hl⟩ := L1.at_
      refine ⟨_, rfl, l, dl, _, rfl, hl, li_none (by decide +kernel) (by decide +kernel), _, rfl, ?_⟩
      obtain ⟨d1, h1⟩ := id R1
      refine ⟨_, rfl, rd, d1, _, rfl, h1, rd_none (by decide +kernel) (by decide +kernel), rd, c, _, ks.length, _, rfl, R1, hc.fix f1, at_pre (j := 2) rfl, ?_, fun H2 p R2 b2 np hp => ?_⟩
      · simp only [PaM.enc, Ge09.ints, List.length_append, List.length_cons, List.length_map]
        omega
      have f2 := f1.trans (reader_fix h1 b2)
      have st2 := st1.trans b2
      have e : ((pre ++ (PaM.enc (.hold m ks) ++ post)).take (pre.length + 1 + 1 + 1 + ks.length)).drop (pre.length + 1 + 1 + 1) = Ge09.ints ks := by
        have := seg (pre := pre ++ [2, (m : Int), (ks.length : Int)]) (v := Ge09.ints ks) (post := post)
        simpa [PaM.enc, Ge09.ints, List.append_assoc, Nat.add_assoc] using this
      rw [e, ints_keyV] at hp
      refine ⟨l, p, M, h, m, ks, rfl, L.stays st2 f2 (off1 nM), ok, hp, fun z => ?_, Nat.le_trans row (by decide), ?_⟩
      · obtain ⟨y, hy, _⟩ := L1.there p z
        rw [hy] at np
        cases np
      · refine ans_pass (i := 0) k ?_ st2 nM
        have e2 : pre.length + (PaM.enc (.hold m ks)).length = pre.length + 1 + 1 + 1 + ks.length := by
          simp only [PaM.enc, Ge09.ints, List.length_cons, List.length_map]
          omega
        rw [e2]
        exact R2
    | cut t =>
      obtain rfl : z = 4 := (List.cons.inj ez).1.symm
      refine ⟨_, rfl, rfl, _, rfl, ?_⟩
      refine ifF (decide_eq_false (by decide)) ?_
      refine ⟨_, rfl, rfl, _, rfl, ?_⟩
      refine ifF (decide_eq_false (by decide)) ?_
      refine ⟨_, rfl, rfl, _, rfl, ?_⟩
      refine ifF (decide_eq_false (by decide)) ?_
      refine ⟨_, rfl, rfl, _, rfl, ?_⟩
      refine ifT (decide_eq_true (by rfl)) ?_
      have L0 := L
      obtain ⟨dl, g, o, hl⟩ := L0.at_
      refine ⟨_, rfl, l, dl, _, rfl, hl, li_none (by decide +kernel) (by decide +kernel), ?_⟩
      obtain ⟨d0, h0⟩ := id R0
      refine ⟨_, rfl, rd, d0, _, rfl, h0, rd_none (by decide +kernel) (by decide +kernel), rd, c, _, _, (t : Int), rfl, R0, hc, at_pre (j := 1) rfl, fun H1 R1 b1 => ?_⟩
      have f1 := reader_fix h0 b1
      have st1 := b1
      exact ⟨l, M, h, t, rfl, L.stays st1 f1 (off1 nM), ok, ans_pass (i := 0) k R1 st1 nM⟩
    | putBy =>
      obtain rfl : z = 5 := (List.cons.inj ez).1.symm
      refine ⟨_, rfl, rfl, _, rfl, ?_⟩
      refine ifF (decide_eq_false (by decide)) ?_
      refine ⟨_, rfl, rfl, _, rfl, ?_⟩
      refine ifF (decide_eq_false (by decide)) ?_
      refine ⟨_, rfl, rfl, _, rfl, ?_⟩
      refine ifF (decide_eq_false (by decide)) ?_
      refine ⟨_, rfl, rfl, _, rfl, ?_⟩
      refine ifF (decide_eq_false (by decide)) ?_
      refine ⟨_, rfl, rfl, _, rfl, ?_⟩
      refine ifT (decide_eq_true (by rfl)) ?_
      have L0 := L
      obtain ⟨dl, g, o, hl⟩ := L0.at_
      refine ⟨_, rfl, l, dl, _, rfl, hl, li_none (by decide +kernel) (by decide +kernel), ?_⟩
      exact ⟨l, M, h, rfl, L, ok, ans_pass (i := 0) k R0 (Same.stay (Same.refl H)) nM⟩
    | swap =>
      obtain rfl : z = 6 := (List.cons.inj ez).1.symm
      refine ⟨_, rfl, rfl, _, rfl, ?_⟩
      refine ifF (decide_eq_false (by decide)) ?_
      refine ⟨_, rfl, rfl, _, rfl, ?_⟩
      refine ifF (decide_eq_false (by decide)) ?_
      refine ⟨_, rfl, rfl, _, rfl, ?_⟩
      refine ifF (decide_eq_false (by decide)) ?_
      refine ⟨_, rfl, rfl, _, rfl, ?_⟩
      refine ifF (decide_eq_false (by decide)) ?_
      refine ⟨_, rfl, rfl, _, rfl, ?_⟩
      refine ifF (decide_eq_false (by decide)) ?_
      refine ⟨_, rfl, rfl, _, rfl, ?_⟩
      refine ifT (decide_eq_true (by rfl)) ?_
      have L0 := L
      obtain ⟨dl, g, o, hl⟩ := L0.at_
      refine ⟨_, rfl, l, dl, _, rfl, hl, li_none (by decide +kernel) (by decide +kernel), ?_⟩
      exact ⟨l, M, h, rfl, L, ok, ans_pass (i := 0) k R0 (Same.stay (Same.refl H)) nM⟩
    | spoil t i v =>
      obtain rfl : z = 11 := (List.cons.inj ez).1.symm
      refine ⟨_, rfl, rfl, _, rfl, ?_⟩
      refine ifF (decide_eq_false (by decide)) ?_
      refine ⟨_, rfl, rfl, _, rfl, ?_⟩
      refine ifF (decide_eq_false (by decide)) ?_
      refine ⟨_, rfl, rfl, _, rfl, ?_⟩
      refine ifF (decide_eq_false (by decide)) ?_
      refine ⟨_, rfl, rfl, _, rfl, ?_⟩
      refine ifF (decide_eq_false (by decide)) ?_
      refine ⟨_, rfl, rfl, _, rfl, ?_⟩
      refine ifF (decide_eq_false (by decide)) ?_
      refine ⟨_, rfl, rfl, _, rfl, ?_⟩
      refine ifF (decide_eq_false (by decide)) ?_
      refine ⟨_, rfl, rfl, _, rfl, ?_⟩
      refine ifT (decide_eq_true (by rfl)) ?_
      obtain ⟨d0, h0⟩ := id R0
      refine ⟨_, rfl, rd, d0, _, rfl, h0, rd_none (by decide +kernel) (by decide +kernel), rd, c, _, _, (t : Int), rfl, R0, hc, at_pre (j := 1) rfl, fun H1 R1 b1 => ?_⟩
      have f1 := reader_fix h0 b1
      have st1 := b1
      obtain ⟨d1, h1⟩ := id R1
      refine ⟨_, rfl, rd, d1, _, rfl, h1, rd_none (by decide +kernel) (by decide +kernel), rd, c, _, _, (i : Int), rfl, R1, hc.fix f1, at_pre (j := 2) rfl, fun H2 R2 b2 => ?_⟩
      have f2 := f1.trans (reader_fix h1 b2)
      have st2 := st1.trans b2
      have L2 := L.stays st2 f2 (off1 nM)
      obtain ⟨dl, g, o, hl⟩ := L2.at_
      refine ⟨_, rfl, l, dl, _, rfl, hl, li_none (by decide +kernel) (by decide +kernel), _, rfl, _, rfl, ?_⟩
      obtain ⟨d2, h2⟩ := id R2
      refine ⟨_, rfl, rd, d2, _, rfl, h2, rd_none (by decide +kernel) (by decide +kernel), rd, c, _, _, (v : Int), rfl, R2, hc.fix f2, at_pre (j := 3) rfl, fun H3 R3 b3 => ?_⟩
      have f3 := f2.trans (reader_fix h2 b3)
      have st3 := st2.trans b3
      exact ⟨l, M, h, t, i, v, rfl, L.stays st3 f3 (off1 nM), ok, ans_pass (i := 0) k R3 st3 nM⟩
    | seek t => exact ch.elim
    | differ => exact ch.elim
    | kept => exact ch.elim
    | sumAt t => exact ch.elim
    | keys t m => exact ch.elim
def sp_answer_next (K : PySem.W.Frag) (a : Ad) : Sp := fun vs H Q _ => ∃ (l rd c : Addr) (M : List Addr) (h : Ge09.House) (x : Ge09.Call) (pre post : List Int), vs = [.ref l, .ref rd] ∧ LineIn K a H l M h ∧ PaM.HouseOk h ∧ ReaderAt a H rd c pre.length ∧ CallsAt K H c (pre ++ (PaM.enc x ++ post)) ∧ PaM.RowOk x ∧ rd ∉ M ∧
  nextK K a H l rd c (pre.length + (PaM.enc x).length) M (Ge09.step h x) Q
theorem ok_answer_next (T : Txt K mg a d) : FnOk P w K mg base CX0 11 a.f_answer_next d.f_answer_next ["line", "reader"] (sp_answer_next K a) := by
  refine T.F_answer_next.ok sc_answer_next (fun vs H Q E h => ?_) (fun cdv A outer s H vs Q E hr h => ⟨_, (pss_cons (ps_set (i := 2) sc_answer_next.nd rfl (Or.inl rfl) (pe_meth0 (pv 1) T.cl_Reader T.m_Reader_number (ok_Reader_number T) (hr.mono (by decide)) T.b_Reader_number .nil pass0))
    (pss_cons (ps_if (pt_cmpR op_eq (pv 2) (pe_k T.k_SEEK) (nomark _)) (pss_one (ps_ret (pe_meth (pv 0) T.cl_Line T.m_Line_seek (ok_Line_seek T) (hr.mono (by decide)) T.b_Line_seek .nil pass0 (pa_cons (pe_meth0 (pv 1) T.cl_Reader T.m_Reader_number (ok_Reader_number T) (hr.mono (by decide)) T.b_Reader_number .nil pass0) pa_nil)))) pss_nil)
    (pss_cons (ps_if (pt_cmpR op_eq (pv 2) (pe_k T.k_DIFFER) (nomark _)) (pss_one (ps_ret (pe_meth0 (pv 0) T.cl_Line T.m_Line_differ (ok_Line_differ T) (hr.mono (by decide)) T.b_Line_differ .nil pass0))) pss_nil)
    (pss_cons (ps_if (pt_cmpR op_eq (pv 2) (pe_k T.k_KEPT) (nomark _)) (pss_one (ps_ret (pe_meth0 (pv 0) T.cl_Line T.m_Line_kept (ok_Line_kept T) (hr.mono (by decide)) T.b_Line_kept .nil pass0))) pss_nil)
    (pss_cons (ps_if (pt_cmpR op_eq (pv 2) (pe_k T.k_SUM_AT) (nomark _)) (pss_one (ps_ret (pe_meth (pv 0) T.cl_Line T.m_Line_sum_at (ok_Line_sum_at T) (hr.mono (by decide)) T.b_Line_sum_at .nil pass0 (pa_cons (pe_meth0 (pv 1) T.cl_Reader T.m_Reader_number (ok_Reader_number T) (hr.mono (by decide)) T.b_Reader_number .nil pass0) pa_nil)))) pss_nil)
    (pss_cons (ps_if (pt_cmpR op_eq (pv 2) (pe_k T.k_KEYS) (nomark _)) (pss_cons (ps_set (i := 3) sc_answer_next.nd rfl (Or.inl rfl) (pe_meth0 (pv 1) T.cl_Reader T.m_Reader_number (ok_Reader_number T) (hr.mono (by decide)) T.b_Reader_number .nil pass0))
    (pss_one (ps_ret (pe_meth (pv 0) T.cl_Line T.m_Line_keys_behind (ok_Line_keys_behind T) (hr.mono (by decide)) T.b_Line_keys_behind .nil pass0 (pa_cons (pv 3) (pa_cons (pe_meth0 (pv 1) T.cl_Reader T.m_Reader_number (ok_Reader_number T) (hr.mono (by decide)) T.b_Reader_number .nil pass0) pa_nil)))))) pss_nil)
    (pss_one (ps_ret (pe_call (ok_answer_change T) (hr.mono (by decide)) (by rfl) T.g_answer_change T.F_answer_change.kp T.b_answer_change .nil pass0 (pa_cons (pv 0) (pa_cons (pv 2) (pa_cons (pv 1) pa_nil)))))))))))), ?_⟩)
  · obtain ⟨l, rd, c, M, h, x, pre, post, rfl, _⟩ := h
    rfl
  · obtain ⟨l, rd, c, M, h, x, pre, post, rfl, L, ok, ⟨dr, hrd⟩, hc, row, nM, k⟩ := h
    have first : ∀ {z : Int} {u : List Int}, PaM.enc x = z :: u → (pre ++ (PaM.enc x ++ post))[pre.length]? = some z := fun e => by
      have := at_pre (pre := pre) (u := PaM.enc x ++ post) (j := 0) (by rw [e]; rfl)
      simpa using this
    cases x with
    | begins n sd =>
      refine ⟨_, rfl, rd, dr, _, rfl, hrd, rd_none (by decide +kernel) (by decide +kernel), rd, c, _, _, _, rfl, ⟨dr, hrd⟩, hc, first rfl, fun H1 R1 st1 => ?_⟩
      have f1 := reader_fix hrd st1
      refine ⟨_, rfl, rfl, _, rfl, ?_⟩
      refine ifF (decide_eq_false (by decide)) ?_
      refine ⟨_, rfl, rfl, _, rfl, ?_⟩
      refine ifF (decide_eq_false (by decide)) ?_
      refine ⟨_, rfl, rfl, _, rfl, ?_⟩
      refine ifF (decide_eq_false (by decide)) ?_
      refine ⟨_, rfl, rfl, _, rfl, ?_⟩
      refine ifF (decide_eq_false (by decide)) ?_
      refine ⟨_, rfl, rfl, _, rfl, ?_⟩
      refine ifF (decide_eq_false (by decide)) ?_
      exact ⟨_, rfl, _, rfl, _, rfl, l, rd, c, M, h, _, pre, post, _, _, rfl, L.stays st1 f1 (off1 nM), ok, R1, hc.fix f1, row, nM, rfl, trivial, next_pass k R1 st1⟩
    | press ks =>
      refine ⟨_, rfl, rd, dr, _, rfl, hrd, rd_none (by decide +kernel) (by decide +kernel), rd, c, _, _, _, rfl, ⟨dr, hrd⟩, hc, first rfl, fun H1 R1 st1 => ?_⟩
      have f1 := reader_fix hrd st1
      refine ⟨_, rfl, rfl, _, rfl, ?_⟩
      refine ifF (decide_eq_false (by decide)) ?_
      refine ⟨_, rfl, rfl, _, rfl, ?_⟩
      refine ifF (decide_eq_false (by decide)) ?_
      refine ⟨_, rfl, rfl, _, rfl, ?_⟩
      refine ifF (decide_eq_false (by decide)) ?_
      refine ⟨_, rfl, rfl, _, rfl, ?_⟩
      refine ifF (decide_eq_false (by decide)) ?_
      refine ⟨_, rfl, rfl, _, rfl, ?_⟩
      refine ifF (decide_eq_false (by decide)) ?_
      exact ⟨_, rfl, _, rfl, _, rfl, l, rd, c, M, h, _, pre, post, _, _, rfl, L.stays st1 f1 (off1 nM), ok, R1, hc.fix f1, row, nM, rfl, trivial, next_pass k R1 st1⟩
    | hold m ks =>
      refine ⟨_, rfl, rd, dr, _, rfl, hrd, rd_none (by decide +kernel) (by decide +kernel), rd, c, _, _, _, rfl, ⟨dr, hrd⟩, hc, first rfl, fun H1 R1 st1 => ?_⟩
      have f1 := reader_fix hrd st1
      refine ⟨_, rfl, rfl, _, rfl, ?_⟩
      refine ifF (decide_eq_false (by decide)) ?_
      refine ⟨_, rfl, rfl, _, rfl, ?_⟩
      refine ifF (decide_eq_false (by decide)) ?_
      refine ⟨_, rfl, rfl, _, rfl, ?_⟩
      refine ifF (decide_eq_false (by decide)) ?_
      refine ⟨_, rfl, rfl, _, rfl, ?_⟩
      refine ifF (decide_eq_false (by decide)) ?_
      refine ⟨_, rfl, rfl, _, rfl, ?_⟩
      refine ifF (decide_eq_false (by decide)) ?_
      exact ⟨_, rfl, _, rfl, _, rfl, l, rd, c, M, h, _, pre, post, _, _, rfl, L.stays st1 f1 (off1 nM), ok, R1, hc.fix f1, row, nM, rfl, trivial, next_pass k R1 st1⟩
    | cut t =>
      refine ⟨_, rfl, rd, dr, _, rfl, hrd, rd_none (by decide +kernel) (by decide +kernel), rd, c, _, _, _, rfl, ⟨dr, hrd⟩, hc, first rfl, fun H1 R1 st1 => ?_⟩
      have f1 := reader_fix hrd st1
      refine ⟨_, rfl, rfl, _, rfl, ?_⟩
      refine ifF (decide_eq_false (by decide)) ?_
      refine ⟨_, rfl, rfl, _, rfl, ?_⟩
      refine ifF (decide_eq_false (by decide)) ?_
      refine ⟨_, rfl, rfl, _, rfl, ?_⟩
      refine ifF (decide_eq_false (by decide)) ?_
      refine ⟨_, rfl, rfl, _, rfl, ?_⟩
      refine ifF (decide_eq_false (by decide)) ?_
      refine ⟨_, rfl, rfl, _, rfl, ?_⟩
      refine ifF (decide_eq_false (by decide)) ?_
      exact ⟨_, rfl, _, rfl, _, rfl, l, rd, c, M, h, _, pre, post, _, _, rfl, L.stays st1 f1 (off1 nM), ok, R1, hc.fix f1, row, nM, rfl, trivial, next_pass k R1 st1⟩
    | putBy =>
      refine ⟨_, rfl, rd, dr, _, rfl, hrd, rd_none (by decide +kernel) (by decide +kernel), rd, c, _, _, _, rfl, ⟨dr, hrd⟩, hc, first rfl, fun H1 R1 st1 => ?_⟩
      have f1 := reader_fix hrd st1
      refine ⟨_, rfl, rfl, _, rfl, ?_⟩
      refine ifF (decide_eq_false (by decide)) ?_
      refine ⟨_, rfl, rfl, _, rfl, ?_⟩
      refine ifF (decide_eq_false (by decide)) ?_
      refine ⟨_, rfl, rfl, _, rfl, ?_⟩
      refine ifF (decide_eq_false (by decide)) ?_
      refine ⟨_, rfl, rfl, _, rfl, ?_⟩
      refine ifF (decide_eq_false (by decide)) ?_
      refine ⟨_, rfl, rfl, _, rfl, ?_⟩
      refine ifF (decide_eq_false (by decide)) ?_
      exact ⟨_, rfl, _, rfl, _, rfl, l, rd, c, M, h, _, pre, post, _, _, rfl, L.stays st1 f1 (off1 nM), ok, R1, hc.fix f1, row, nM, rfl, trivial, next_pass k R1 st1⟩
    | swap =>
      refine ⟨_, rfl, rd, dr, _, rfl, hrd, rd_none (by decide +kernel) (by decide +kernel), rd, c, _, _, _, rfl, ⟨dr, hrd⟩, hc, first rfl, fun H1 R1 st1 => ?_⟩
      have f1 := reader_fix hrd st1
      refine ⟨_, rfl, rfl, _, rfl, ?_⟩
      refine ifF (decide_eq_false (by decide)) ?_
      refine ⟨_, rfl, rfl, _, rfl, ?_⟩
      refine ifF (decide_eq_false (by decide)) ?_
      refine ⟨_, rfl, rfl, _, rfl, ?_⟩
      refine ifF (decide_eq_false (by decide)) ?_
      refine ⟨_, rfl, rfl, _, rfl, ?_⟩
      refine ifF (decide_eq_false (by decide)) ?_
      refine ⟨_, rfl, rfl, _, rfl, ?_⟩
      refine ifF (decide_eq_false (by decide)) ?_
      exact ⟨_, rfl, _, rfl, _, rfl, l, rd, c, M, h, _, pre, post, _, _, rfl, L.stays st1 f1 (off1 nM), ok, R1, hc.fix f1, row, nM, rfl, trivial, next_pass k R1 st1⟩
    | spoil t i v =>
      refine ⟨_, rfl, rd, dr, _, rfl, hrd, rd_none (by decide +kernel) (by decide +kernel), rd, c, _, _, _, rfl, ⟨dr, hrd⟩, hc, first rfl, fun H1 R1 st1 => ?_⟩
      have f1 := reader_fix hrd st1
      refine ⟨_, rfl, rfl, _, rfl, ?_⟩
      refine ifF (decide_eq_false (by decide)) ?_
      refine ⟨_, rfl, rfl, _, rfl, ?_⟩
      refine ifF (decide_eq_false (by decide)) ?_
      refine ⟨_, rfl, rfl, _, rfl, ?_⟩
      refine ifF (decide_eq_false (by decide)) ?_
      refine ⟨_, rfl, rfl, _, rfl, ?_⟩
      refine ifF (decide_eq_false (by decide)) ?_
      refine ⟨_, rfl, rfl, _, rfl, ?_⟩
      refine ifF (decide_eq_false (by decide)) ?_
      exact ⟨_, rfl, _, rfl, _, rfl, l, rd, c, M, h, _, pre, post, _, _, rfl, L.stays st1 f1 (off1 nM), ok, R1, hc.fix f1, row, nM, rfl, trivial, next_pass k R1 st1⟩
    | seek t =>
      refine ⟨_, rfl, rd, dr, _, rfl, hrd, rd_none (by decide +kernel) (by decide +kernel), rd, c, _, _, _, rfl, ⟨dr, hrd⟩, hc, first rfl, fun H1 R1 st1 => ?_⟩
      have f1 := reader_fix hrd st1
      refine ⟨_, rfl, rfl, _, rfl, ?_⟩
      refine ifT (decide_eq_true (by rfl)) ?_
      have L1 := L.stays st1 f1 (off1 nM)
      obtain ⟨dl, g, o, hl⟩ := L1.at_
      refine ⟨_, rfl, l, dl, _, rfl, hl, li_none (by decide +kernel) (by decide +kernel), ?_⟩
      obtain ⟨d1, h1⟩ := id R1
      refine ⟨_, rfl, rd, d1, _, rfl, h1, rd_none (by decide +kernel) (by decide +kernel), rd, c, _, _, (t : Int), rfl, R1, hc.fix f1, at_pre (j := 1) rfl, fun H2 R2 b2 => ?_⟩
      have f2 := f1.trans (reader_fix h1 b2)
      have st2 := st1.trans b2
      exact ⟨l, M, h, t, rfl, L.stays st2 f2 (off1 nM), ok, ans_pass (i := 0) k R2 st2 nM⟩
    | differ =>
      refine ⟨_, rfl, rd, dr, _, rfl, hrd, rd_none (by decide +kernel) (by decide +kernel), rd, c, _, _, _, rfl, ⟨dr, hrd⟩, hc, first rfl, fun H1 R1 st1 => ?_⟩
      have f1 := reader_fix hrd st1
      refine ⟨_, rfl, rfl, _, rfl, ?_⟩
      refine ifF (decide_eq_false (by decide)) ?_
      refine ⟨_, rfl, rfl, _, rfl, ?_⟩
      refine ifT (decide_eq_true (by rfl)) ?_
      have L1 := L.stays st1 f1 (off1 nM)
      obtain ⟨dl, g, o, hl⟩ := L1.at_
      refine ⟨_, rfl, l, dl, _, rfl, hl, li_none (by decide +kernel) (by decide +kernel), ?_⟩
      exact ⟨l, M, h, rfl, L1, ok, ans_pass (i := 0) k R1 st1 nM⟩
    | kept =>
      refine ⟨_, rfl, rd, dr, _, rfl, hrd, rd_none (by decide +kernel) (by decide +kernel), rd, c, _, _, _, rfl, ⟨dr, hrd⟩, hc, first rfl, fun H1 R1 st1 => ?_⟩
      have f1 := reader_fix hrd st1
      refine ⟨_, rfl, rfl, _, rfl, ?_⟩
      refine ifF (decide_eq_false (by decide)) ?_
      refine ⟨_, rfl, rfl, _, rfl, ?_⟩
      refine ifF (decide_eq_false (by decide)) ?_
      refine ⟨_, rfl, rfl, _, rfl, ?_⟩
      refine ifT (decide_eq_true (by rfl)) ?_
      have L1 := L.stays st1 f1 (off1 nM)
      obtain ⟨dl, g, o, hl⟩ := L1.at_
      refine ⟨_, rfl, l, dl, _, rfl, hl, li_none (by decide +kernel) (by decide +kernel), ?_⟩
      exact ⟨l, M, h, rfl, L1, ok, ans_pass (i := 0) k R1 st1 nM⟩
    | sumAt t =>
      refine ⟨_, rfl, rd, dr, _, rfl, hrd, rd_none (by decide +kernel) (by decide +kernel), rd, c, _, _, _, rfl, ⟨dr, hrd⟩, hc, first rfl, fun H1 R1 st1 => ?_⟩
      have f1 := reader_fix hrd st1
      refine ⟨_, rfl, rfl, _, rfl, ?_⟩
      refine ifF (decide_eq_false (by decide)) ?_
      refine ⟨_, rfl, rfl, _, rfl, ?_⟩
      refine ifF (decide_eq_false (by decide)) ?_
      refine ⟨_, rfl, rfl, _, rfl, ?_⟩
      refine ifF (decide_eq_false (by decide)) ?_
      refine ⟨_, rfl, rfl, _, rfl, ?_⟩
      refine ifT (decide_eq_true (by rfl)) ?_
      have L1 := L.stays st1 f1 (off1 nM)
      obtain ⟨dl, g, o, hl⟩ := L1.at_
      refine ⟨_, rfl, l, dl, _, rfl, hl, li_none (by decide +kernel) (by decide +kernel), ?_⟩
      obtain ⟨d1, h1⟩ := id R1
      refine ⟨_, rfl, rd, d1, _, rfl, h1, rd_none (by decide +kernel) (by decide +kernel), rd, c, _, _, (t : Int), rfl, R1, hc.fix f1, at_pre (j := 1) rfl, fun H2 R2 b2 => ?_⟩
      have f2 := f1.trans (reader_fix h1 b2)
      have st2 := st1.trans b2
      exact ⟨l, M, h, t, rfl, L.stays st2 f2 (off1 nM), ok, ans_pass (i := 0) k R2 st2 nM⟩
    | keys t m =>
      refine ⟨_, rfl, rd, dr, _, rfl, hrd, rd_none (by decide +kernel) (by decide +kernel), rd, c, _, _, _, rfl, ⟨dr, hrd⟩, hc, first rfl, fun H1 R1 st1 => ?_⟩
      have f1 := reader_fix hrd st1
      refine ⟨_, rfl, rfl, _, rfl, ?_⟩
      refine ifF (decide_eq_false (by decide)) ?_
      refine ⟨_, rfl, rfl, _, rfl, ?_⟩
      refine ifF (decide_eq_false (by decide)) ?_
      refine ⟨_, rfl, rfl, _, rfl, ?_⟩
      refine ifF (decide_eq_false (by decide)) ?_
      refine ⟨_, rfl, rfl, _, rfl, ?_⟩
      refine ifF (decide_eq_false (by decide)) ?_
      refine ⟨_, rfl, rfl, _, rfl, ?_⟩
      refine ifT (decide_eq_true (by rfl)) ?_
      obtain ⟨d1, h1⟩ := id R1
      refine ⟨_, rfl, rd, d1, _, rfl, h1, rd_none (by decide +kernel) (by decide +kernel), rd, c, _, _, (t : Int), rfl, R1, hc.fix f1, at_pre (j := 1) rfl, fun H2 R2 b2 => ?_⟩
      have f2 := f1.trans (reader_fix h1 b2)
      have st2 := st1.trans b2
      have L2 := L.stays st2 f2 (off1 nM)
      obtain ⟨dl, g, o, hl⟩ := L2.at_
      refine ⟨_, rfl, l, dl, _, rfl, hl, li_none (by decide +kernel) (by decide +kernel), _, rfl, ?_⟩
      obtain ⟨d2, h2⟩ := id R2
      refine ⟨_, rfl, rd, d2, _, rfl, h2, rd_none (by decide +kernel) (by decide +kernel), rd, c, _, _, (m : Int), rfl, R2, hc.fix f2, at_pre (j := 2) rfl, fun H3 R3 b3 => ?_⟩
      have f3 := f2.trans (reader_fix h2 b3)
      have st3 := st2.trans b3
      exact ⟨l, M, h, t, m, rfl, L.stays st3 f3 (off1 nM), ok, ans_pass (i := 0) k R3 st3 nM⟩
end Pa

set_option Elab.async false
set_option linter.all false
set_option maxRecDepth 100000
set_option maxHeartbeats 2000000
namespace Pa
open PySem PySem.Spec PyProof.Rows L2
variable {P : Program} {w : PySem.World} {K : PySem.W.Frag} {mg : Str → Option Value} {base : Heap} {a : Ad} {d : Fd}
theorem calls_of {H : Hp} {c : Addr} {ns : List Int} (hO : OnlyF H) (h : SqL K H c (ns.map V.int)) : CallsAt K H c ns := by
  rcases h with (h | ⟨o, h⟩) | h
  · rcases hO c with q | ⟨o, u, q⟩
    · rw [h] at q
      cases q
    · rw [h] at q
      cases q
  · exact .inl ⟨o, h⟩
  · exact .inr h
def sp_answers (K : PySem.W.Frag) : Sp := fun vs H Q _ => ∃ (c : Addr) (ns : List Int), vs = [.ref c] ∧ CallsAt K H c ns ∧ ns.length ≤ 700 ∧ PyGe09.answers_asked ns = true ∧
  ∀ (H' : Hp) (p : Addr), H' p = some (.lst ((PyGe09.answers ns).map V.int)) → Q (.ref p) H'
theorem flat_cut (pre : List Ge09.Call) (x : Ge09.Call) (post : List Ge09.Call) : (pre ++ x :: post).flatMap PaM.enc = pre.flatMap PaM.enc ++ (PaM.enc x ++ post.flatMap PaM.enc) := by
  rw [List.flatMap_append, List.flatMap_cons]
theorem flat_next (pre : List Ge09.Call) (x : Ge09.Call) : ((pre ++ [x]).flatMap PaM.enc).length = (pre.flatMap PaM.enc).length + (PaM.enc x).length := by
  rw [List.flatMap_append, List.length_append]
  simp
theorem enc_pos (x : Ge09.Call) : 0 < (PaM.enc x).length := by cases x <;> simp [PaM.enc]
/-- what stands between two calls -/
structure Mid (K : PySem.W.Frag) (a : Ad) (H : Hp) (c l rd nu : Addr) (ns : List Int) (pre : List Ge09.Call) (M : List Addr) : Prop where
  line : LineIn K a H l M (PaM.runH Ge09.init pre)
  read : ReaderAt a H rd c (pre.flatMap PaM.enc).length
  calls : CallsAt K H c ns
  nums : H nu = some (.lst ((PaM.run Ge09.init pre).map V.int))
  n1 : rd ∉ M
  n2 : nu ∉ M
theorem nums_fix {H H' : Hp} {nu : Addr} {zs : List Int} (h : H nu = some (.lst (zs.map V.int))) (s : Stay [nu] H H') : Fix H H' := s.fix fun m hm o e => by
  rw [List.mem_singleton.mp hm, h] at e
  cases e
  exact not_ints fun v hv => by
    obtain ⟨z, _, rfl⟩ := List.mem_map.mp hv
    exact ⟨z, rfl⟩
theorem ok_answers (T : Txt K mg a d) : FnOk P w K mg base CX0 12 a.f_answers d.f_answers ["calls"] (sp_answers K) := by
  refine T.F_answers.ok sc_answers (fun vs H Q E h => ?_) (fun cdv A outer s H vs Q E hr h => ⟨_, (pss_cons (ps_set (i := 1) sc_answers.nd rfl (Or.inl rfl) (pe_make0 T.mk_Line (ok_Line_init T) (hr.mono (by decide)) (by rfl) T.g_Line T.b_Line_init .nil pass0))
    (pss_cons (ps_set (i := 2) sc_answers.nd rfl (Or.inl rfl) (pe_make T.mk_Reader (ok_Reader_init T) (hr.mono (by decide)) (by rfl) T.g_Reader T.b_Reader_init .nil pass0 (pa_cons (pv 0) pa_nil)))
    (pss_cons (ps_set (i := 3) sc_answers.nd rfl (Or.inl rfl) (pe_lst pa_nil))
    (pss_cons (ps_while PassesOwn.never (pt_val (pe_meth0 (pv 2) T.cl_Reader T.m_Reader_has_more (ok_Reader_has_more T) (hr.mono (by decide)) T.b_Reader_has_more .nil pass0)) (pss_cons (ps_set (i := 4) sc_answers.nd rfl (Or.inl rfl) (pe_call (ok_answer_next T) (hr.mono (by decide)) (by rfl) T.g_answer_next T.F_answer_next.kp T.b_answer_next .nil pass0 (pa_cons (pv 1) (pa_cons (pv 2) pa_nil))))
    (pss_cons (ps_expr (pe_bm PySem.F.plainAttrs_list PySem.F.slot_list_append PySem.F.type_list_append mt_append (pv 3) (pa_cons (pe_callB call_len_seq (by rfl) T.n_len PySem.boot_len (pa_cons (pv 4) pa_nil)) pa_nil)))
    (pss_one (ps_expr (pe_bm PySem.F.plainAttrs_list PySem.F.slot_list_extend PySem.F.type_list_extend mt_extend (pv 3) (pa_cons (pv 4) pa_nil)))))))
    (pss_one (ps_ret (pv 3))))))), ?_⟩)
  · obtain ⟨c, ns, rfl, _⟩ := h
    rfl
  · obtain ⟨c, ns, rfl, hc, h700, hask, k⟩ := h
    obtain ⟨xs, e1, rowok, e2, most⟩ := PaM.asked_calls hask
    rw [e2] at k
    -- line = Line()
    intro l dl nl ndl nel
    refine ⟨l, dl, rfl, upd_same, fun H1 M L1 st1 free1 => ⟨rfl, ?_⟩⟩
    have s1 := same_made nl ndl st1
    -- reader = Reader(calls)
    refine ⟨_, rfl, ?_⟩
    intro rd dr nrd ndr ner
    refine ⟨rd, dr, c, rfl, upd_same, fun H2 R2 st2 => ⟨rfl, ?_⟩⟩
    have s2 := same_made nrd ndr st2
    have s12 := s1.trans s2
    have L2 := L1.same s2
    have n1 : rd ∉ M := fun z => by
      obtain ⟨y, hy, _⟩ := L1.there rd z
      rw [hy] at nrd
      cases nrd
    -- numbers = []
    refine ⟨by show 0 ≤ sizeLine; decide, fun nu nnu => ?_⟩
    have s3 : Same H2 (upd H2 nu (.lst [])) := same_upd nnu
    have s13 := s12.trans s3
    have n2 : nu ∉ M := fun z => by
      obtain ⟨y, hy, _⟩ := L2.there nu z
      rw [hy] at nnu
      cases nnu
    have M3 : Mid K a (upd H2 nu (.lst [])) c l rd nu ns [] M := by
      refine ⟨L2.same s3, ?_, hc.fix (Same.fix s13), upd_same, n1, n2⟩
      obtain ⟨dx, h⟩ := R2
      exact ⟨dx, s3 _ _ h⟩
    generalize upd H2 nu (.lst []) = H3 at M3
    refine ⟨fun m σ H' => ∃ pre post v4 M, xs = pre ++ post ∧ m = post.length ∧ σ = [some (.ref c), some (.ref l), some (.ref rd), some (.ref nu), v4] ∧ Mid K a H' c l rd nu ns pre M, ⟨xs.length, [], xs, none, M, rfl, rfl, rfl, M3⟩, ?_⟩
    rintro m σ H4 ⟨pre, post, v4, M4, ex, rfl, rfl, ⟨L4, R4, C4, N4, q1, q2⟩⟩
    obtain ⟨d4, h4⟩ := id R4
    have nurd : nu ≠ rd := ne_of N4 h4 (fun q => by cases q)
    refine ⟨_, rfl, rd, d4, _, rfl, h4, rd_none (by decide +kernel) (by decide +kernel), rd, c, _, ns, rfl, R4, C4, _, rfl, ?_⟩
    cases post with
    | nil =>
      rw [List.append_nil] at ex
      subst ex
      refine ifF (decide_eq_false (by rw [← e1]; exact Nat.lt_irrefl _)) ?_
      refine ⟨_, rfl, ?_⟩
      exact k _ nu N4
    | cons x post =>
      have ens : ns = pre.flatMap PaM.enc ++ (PaM.enc x ++ post.flatMap PaM.enc) := by rw [e1, ex, flat_cut]
      have pos := enc_pos x
      refine ifT (decide_eq_true (by rw [ens]; simp only [List.length_append]; omega)) ?_
      refine ⟨fun σ' H' => ∃ v4 M, σ' = [some (.ref c), some (.ref l), some (.ref rd), some (.ref nu), v4] ∧ Mid K a H' c l rd nu ns (pre ++ [x]) M, fun σ' H' ⟨v5, M5, hσ, hM⟩ => ⟨post.length, by simp, pre ++ [x], post, v5, M5, by rw [ex, List.append_assoc]; rfl, rfl, hσ, hM⟩, ?_⟩
      have hx : x ∈ xs := by rw [ex]; simp
      refine ⟨_, rfl, _, rfl, l, rd, c, M4, PaM.runH Ge09.init pre, x, pre.flatMap PaM.enc, post.flatMap PaM.enc, rfl, L4, PaM.runH_ok _ _ PaM.init_ok, R4, ens ▸ C4, rowok x hx, q1, fun H5 p M5 L5 R5 st5 sub np hp => ?_⟩
      have f5 : Fix H4 H5 := st5.fix fun m hm o e => by
        rcases List.mem_cons.mp hm with z | z
        · rw [z, h4] at e
          cases e
          exact not_reader
        · obtain ⟨y, hy, n⟩ := L4.there m z
          rw [hy] at e
          cases e
          exact n
      have N5 : H5 nu = _ := st5 _ _ N4 fun z => by
        rcases List.mem_cons.mp z with z | z
        · exact nurd z
        · exact q2 z
      have pnu : p ≠ nu := (ne_of_none N4 np).symm
      have q1' : rd ∉ M5 := fun z => by
        rcases sub rd z with y | y
        · exact q1 y
        · rw [h4] at y
          cases y
      have q2' : nu ∉ M5 := fun z => by
        rcases sub nu z with y | y
        · exact q2 y
        · rw [N4] at y
          cases y
      -- how long the list may come to be
      have bound : (PaM.run Ge09.init pre).length + 1 + (Ge09.step (PaM.runH Ge09.init pre) x).2.length ≤ 10000000 := by
        have h1 := PaM.run_app (pre ++ [x]) post Ge09.init
        rw [List.append_assoc] at h1
        have h2 : xs = pre ++ ([x] ++ post) := ex
        rw [← h2] at h1
        rw [h1, List.length_append, PaM.run_more] at most
        simp only [List.length_append, List.length_cons] at most
        omega
      -- numbers.append(len(answer))
      refine ⟨_, rfl, .inl ⟨rfl, _, SqL.of N5⟩, _, rfl, p, _, rfl, .inl (SqL.of hp), nu, _, _, rfl, rfl, N5, smaller (by rw [List.length_map]; omega), ?_⟩
      have st6 : Stay [nu] H5 (upd H5 nu (.lst ((PaM.run Ge09.init pre).map V.int ++ [V.int (((Ge09.step (PaM.runH Ge09.init pre) x).2.map V.int).length : Nat)]))) := stay_upd
      have e6 : (PaM.run Ge09.init pre).map V.int ++ [V.int (((Ge09.step (PaM.runH Ge09.init pre) x).2.map V.int).length : Nat)] = (PaM.run Ge09.init pre ++ [((Ge09.step (PaM.runH Ge09.init pre) x).2.length : Int)]).map V.int := by
        rw [List.map_append, List.length_map]
        rfl
      rw [e6] at st6 ⊢
      have f6 := nums_fix N5 st6
      have N6 : upd H5 nu (.lst ((PaM.run Ge09.init pre ++ [((Ge09.step (PaM.runH Ge09.init pre) x).2.length : Int)]).map V.int)) nu = some (.lst ((PaM.run Ge09.init pre ++ [((Ge09.step (PaM.runH Ge09.init pre) x).2.length : Int)]).map V.int)) := upd_same
      have p6 : upd H5 nu (.lst ((PaM.run Ge09.init pre ++ [((Ge09.step (PaM.runH Ge09.init pre) x).2.length : Int)]).map V.int)) p = _ := (upd_ne pnu).trans hp
      generalize upd H5 nu (.lst ((PaM.run Ge09.init pre ++ [((Ge09.step (PaM.runH Ge09.init pre) x).2.length : Int)]).map V.int)) = H6 at st6 f6 N6 p6
      -- numbers.extend(answer)
      refine ⟨_, rfl, .inl ⟨rfl, _, SqL.of N6⟩, _, rfl, nu, p, _, _, rfl, rfl, N6, p6, small (by simp only [List.length_map, List.length_append, List.length_singleton]; omega), ?_⟩
      rw [← List.map_append]
      have st7 : Stay [nu] H6 (upd H6 nu (.lst ((PaM.run Ge09.init pre ++ [((Ge09.step (PaM.runH Ge09.init pre) x).2.length : Int)] ++ (Ge09.step (PaM.runH Ge09.init pre) x).2).map V.int))) := stay_upd
      have f7 := nums_fix N6 st7
      have f57 := f6.trans f7
      have st57 := st6.trans st7
      refine ⟨_, M5, rfl, ?_, ?_, (C4.fix f5).fix f57, ?_, q1', q2'⟩
      · rw [PaM.runH_more]
        exact L5.stays st57 f57 (off1 q2')
      · rw [flat_next]
        exact R5.stays st57 fun z => nurd (List.mem_singleton.mp z).symm
      · rw [upd_same, PaM.run_more, List.append_assoc]
        rfl
end Pa

set_option Elab.async false
set_option linter.all false
set_option maxRecDepth 100000
set_option maxHeartbeats 2000000
namespace Pa
open PySem PySem.Spec PyProof.Rows L2
theorem txt_mk {K : PySem.W.Frag} {h : Heap} {mg : Str → Option Value} {c_Player c_World c_State c_Recording c_Line c_Reader f_Player_init f_World_init f_first_world f_next_luck f_column_or_row f_is_key f_place_ahead f_with_player f_after_key f_after_tick f_world_numbers f_numbers_with_luck f_are_alike f_world_sum f_State_init f_which_state_goes f_Recording_init f_Recording_ticks f_Recording_twin f_Recording_state_ahead f_Recording_world_from f_Recording_world_at f_Recording_all_worlds f_Recording_record f_Recording_keep f_Recording_forget_behind f_Recording_forget_states_behind f_Recording_press_otherwise f_are_keys_of f_Line_init f_Line_begins f_Line_press f_Line_hold f_Line_seek f_Line_cut f_Line_put_by f_Line_swap f_Line_differ f_Line_kept f_Line_sum_at f_Line_keys_behind f_Line_spoil f_Reader_init f_Reader_has_more f_Reader_number f_Reader_row f_answer_change f_answer_next f_answers t_FIRST_COIN t_STEPS t_STEPS_0 t_STEPS_1 t_STEPS_2 t_STEPS_3 t_STEPS_4 : Addr} (X : K.In h) (G : h.Ns mainGlobals mg)
    {od_Player_init an_Player_init : Option Addr} {sl_Player_init : Array (Option Value)} {oc_Player_init kV_Player_init dc_Player_init pm_Player_init cd_Player_init ct_Player_init : Value}
    {od_World_init an_World_init : Option Addr} {sl_World_init : Array (Option Value)} {oc_World_init kV_World_init dc_World_init pm_World_init cd_World_init ct_World_init : Value}
    {od_first_world an_first_world : Option Addr} {sl_first_world : Array (Option Value)} {oc_first_world kV_first_world dc_first_world pm_first_world cd_first_world ct_first_world : Value}
    {od_next_luck an_next_luck : Option Addr} {sl_next_luck : Array (Option Value)} {oc_next_luck kV_next_luck dc_next_luck pm_next_luck cd_next_luck ct_next_luck : Value}
    {od_column_or_row an_column_or_row : Option Addr} {sl_column_or_row : Array (Option Value)} {oc_column_or_row kV_column_or_row dc_column_or_row pm_column_or_row cd_column_or_row ct_column_or_row : Value}
    {od_is_key an_is_key : Option Addr} {sl_is_key : Array (Option Value)} {oc_is_key kV_is_key dc_is_key pm_is_key cd_is_key ct_is_key : Value}
    {od_place_ahead an_place_ahead : Option Addr} {sl_place_ahead : Array (Option Value)} {oc_place_ahead kV_place_ahead dc_place_ahead pm_place_ahead cd_place_ahead ct_place_ahead : Value}
    {od_with_player an_with_player : Option Addr} {sl_with_player : Array (Option Value)} {oc_with_player kV_with_player dc_with_player pm_with_player cd_with_player ct_with_player : Value}
    {od_after_key an_after_key : Option Addr} {sl_after_key : Array (Option Value)} {oc_after_key kV_after_key dc_after_key pm_after_key cd_after_key ct_after_key : Value}
    {od_after_tick an_after_tick : Option Addr} {sl_after_tick : Array (Option Value)} {oc_after_tick kV_after_tick dc_after_tick pm_after_tick cd_after_tick ct_after_tick : Value}
    {od_world_numbers an_world_numbers : Option Addr} {sl_world_numbers : Array (Option Value)} {oc_world_numbers kV_world_numbers dc_world_numbers pm_world_numbers cd_world_numbers ct_world_numbers : Value}
    {od_numbers_with_luck an_numbers_with_luck : Option Addr} {sl_numbers_with_luck : Array (Option Value)} {oc_numbers_with_luck kV_numbers_with_luck dc_numbers_with_luck pm_numbers_with_luck cd_numbers_with_luck ct_numbers_with_luck : Value}
    {od_are_alike an_are_alike : Option Addr} {sl_are_alike : Array (Option Value)} {oc_are_alike kV_are_alike dc_are_alike pm_are_alike cd_are_alike ct_are_alike : Value}
    {od_world_sum an_world_sum : Option Addr} {sl_world_sum : Array (Option Value)} {oc_world_sum kV_world_sum dc_world_sum pm_world_sum cd_world_sum ct_world_sum : Value}
    {od_State_init an_State_init : Option Addr} {sl_State_init : Array (Option Value)} {oc_State_init kV_State_init dc_State_init pm_State_init cd_State_init ct_State_init : Value}
    {od_which_state_goes an_which_state_goes : Option Addr} {sl_which_state_goes : Array (Option Value)} {oc_which_state_goes kV_which_state_goes dc_which_state_goes pm_which_state_goes cd_which_state_goes ct_which_state_goes : Value}
    {od_Recording_init an_Recording_init : Option Addr} {sl_Recording_init : Array (Option Value)} {oc_Recording_init kV_Recording_init dc_Recording_init pm_Recording_init cd_Recording_init ct_Recording_init : Value}
    {od_Recording_ticks an_Recording_ticks : Option Addr} {sl_Recording_ticks : Array (Option Value)} {oc_Recording_ticks kV_Recording_ticks dc_Recording_ticks pm_Recording_ticks cd_Recording_ticks ct_Recording_ticks : Value}
    {od_Recording_twin an_Recording_twin : Option Addr} {sl_Recording_twin : Array (Option Value)} {oc_Recording_twin kV_Recording_twin dc_Recording_twin pm_Recording_twin cd_Recording_twin ct_Recording_twin : Value}
    {od_Recording_state_ahead an_Recording_state_ahead : Option Addr} {sl_Recording_state_ahead : Array (Option Value)} {oc_Recording_state_ahead kV_Recording_state_ahead dc_Recording_state_ahead pm_Recording_state_ahead cd_Recording_state_ahead ct_Recording_state_ahead : Value}
    {od_Recording_world_from an_Recording_world_from : Option Addr} {sl_Recording_world_from : Array (Option Value)} {oc_Recording_world_from kV_Recording_world_from dc_Recording_world_from pm_Recording_world_from cd_Recording_world_from ct_Recording_world_from : Value}
    {od_Recording_world_at an_Recording_world_at : Option Addr} {sl_Recording_world_at : Array (Option Value)} {oc_Recording_world_at kV_Recording_world_at dc_Recording_world_at pm_Recording_world_at cd_Recording_world_at ct_Recording_world_at : Value}
    {od_Recording_all_worlds an_Recording_all_worlds : Option Addr} {sl_Recording_all_worlds : Array (Option Value)} {oc_Recording_all_worlds kV_Recording_all_worlds dc_Recording_all_worlds pm_Recording_all_worlds cd_Recording_all_worlds ct_Recording_all_worlds : Value}
    {od_Recording_record an_Recording_record : Option Addr} {sl_Recording_record : Array (Option Value)} {oc_Recording_record kV_Recording_record dc_Recording_record pm_Recording_record cd_Recording_record ct_Recording_record : Value}
    {od_Recording_keep an_Recording_keep : Option Addr} {sl_Recording_keep : Array (Option Value)} {oc_Recording_keep kV_Recording_keep dc_Recording_keep pm_Recording_keep cd_Recording_keep ct_Recording_keep : Value}
    {od_Recording_forget_behind an_Recording_forget_behind : Option Addr} {sl_Recording_forget_behind : Array (Option Value)} {oc_Recording_forget_behind kV_Recording_forget_behind dc_Recording_forget_behind pm_Recording_forget_behind cd_Recording_forget_behind ct_Recording_forget_behind : Value}
    {od_Recording_forget_states_behind an_Recording_forget_states_behind : Option Addr} {sl_Recording_forget_states_behind : Array (Option Value)} {oc_Recording_forget_states_behind kV_Recording_forget_states_behind dc_Recording_forget_states_behind pm_Recording_forget_states_behind cd_Recording_forget_states_behind ct_Recording_forget_states_behind : Value}
    {od_Recording_press_otherwise an_Recording_press_otherwise : Option Addr} {sl_Recording_press_otherwise : Array (Option Value)} {oc_Recording_press_otherwise kV_Recording_press_otherwise dc_Recording_press_otherwise pm_Recording_press_otherwise cd_Recording_press_otherwise ct_Recording_press_otherwise : Value}
    {od_are_keys_of an_are_keys_of : Option Addr} {sl_are_keys_of : Array (Option Value)} {oc_are_keys_of kV_are_keys_of dc_are_keys_of pm_are_keys_of cd_are_keys_of ct_are_keys_of : Value}
    {od_Line_init an_Line_init : Option Addr} {sl_Line_init : Array (Option Value)} {oc_Line_init kV_Line_init dc_Line_init pm_Line_init cd_Line_init ct_Line_init : Value}
    {od_Line_begins an_Line_begins : Option Addr} {sl_Line_begins : Array (Option Value)} {oc_Line_begins kV_Line_begins dc_Line_begins pm_Line_begins cd_Line_begins ct_Line_begins : Value}
    {od_Line_press an_Line_press : Option Addr} {sl_Line_press : Array (Option Value)} {oc_Line_press kV_Line_press dc_Line_press pm_Line_press cd_Line_press ct_Line_press : Value}
    {od_Line_hold an_Line_hold : Option Addr} {sl_Line_hold : Array (Option Value)} {oc_Line_hold kV_Line_hold dc_Line_hold pm_Line_hold cd_Line_hold ct_Line_hold : Value}
    {od_Line_seek an_Line_seek : Option Addr} {sl_Line_seek : Array (Option Value)} {oc_Line_seek kV_Line_seek dc_Line_seek pm_Line_seek cd_Line_seek ct_Line_seek : Value}
    {od_Line_cut an_Line_cut : Option Addr} {sl_Line_cut : Array (Option Value)} {oc_Line_cut kV_Line_cut dc_Line_cut pm_Line_cut cd_Line_cut ct_Line_cut : Value}
    {od_Line_put_by an_Line_put_by : Option Addr} {sl_Line_put_by : Array (Option Value)} {oc_Line_put_by kV_Line_put_by dc_Line_put_by pm_Line_put_by cd_Line_put_by ct_Line_put_by : Value}
    {od_Line_swap an_Line_swap : Option Addr} {sl_Line_swap : Array (Option Value)} {oc_Line_swap kV_Line_swap dc_Line_swap pm_Line_swap cd_Line_swap ct_Line_swap : Value}
    {od_Line_differ an_Line_differ : Option Addr} {sl_Line_differ : Array (Option Value)} {oc_Line_differ kV_Line_differ dc_Line_differ pm_Line_differ cd_Line_differ ct_Line_differ : Value}
    {od_Line_kept an_Line_kept : Option Addr} {sl_Line_kept : Array (Option Value)} {oc_Line_kept kV_Line_kept dc_Line_kept pm_Line_kept cd_Line_kept ct_Line_kept : Value}
    {od_Line_sum_at an_Line_sum_at : Option Addr} {sl_Line_sum_at : Array (Option Value)} {oc_Line_sum_at kV_Line_sum_at dc_Line_sum_at pm_Line_sum_at cd_Line_sum_at ct_Line_sum_at : Value}
    {od_Line_keys_behind an_Line_keys_behind : Option Addr} {sl_Line_keys_behind : Array (Option Value)} {oc_Line_keys_behind kV_Line_keys_behind dc_Line_keys_behind pm_Line_keys_behind cd_Line_keys_behind ct_Line_keys_behind : Value}
    {od_Line_spoil an_Line_spoil : Option Addr} {sl_Line_spoil : Array (Option Value)} {oc_Line_spoil kV_Line_spoil dc_Line_spoil pm_Line_spoil cd_Line_spoil ct_Line_spoil : Value}
    {od_Reader_init an_Reader_init : Option Addr} {sl_Reader_init : Array (Option Value)} {oc_Reader_init kV_Reader_init dc_Reader_init pm_Reader_init cd_Reader_init ct_Reader_init : Value}
    {od_Reader_has_more an_Reader_has_more : Option Addr} {sl_Reader_has_more : Array (Option Value)} {oc_Reader_has_more kV_Reader_has_more dc_Reader_has_more pm_Reader_has_more cd_Reader_has_more ct_Reader_has_more : Value}
    {od_Reader_number an_Reader_number : Option Addr} {sl_Reader_number : Array (Option Value)} {oc_Reader_number kV_Reader_number dc_Reader_number pm_Reader_number cd_Reader_number ct_Reader_number : Value}
    {od_Reader_row an_Reader_row : Option Addr} {sl_Reader_row : Array (Option Value)} {oc_Reader_row kV_Reader_row dc_Reader_row pm_Reader_row cd_Reader_row ct_Reader_row : Value}
    {od_answer_change an_answer_change : Option Addr} {sl_answer_change : Array (Option Value)} {oc_answer_change kV_answer_change dc_answer_change pm_answer_change cd_answer_change ct_answer_change : Value}
    {od_answer_next an_answer_next : Option Addr} {sl_answer_next : Array (Option Value)} {oc_answer_next kV_answer_next dc_answer_next pm_answer_next cd_answer_next ct_answer_next : Value}
    {od_answers an_answers : Option Addr} {sl_answers : Array (Option Value)} {oc_answers kV_answers dc_answers pm_answers cd_answers ct_answers : Value}
    {tk_FIELD_SIZE : Tok}
    {tk_LUCK_RANGE : Tok}
    {tk_LUCK_PER_PLACE : Tok}
    {tk_SUM_RANGE : Tok}
    {tk_MOST_STATES : Tok}
    {tk_TICKS_PER_STATE : Tok}
    {tk_MOST_PLAYERS : Tok}
    {tk_MOST_TICKS : Tok}
    {tk_NOT_ALLOWED : Tok}
    {tk_NO_SUCH_TICK : Tok}
    {tk_TOO_MANY_TICKS : Tok}
    {tk_ALIKE : Tok}
    {tk_BEGINS : Tok}
    {tk_PRESS : Tok}
    {tk_HOLD : Tok}
    {tk_SEEK : Tok}
    {tk_CUT : Tok}
    {tk_PUT_BY : Tok}
    {tk_SWAP : Tok}
    {tk_DIFFER : Tok}
    {tk_KEPT : Tok}
    {tk_SUM_AT : Tok}
    {tk_KEYS : Tok}
    {tk_SPOIL : Tok}
    {tk_FIRST_COIN_0 : Tok}
    {tk_FIRST_COIN_1 : Tok}
    {od_FIRST_COIN : Option Addr} {sl_FIRST_COIN : Array (Option Value)} {nn_FIRST_COIN : Nat}
    {od_STEPS : Option Addr} {sl_STEPS : Array (Option Value)} {nn_STEPS : Nat}
    {tk_STEPS_0_0 : Tok}
    {tk_STEPS_0_1 : Tok}
    {od_STEPS_0 : Option Addr} {sl_STEPS_0 : Array (Option Value)} {nn_STEPS_0 : Nat}
    {tk_STEPS_1_0 : Tok}
    {tk_STEPS_1_1 : Tok}
    {od_STEPS_1 : Option Addr} {sl_STEPS_1 : Array (Option Value)} {nn_STEPS_1 : Nat}
    {tk_STEPS_2_0 : Tok}
    {tk_STEPS_2_1 : Tok}
    {od_STEPS_2 : Option Addr} {sl_STEPS_2 : Array (Option Value)} {nn_STEPS_2 : Nat}
    {tk_STEPS_3_0 : Tok}
    {tk_STEPS_3_1 : Tok}
    {od_STEPS_3 : Option Addr} {sl_STEPS_3 : Array (Option Value)} {nn_STEPS_3 : Nat}
    {tk_STEPS_4_0 : Tok}
    {tk_STEPS_4_1 : Tok}
    {od_STEPS_4 : Option Addr} {sl_STEPS_4 : Array (Option Value)} {nn_STEPS_4 : Nat}
    (g_Player : PySem.W.nsIn K mainGlobals "Player" = some (some (.ref c_Player)))
    (pg_Player : PySem.W.plainGet K c_Player Str.empty = true)
    (hd_Player : PySem.W.hasDictIn K c_Player = true)
    (po_Player : PySem.W.plainOver K c_Player = true)
    (sa_Player : PySem.W.findIn K (.ref c_Player) "__setattr__" = some (some (.builtin "object.__setattr__")))
    (mk_Player : PySem.W.makesIn K c_Player = true)
    (kc_Player : PySem.W.keepIn K (.ref c_Player) = true)
    (na_Player_place : PySem.W.findIn K (.ref c_Player) "place" = some none)
    (na_Player_points : PySem.W.findIn K (.ref c_Player) "points" = some none)
    (g_World : PySem.W.nsIn K mainGlobals "World" = some (some (.ref c_World)))
    (pg_World : PySem.W.plainGet K c_World Str.empty = true)
    (hd_World : PySem.W.hasDictIn K c_World = true)
    (po_World : PySem.W.plainOver K c_World = true)
    (sa_World : PySem.W.findIn K (.ref c_World) "__setattr__" = some (some (.builtin "object.__setattr__")))
    (mk_World : PySem.W.makesIn K c_World = true)
    (kc_World : PySem.W.keepIn K (.ref c_World) = true)
    (na_World_players : PySem.W.findIn K (.ref c_World) "players" = some none)
    (na_World_coin : PySem.W.findIn K (.ref c_World) "coin" = some none)
    (na_World_luck : PySem.W.findIn K (.ref c_World) "luck" = some none)
    (g_State : PySem.W.nsIn K mainGlobals "State" = some (some (.ref c_State)))
    (pg_State : PySem.W.plainGet K c_State Str.empty = true)
    (hd_State : PySem.W.hasDictIn K c_State = true)
    (po_State : PySem.W.plainOver K c_State = true)
    (sa_State : PySem.W.findIn K (.ref c_State) "__setattr__" = some (some (.builtin "object.__setattr__")))
    (mk_State : PySem.W.makesIn K c_State = true)
    (kc_State : PySem.W.keepIn K (.ref c_State) = true)
    (na_State_tick : PySem.W.findIn K (.ref c_State) "tick" = some none)
    (na_State_world : PySem.W.findIn K (.ref c_State) "world" = some none)
    (g_Recording : PySem.W.nsIn K mainGlobals "Recording" = some (some (.ref c_Recording)))
    (pg_Recording : PySem.W.plainGet K c_Recording Str.empty = true)
    (hd_Recording : PySem.W.hasDictIn K c_Recording = true)
    (po_Recording : PySem.W.plainOver K c_Recording = true)
    (sa_Recording : PySem.W.findIn K (.ref c_Recording) "__setattr__" = some (some (.builtin "object.__setattr__")))
    (mk_Recording : PySem.W.makesIn K c_Recording = true)
    (kc_Recording : PySem.W.keepIn K (.ref c_Recording) = true)
    (na_Recording_how_many : PySem.W.findIn K (.ref c_Recording) "how_many" = some none)
    (na_Recording_seed : PySem.W.findIn K (.ref c_Recording) "seed" = some none)
    (na_Recording_presses : PySem.W.findIn K (.ref c_Recording) "presses" = some none)
    (na_Recording_states : PySem.W.findIn K (.ref c_Recording) "states" = some none)
    (g_Line : PySem.W.nsIn K mainGlobals "Line" = some (some (.ref c_Line)))
    (pg_Line : PySem.W.plainGet K c_Line Str.empty = true)
    (hd_Line : PySem.W.hasDictIn K c_Line = true)
    (po_Line : PySem.W.plainOver K c_Line = true)
    (sa_Line : PySem.W.findIn K (.ref c_Line) "__setattr__" = some (some (.builtin "object.__setattr__")))
    (mk_Line : PySem.W.makesIn K c_Line = true)
    (kc_Line : PySem.W.keepIn K (.ref c_Line) = true)
    (na_Line_going : PySem.W.findIn K (.ref c_Line) "going" = some none)
    (na_Line_aside : PySem.W.findIn K (.ref c_Line) "aside" = some none)
    (g_Reader : PySem.W.nsIn K mainGlobals "Reader" = some (some (.ref c_Reader)))
    (pg_Reader : PySem.W.plainGet K c_Reader Str.empty = true)
    (hd_Reader : PySem.W.hasDictIn K c_Reader = true)
    (po_Reader : PySem.W.plainOver K c_Reader = true)
    (sa_Reader : PySem.W.findIn K (.ref c_Reader) "__setattr__" = some (some (.builtin "object.__setattr__")))
    (mk_Reader : PySem.W.makesIn K c_Reader = true)
    (kc_Reader : PySem.W.keepIn K (.ref c_Reader) = true)
    (na_Reader_numbers : PySem.W.findIn K (.ref c_Reader) "numbers" = some none)
    (na_Reader_at : PySem.W.findIn K (.ref c_Reader) "at" = some none)
    (m_Player_init : PySem.W.findIn K (.ref c_Player) "__init__" = some (some (.ref f_Player_init)))
    (i_Player_init : PySem.W.isFn K (.ref f_Player_init) = true)
    (l_Player_init : K.lookup f_Player_init = some ⟨oc_Player_init, od_Player_init, .func (PySem.W.fnOf "__init__" "Player.__init__" (defArgs s_Player_init) (defBody s_Player_init) (defScope s_Player_init) .none kV_Player_init dc_Player_init pm_Player_init an_Player_init cd_Player_init ct_Player_init), sl_Player_init⟩)
    (x_Player_init : PySem.W.codeIn K cd_Player_init "Player.__init__" = true)
    (k_Player_init : PySem.W.keepIn K (.ref f_Player_init) = true)
    (m_World_init : PySem.W.findIn K (.ref c_World) "__init__" = some (some (.ref f_World_init)))
    (i_World_init : PySem.W.isFn K (.ref f_World_init) = true)
    (l_World_init : K.lookup f_World_init = some ⟨oc_World_init, od_World_init, .func (PySem.W.fnOf "__init__" "World.__init__" (defArgs s_World_init) (defBody s_World_init) (defScope s_World_init) .none kV_World_init dc_World_init pm_World_init an_World_init cd_World_init ct_World_init), sl_World_init⟩)
    (x_World_init : PySem.W.codeIn K cd_World_init "World.__init__" = true)
    (k_World_init : PySem.W.keepIn K (.ref f_World_init) = true)
    (m_first_world : PySem.W.nsIn K mainGlobals "first_world" = some (some (.ref f_first_world)))
    (l_first_world : K.lookup f_first_world = some ⟨oc_first_world, od_first_world, .func (PySem.W.fnOf "first_world" "first_world" (defArgs s_first_world) (defBody s_first_world) (defScope s_first_world) .none kV_first_world dc_first_world pm_first_world an_first_world cd_first_world ct_first_world), sl_first_world⟩)
    (x_first_world : PySem.W.codeIn K cd_first_world "first_world" = true)
    (k_first_world : PySem.W.keepIn K (.ref f_first_world) = true)
    (m_next_luck : PySem.W.nsIn K mainGlobals "next_luck" = some (some (.ref f_next_luck)))
    (l_next_luck : K.lookup f_next_luck = some ⟨oc_next_luck, od_next_luck, .func (PySem.W.fnOf "next_luck" "next_luck" (defArgs s_next_luck) (defBody s_next_luck) (defScope s_next_luck) .none kV_next_luck dc_next_luck pm_next_luck an_next_luck cd_next_luck ct_next_luck), sl_next_luck⟩)
    (x_next_luck : PySem.W.codeIn K cd_next_luck "next_luck" = true)
    (k_next_luck : PySem.W.keepIn K (.ref f_next_luck) = true)
    (m_column_or_row : PySem.W.nsIn K mainGlobals "column_or_row" = some (some (.ref f_column_or_row)))
    (l_column_or_row : K.lookup f_column_or_row = some ⟨oc_column_or_row, od_column_or_row, .func (PySem.W.fnOf "column_or_row" "column_or_row" (defArgs s_column_or_row) (defBody s_column_or_row) (defScope s_column_or_row) .none kV_column_or_row dc_column_or_row pm_column_or_row an_column_or_row cd_column_or_row ct_column_or_row), sl_column_or_row⟩)
    (x_column_or_row : PySem.W.codeIn K cd_column_or_row "column_or_row" = true)
    (k_column_or_row : PySem.W.keepIn K (.ref f_column_or_row) = true)
    (m_is_key : PySem.W.nsIn K mainGlobals "is_key" = some (some (.ref f_is_key)))
    (l_is_key : K.lookup f_is_key = some ⟨oc_is_key, od_is_key, .func (PySem.W.fnOf "is_key" "is_key" (defArgs s_is_key) (defBody s_is_key) (defScope s_is_key) .none kV_is_key dc_is_key pm_is_key an_is_key cd_is_key ct_is_key), sl_is_key⟩)
    (x_is_key : PySem.W.codeIn K cd_is_key "is_key" = true)
    (k_is_key : PySem.W.keepIn K (.ref f_is_key) = true)
    (m_place_ahead : PySem.W.nsIn K mainGlobals "place_ahead" = some (some (.ref f_place_ahead)))
    (l_place_ahead : K.lookup f_place_ahead = some ⟨oc_place_ahead, od_place_ahead, .func (PySem.W.fnOf "place_ahead" "place_ahead" (defArgs s_place_ahead) (defBody s_place_ahead) (defScope s_place_ahead) .none kV_place_ahead dc_place_ahead pm_place_ahead an_place_ahead cd_place_ahead ct_place_ahead), sl_place_ahead⟩)
    (x_place_ahead : PySem.W.codeIn K cd_place_ahead "place_ahead" = true)
    (k_place_ahead : PySem.W.keepIn K (.ref f_place_ahead) = true)
    (m_with_player : PySem.W.nsIn K mainGlobals "with_player" = some (some (.ref f_with_player)))
    (l_with_player : K.lookup f_with_player = some ⟨oc_with_player, od_with_player, .func (PySem.W.fnOf "with_player" "with_player" (defArgs s_with_player) (defBody s_with_player) (defScope s_with_player) .none kV_with_player dc_with_player pm_with_player an_with_player cd_with_player ct_with_player), sl_with_player⟩)
    (x_with_player : PySem.W.codeIn K cd_with_player "with_player" = true)
    (k_with_player : PySem.W.keepIn K (.ref f_with_player) = true)
    (m_after_key : PySem.W.nsIn K mainGlobals "after_key" = some (some (.ref f_after_key)))
    (l_after_key : K.lookup f_after_key = some ⟨oc_after_key, od_after_key, .func (PySem.W.fnOf "after_key" "after_key" (defArgs s_after_key) (defBody s_after_key) (defScope s_after_key) .none kV_after_key dc_after_key pm_after_key an_after_key cd_after_key ct_after_key), sl_after_key⟩)
    (x_after_key : PySem.W.codeIn K cd_after_key "after_key" = true)
    (k_after_key : PySem.W.keepIn K (.ref f_after_key) = true)
    (m_after_tick : PySem.W.nsIn K mainGlobals "after_tick" = some (some (.ref f_after_tick)))
    (l_after_tick : K.lookup f_after_tick = some ⟨oc_after_tick, od_after_tick, .func (PySem.W.fnOf "after_tick" "after_tick" (defArgs s_after_tick) (defBody s_after_tick) (defScope s_after_tick) .none kV_after_tick dc_after_tick pm_after_tick an_after_tick cd_after_tick ct_after_tick), sl_after_tick⟩)
    (x_after_tick : PySem.W.codeIn K cd_after_tick "after_tick" = true)
    (k_after_tick : PySem.W.keepIn K (.ref f_after_tick) = true)
    (m_world_numbers : PySem.W.nsIn K mainGlobals "world_numbers" = some (some (.ref f_world_numbers)))
    (l_world_numbers : K.lookup f_world_numbers = some ⟨oc_world_numbers, od_world_numbers, .func (PySem.W.fnOf "world_numbers" "world_numbers" (defArgs s_world_numbers) (defBody s_world_numbers) (defScope s_world_numbers) .none kV_world_numbers dc_world_numbers pm_world_numbers an_world_numbers cd_world_numbers ct_world_numbers), sl_world_numbers⟩)
    (x_world_numbers : PySem.W.codeIn K cd_world_numbers "world_numbers" = true)
    (k_world_numbers : PySem.W.keepIn K (.ref f_world_numbers) = true)
    (m_numbers_with_luck : PySem.W.nsIn K mainGlobals "numbers_with_luck" = some (some (.ref f_numbers_with_luck)))
    (l_numbers_with_luck : K.lookup f_numbers_with_luck = some ⟨oc_numbers_with_luck, od_numbers_with_luck, .func (PySem.W.fnOf "numbers_with_luck" "numbers_with_luck" (defArgs s_numbers_with_luck) (defBody s_numbers_with_luck) (defScope s_numbers_with_luck) .none kV_numbers_with_luck dc_numbers_with_luck pm_numbers_with_luck an_numbers_with_luck cd_numbers_with_luck ct_numbers_with_luck), sl_numbers_with_luck⟩)
    (x_numbers_with_luck : PySem.W.codeIn K cd_numbers_with_luck "numbers_with_luck" = true)
    (k_numbers_with_luck : PySem.W.keepIn K (.ref f_numbers_with_luck) = true)
    (m_are_alike : PySem.W.nsIn K mainGlobals "are_alike" = some (some (.ref f_are_alike)))
    (l_are_alike : K.lookup f_are_alike = some ⟨oc_are_alike, od_are_alike, .func (PySem.W.fnOf "are_alike" "are_alike" (defArgs s_are_alike) (defBody s_are_alike) (defScope s_are_alike) .none kV_are_alike dc_are_alike pm_are_alike an_are_alike cd_are_alike ct_are_alike), sl_are_alike⟩)
    (x_are_alike : PySem.W.codeIn K cd_are_alike "are_alike" = true)
    (k_are_alike : PySem.W.keepIn K (.ref f_are_alike) = true)
    (m_world_sum : PySem.W.nsIn K mainGlobals "world_sum" = some (some (.ref f_world_sum)))
    (l_world_sum : K.lookup f_world_sum = some ⟨oc_world_sum, od_world_sum, .func (PySem.W.fnOf "world_sum" "world_sum" (defArgs s_world_sum) (defBody s_world_sum) (defScope s_world_sum) .none kV_world_sum dc_world_sum pm_world_sum an_world_sum cd_world_sum ct_world_sum), sl_world_sum⟩)
    (x_world_sum : PySem.W.codeIn K cd_world_sum "world_sum" = true)
    (k_world_sum : PySem.W.keepIn K (.ref f_world_sum) = true)
    (m_State_init : PySem.W.findIn K (.ref c_State) "__init__" = some (some (.ref f_State_init)))
    (i_State_init : PySem.W.isFn K (.ref f_State_init) = true)
    (l_State_init : K.lookup f_State_init = some ⟨oc_State_init, od_State_init, .func (PySem.W.fnOf "__init__" "State.__init__" (defArgs s_State_init) (defBody s_State_init) (defScope s_State_init) .none kV_State_init dc_State_init pm_State_init an_State_init cd_State_init ct_State_init), sl_State_init⟩)
    (x_State_init : PySem.W.codeIn K cd_State_init "State.__init__" = true)
    (k_State_init : PySem.W.keepIn K (.ref f_State_init) = true)
    (m_which_state_goes : PySem.W.nsIn K mainGlobals "which_state_goes" = some (some (.ref f_which_state_goes)))
    (l_which_state_goes : K.lookup f_which_state_goes = some ⟨oc_which_state_goes, od_which_state_goes, .func (PySem.W.fnOf "which_state_goes" "which_state_goes" (defArgs s_which_state_goes) (defBody s_which_state_goes) (defScope s_which_state_goes) .none kV_which_state_goes dc_which_state_goes pm_which_state_goes an_which_state_goes cd_which_state_goes ct_which_state_goes), sl_which_state_goes⟩)
    (x_which_state_goes : PySem.W.codeIn K cd_which_state_goes "which_state_goes" = true)
    (k_which_state_goes : PySem.W.keepIn K (.ref f_which_state_goes) = true)
    (m_Recording_init : PySem.W.findIn K (.ref c_Recording) "__init__" = some (some (.ref f_Recording_init)))
    (i_Recording_init : PySem.W.isFn K (.ref f_Recording_init) = true)
    (l_Recording_init : K.lookup f_Recording_init = some ⟨oc_Recording_init, od_Recording_init, .func (PySem.W.fnOf "__init__" "Recording.__init__" (defArgs s_Recording_init) (defBody s_Recording_init) (defScope s_Recording_init) .none kV_Recording_init dc_Recording_init pm_Recording_init an_Recording_init cd_Recording_init ct_Recording_init), sl_Recording_init⟩)
    (x_Recording_init : PySem.W.codeIn K cd_Recording_init "Recording.__init__" = true)
    (k_Recording_init : PySem.W.keepIn K (.ref f_Recording_init) = true)
    (m_Recording_ticks : PySem.W.findIn K (.ref c_Recording) "ticks" = some (some (.ref f_Recording_ticks)))
    (i_Recording_ticks : PySem.W.isFn K (.ref f_Recording_ticks) = true)
    (l_Recording_ticks : K.lookup f_Recording_ticks = some ⟨oc_Recording_ticks, od_Recording_ticks, .func (PySem.W.fnOf "ticks" "Recording.ticks" (defArgs s_Recording_ticks) (defBody s_Recording_ticks) (defScope s_Recording_ticks) .none kV_Recording_ticks dc_Recording_ticks pm_Recording_ticks an_Recording_ticks cd_Recording_ticks ct_Recording_ticks), sl_Recording_ticks⟩)
    (x_Recording_ticks : PySem.W.codeIn K cd_Recording_ticks "Recording.ticks" = true)
    (k_Recording_ticks : PySem.W.keepIn K (.ref f_Recording_ticks) = true)
    (m_Recording_twin : PySem.W.findIn K (.ref c_Recording) "twin" = some (some (.ref f_Recording_twin)))
    (i_Recording_twin : PySem.W.isFn K (.ref f_Recording_twin) = true)
    (l_Recording_twin : K.lookup f_Recording_twin = some ⟨oc_Recording_twin, od_Recording_twin, .func (PySem.W.fnOf "twin" "Recording.twin" (defArgs s_Recording_twin) (defBody s_Recording_twin) (defScope s_Recording_twin) .none kV_Recording_twin dc_Recording_twin pm_Recording_twin an_Recording_twin cd_Recording_twin ct_Recording_twin), sl_Recording_twin⟩)
    (x_Recording_twin : PySem.W.codeIn K cd_Recording_twin "Recording.twin" = true)
    (k_Recording_twin : PySem.W.keepIn K (.ref f_Recording_twin) = true)
    (m_Recording_state_ahead : PySem.W.findIn K (.ref c_Recording) "state_ahead" = some (some (.ref f_Recording_state_ahead)))
    (i_Recording_state_ahead : PySem.W.isFn K (.ref f_Recording_state_ahead) = true)
    (l_Recording_state_ahead : K.lookup f_Recording_state_ahead = some ⟨oc_Recording_state_ahead, od_Recording_state_ahead, .func (PySem.W.fnOf "state_ahead" "Recording.state_ahead" (defArgs s_Recording_state_ahead) (defBody s_Recording_state_ahead) (defScope s_Recording_state_ahead) .none kV_Recording_state_ahead dc_Recording_state_ahead pm_Recording_state_ahead an_Recording_state_ahead cd_Recording_state_ahead ct_Recording_state_ahead), sl_Recording_state_ahead⟩)
    (x_Recording_state_ahead : PySem.W.codeIn K cd_Recording_state_ahead "Recording.state_ahead" = true)
    (k_Recording_state_ahead : PySem.W.keepIn K (.ref f_Recording_state_ahead) = true)
    (m_Recording_world_from : PySem.W.findIn K (.ref c_Recording) "world_from" = some (some (.ref f_Recording_world_from)))
    (i_Recording_world_from : PySem.W.isFn K (.ref f_Recording_world_from) = true)
    (l_Recording_world_from : K.lookup f_Recording_world_from = some ⟨oc_Recording_world_from, od_Recording_world_from, .func (PySem.W.fnOf "world_from" "Recording.world_from" (defArgs s_Recording_world_from) (defBody s_Recording_world_from) (defScope s_Recording_world_from) .none kV_Recording_world_from dc_Recording_world_from pm_Recording_world_from an_Recording_world_from cd_Recording_world_from ct_Recording_world_from), sl_Recording_world_from⟩)
    (x_Recording_world_from : PySem.W.codeIn K cd_Recording_world_from "Recording.world_from" = true)
    (k_Recording_world_from : PySem.W.keepIn K (.ref f_Recording_world_from) = true)
    (m_Recording_world_at : PySem.W.findIn K (.ref c_Recording) "world_at" = some (some (.ref f_Recording_world_at)))
    (i_Recording_world_at : PySem.W.isFn K (.ref f_Recording_world_at) = true)
    (l_Recording_world_at : K.lookup f_Recording_world_at = some ⟨oc_Recording_world_at, od_Recording_world_at, .func (PySem.W.fnOf "world_at" "Recording.world_at" (defArgs s_Recording_world_at) (defBody s_Recording_world_at) (defScope s_Recording_world_at) .none kV_Recording_world_at dc_Recording_world_at pm_Recording_world_at an_Recording_world_at cd_Recording_world_at ct_Recording_world_at), sl_Recording_world_at⟩)
    (x_Recording_world_at : PySem.W.codeIn K cd_Recording_world_at "Recording.world_at" = true)
    (k_Recording_world_at : PySem.W.keepIn K (.ref f_Recording_world_at) = true)
    (m_Recording_all_worlds : PySem.W.findIn K (.ref c_Recording) "all_worlds" = some (some (.ref f_Recording_all_worlds)))
    (i_Recording_all_worlds : PySem.W.isFn K (.ref f_Recording_all_worlds) = true)
    (l_Recording_all_worlds : K.lookup f_Recording_all_worlds = some ⟨oc_Recording_all_worlds, od_Recording_all_worlds, .func (PySem.W.fnOf "all_worlds" "Recording.all_worlds" (defArgs s_Recording_all_worlds) (defBody s_Recording_all_worlds) (defScope s_Recording_all_worlds) .none kV_Recording_all_worlds dc_Recording_all_worlds pm_Recording_all_worlds an_Recording_all_worlds cd_Recording_all_worlds ct_Recording_all_worlds), sl_Recording_all_worlds⟩)
    (x_Recording_all_worlds : PySem.W.codeIn K cd_Recording_all_worlds "Recording.all_worlds" = true)
    (k_Recording_all_worlds : PySem.W.keepIn K (.ref f_Recording_all_worlds) = true)
    (m_Recording_record : PySem.W.findIn K (.ref c_Recording) "record" = some (some (.ref f_Recording_record)))
    (i_Recording_record : PySem.W.isFn K (.ref f_Recording_record) = true)
    (l_Recording_record : K.lookup f_Recording_record = some ⟨oc_Recording_record, od_Recording_record, .func (PySem.W.fnOf "record" "Recording.record" (defArgs s_Recording_record) (defBody s_Recording_record) (defScope s_Recording_record) .none kV_Recording_record dc_Recording_record pm_Recording_record an_Recording_record cd_Recording_record ct_Recording_record), sl_Recording_record⟩)
    (x_Recording_record : PySem.W.codeIn K cd_Recording_record "Recording.record" = true)
    (k_Recording_record : PySem.W.keepIn K (.ref f_Recording_record) = true)
    (m_Recording_keep : PySem.W.findIn K (.ref c_Recording) "keep" = some (some (.ref f_Recording_keep)))
    (i_Recording_keep : PySem.W.isFn K (.ref f_Recording_keep) = true)
    (l_Recording_keep : K.lookup f_Recording_keep = some ⟨oc_Recording_keep, od_Recording_keep, .func (PySem.W.fnOf "keep" "Recording.keep" (defArgs s_Recording_keep) (defBody s_Recording_keep) (defScope s_Recording_keep) .none kV_Recording_keep dc_Recording_keep pm_Recording_keep an_Recording_keep cd_Recording_keep ct_Recording_keep), sl_Recording_keep⟩)
    (x_Recording_keep : PySem.W.codeIn K cd_Recording_keep "Recording.keep" = true)
    (k_Recording_keep : PySem.W.keepIn K (.ref f_Recording_keep) = true)
    (m_Recording_forget_behind : PySem.W.findIn K (.ref c_Recording) "forget_behind" = some (some (.ref f_Recording_forget_behind)))
    (i_Recording_forget_behind : PySem.W.isFn K (.ref f_Recording_forget_behind) = true)
    (l_Recording_forget_behind : K.lookup f_Recording_forget_behind = some ⟨oc_Recording_forget_behind, od_Recording_forget_behind, .func (PySem.W.fnOf "forget_behind" "Recording.forget_behind" (defArgs s_Recording_forget_behind) (defBody s_Recording_forget_behind) (defScope s_Recording_forget_behind) .none kV_Recording_forget_behind dc_Recording_forget_behind pm_Recording_forget_behind an_Recording_forget_behind cd_Recording_forget_behind ct_Recording_forget_behind), sl_Recording_forget_behind⟩)
    (x_Recording_forget_behind : PySem.W.codeIn K cd_Recording_forget_behind "Recording.forget_behind" = true)
    (k_Recording_forget_behind : PySem.W.keepIn K (.ref f_Recording_forget_behind) = true)
    (m_Recording_forget_states_behind : PySem.W.findIn K (.ref c_Recording) "forget_states_behind" = some (some (.ref f_Recording_forget_states_behind)))
    (i_Recording_forget_states_behind : PySem.W.isFn K (.ref f_Recording_forget_states_behind) = true)
    (l_Recording_forget_states_behind : K.lookup f_Recording_forget_states_behind = some ⟨oc_Recording_forget_states_behind, od_Recording_forget_states_behind, .func (PySem.W.fnOf "forget_states_behind" "Recording.forget_states_behind" (defArgs s_Recording_forget_states_behind) (defBody s_Recording_forget_states_behind) (defScope s_Recording_forget_states_behind) .none kV_Recording_forget_states_behind dc_Recording_forget_states_behind pm_Recording_forget_states_behind an_Recording_forget_states_behind cd_Recording_forget_states_behind ct_Recording_forget_states_behind), sl_Recording_forget_states_behind⟩)
    (x_Recording_forget_states_behind : PySem.W.codeIn K cd_Recording_forget_states_behind "Recording.forget_states_behind" = true)
    (k_Recording_forget_states_behind : PySem.W.keepIn K (.ref f_Recording_forget_states_behind) = true)
    (m_Recording_press_otherwise : PySem.W.findIn K (.ref c_Recording) "press_otherwise" = some (some (.ref f_Recording_press_otherwise)))
    (i_Recording_press_otherwise : PySem.W.isFn K (.ref f_Recording_press_otherwise) = true)
    (l_Recording_press_otherwise : K.lookup f_Recording_press_otherwise = some ⟨oc_Recording_press_otherwise, od_Recording_press_otherwise, .func (PySem.W.fnOf "press_otherwise" "Recording.press_otherwise" (defArgs s_Recording_press_otherwise) (defBody s_Recording_press_otherwise) (defScope s_Recording_press_otherwise) .none kV_Recording_press_otherwise dc_Recording_press_otherwise pm_Recording_press_otherwise an_Recording_press_otherwise cd_Recording_press_otherwise ct_Recording_press_otherwise), sl_Recording_press_otherwise⟩)
    (x_Recording_press_otherwise : PySem.W.codeIn K cd_Recording_press_otherwise "Recording.press_otherwise" = true)
    (k_Recording_press_otherwise : PySem.W.keepIn K (.ref f_Recording_press_otherwise) = true)
    (m_are_keys_of : PySem.W.nsIn K mainGlobals "are_keys_of" = some (some (.ref f_are_keys_of)))
    (l_are_keys_of : K.lookup f_are_keys_of = some ⟨oc_are_keys_of, od_are_keys_of, .func (PySem.W.fnOf "are_keys_of" "are_keys_of" (defArgs s_are_keys_of) (defBody s_are_keys_of) (defScope s_are_keys_of) .none kV_are_keys_of dc_are_keys_of pm_are_keys_of an_are_keys_of cd_are_keys_of ct_are_keys_of), sl_are_keys_of⟩)
    (x_are_keys_of : PySem.W.codeIn K cd_are_keys_of "are_keys_of" = true)
    (k_are_keys_of : PySem.W.keepIn K (.ref f_are_keys_of) = true)
    (m_Line_init : PySem.W.findIn K (.ref c_Line) "__init__" = some (some (.ref f_Line_init)))
    (i_Line_init : PySem.W.isFn K (.ref f_Line_init) = true)
    (l_Line_init : K.lookup f_Line_init = some ⟨oc_Line_init, od_Line_init, .func (PySem.W.fnOf "__init__" "Line.__init__" (defArgs s_Line_init) (defBody s_Line_init) (defScope s_Line_init) .none kV_Line_init dc_Line_init pm_Line_init an_Line_init cd_Line_init ct_Line_init), sl_Line_init⟩)
    (x_Line_init : PySem.W.codeIn K cd_Line_init "Line.__init__" = true)
    (k_Line_init : PySem.W.keepIn K (.ref f_Line_init) = true)
    (m_Line_begins : PySem.W.findIn K (.ref c_Line) "begins" = some (some (.ref f_Line_begins)))
    (i_Line_begins : PySem.W.isFn K (.ref f_Line_begins) = true)
    (l_Line_begins : K.lookup f_Line_begins = some ⟨oc_Line_begins, od_Line_begins, .func (PySem.W.fnOf "begins" "Line.begins" (defArgs s_Line_begins) (defBody s_Line_begins) (defScope s_Line_begins) .none kV_Line_begins dc_Line_begins pm_Line_begins an_Line_begins cd_Line_begins ct_Line_begins), sl_Line_begins⟩)
    (x_Line_begins : PySem.W.codeIn K cd_Line_begins "Line.begins" = true)
    (k_Line_begins : PySem.W.keepIn K (.ref f_Line_begins) = true)
    (m_Line_press : PySem.W.findIn K (.ref c_Line) "press" = some (some (.ref f_Line_press)))
    (i_Line_press : PySem.W.isFn K (.ref f_Line_press) = true)
    (l_Line_press : K.lookup f_Line_press = some ⟨oc_Line_press, od_Line_press, .func (PySem.W.fnOf "press" "Line.press" (defArgs s_Line_press) (defBody s_Line_press) (defScope s_Line_press) .none kV_Line_press dc_Line_press pm_Line_press an_Line_press cd_Line_press ct_Line_press), sl_Line_press⟩)
    (x_Line_press : PySem.W.codeIn K cd_Line_press "Line.press" = true)
    (k_Line_press : PySem.W.keepIn K (.ref f_Line_press) = true)
    (m_Line_hold : PySem.W.findIn K (.ref c_Line) "hold" = some (some (.ref f_Line_hold)))
    (i_Line_hold : PySem.W.isFn K (.ref f_Line_hold) = true)
    (l_Line_hold : K.lookup f_Line_hold = some ⟨oc_Line_hold, od_Line_hold, .func (PySem.W.fnOf "hold" "Line.hold" (defArgs s_Line_hold) (defBody s_Line_hold) (defScope s_Line_hold) .none kV_Line_hold dc_Line_hold pm_Line_hold an_Line_hold cd_Line_hold ct_Line_hold), sl_Line_hold⟩)
    (x_Line_hold : PySem.W.codeIn K cd_Line_hold "Line.hold" = true)
    (k_Line_hold : PySem.W.keepIn K (.ref f_Line_hold) = true)
    (m_Line_seek : PySem.W.findIn K (.ref c_Line) "seek" = some (some (.ref f_Line_seek)))
    (i_Line_seek : PySem.W.isFn K (.ref f_Line_seek) = true)
    (l_Line_seek : K.lookup f_Line_seek = some ⟨oc_Line_seek, od_Line_seek, .func (PySem.W.fnOf "seek" "Line.seek" (defArgs s_Line_seek) (defBody s_Line_seek) (defScope s_Line_seek) .none kV_Line_seek dc_Line_seek pm_Line_seek an_Line_seek cd_Line_seek ct_Line_seek), sl_Line_seek⟩)
    (x_Line_seek : PySem.W.codeIn K cd_Line_seek "Line.seek" = true)
    (k_Line_seek : PySem.W.keepIn K (.ref f_Line_seek) = true)
    (m_Line_cut : PySem.W.findIn K (.ref c_Line) "cut" = some (some (.ref f_Line_cut)))
    (i_Line_cut : PySem.W.isFn K (.ref f_Line_cut) = true)
    (l_Line_cut : K.lookup f_Line_cut = some ⟨oc_Line_cut, od_Line_cut, .func (PySem.W.fnOf "cut" "Line.cut" (defArgs s_Line_cut) (defBody s_Line_cut) (defScope s_Line_cut) .none kV_Line_cut dc_Line_cut pm_Line_cut an_Line_cut cd_Line_cut ct_Line_cut), sl_Line_cut⟩)
    (x_Line_cut : PySem.W.codeIn K cd_Line_cut "Line.cut" = true)
    (k_Line_cut : PySem.W.keepIn K (.ref f_Line_cut) = true)
    (m_Line_put_by : PySem.W.findIn K (.ref c_Line) "put_by" = some (some (.ref f_Line_put_by)))
    (i_Line_put_by : PySem.W.isFn K (.ref f_Line_put_by) = true)
    (l_Line_put_by : K.lookup f_Line_put_by = some ⟨oc_Line_put_by, od_Line_put_by, .func (PySem.W.fnOf "put_by" "Line.put_by" (defArgs s_Line_put_by) (defBody s_Line_put_by) (defScope s_Line_put_by) .none kV_Line_put_by dc_Line_put_by pm_Line_put_by an_Line_put_by cd_Line_put_by ct_Line_put_by), sl_Line_put_by⟩)
    (x_Line_put_by : PySem.W.codeIn K cd_Line_put_by "Line.put_by" = true)
    (k_Line_put_by : PySem.W.keepIn K (.ref f_Line_put_by) = true)
    (m_Line_swap : PySem.W.findIn K (.ref c_Line) "swap" = some (some (.ref f_Line_swap)))
    (i_Line_swap : PySem.W.isFn K (.ref f_Line_swap) = true)
    (l_Line_swap : K.lookup f_Line_swap = some ⟨oc_Line_swap, od_Line_swap, .func (PySem.W.fnOf "swap" "Line.swap" (defArgs s_Line_swap) (defBody s_Line_swap) (defScope s_Line_swap) .none kV_Line_swap dc_Line_swap pm_Line_swap an_Line_swap cd_Line_swap ct_Line_swap), sl_Line_swap⟩)
    (x_Line_swap : PySem.W.codeIn K cd_Line_swap "Line.swap" = true)
    (k_Line_swap : PySem.W.keepIn K (.ref f_Line_swap) = true)
    (m_Line_differ : PySem.W.findIn K (.ref c_Line) "differ" = some (some (.ref f_Line_differ)))
    (i_Line_differ : PySem.W.isFn K (.ref f_Line_differ) = true)
    (l_Line_differ : K.lookup f_Line_differ = some ⟨oc_Line_differ, od_Line_differ, .func (PySem.W.fnOf "differ" "Line.differ" (defArgs s_Line_differ) (defBody s_Line_differ) (defScope s_Line_differ) .none kV_Line_differ dc_Line_differ pm_Line_differ an_Line_differ cd_Line_differ ct_Line_differ), sl_Line_differ⟩)
    (x_Line_differ : PySem.W.codeIn K cd_Line_differ "Line.differ" = true)
    (k_Line_differ : PySem.W.keepIn K (.ref f_Line_differ) = true)
    (m_Line_kept : PySem.W.findIn K (.ref c_Line) "kept" = some (some (.ref f_Line_kept)))
    (i_Line_kept : PySem.W.isFn K (.ref f_Line_kept) = true)
    (l_Line_kept : K.lookup f_Line_kept = some ⟨oc_Line_kept, od_Line_kept, .func (PySem.W.fnOf "kept" "Line.kept" (defArgs s_Line_kept) (defBody s_Line_kept) (defScope s_Line_kept) .none kV_Line_kept dc_Line_kept pm_Line_kept an_Line_kept cd_Line_kept ct_Line_kept), sl_Line_kept⟩)
    (x_Line_kept : PySem.W.codeIn K cd_Line_kept "Line.kept" = true)
    (k_Line_kept : PySem.W.keepIn K (.ref f_Line_kept) = true)
    (m_Line_sum_at : PySem.W.findIn K (.ref c_Line) "sum_at" = some (some (.ref f_Line_sum_at)))
    (i_Line_sum_at : PySem.W.isFn K (.ref f_Line_sum_at) = true)
    (l_Line_sum_at : K.lookup f_Line_sum_at = some ⟨oc_Line_sum_at, od_Line_sum_at, .func (PySem.W.fnOf "sum_at" "Line.sum_at" (defArgs s_Line_sum_at) (defBody s_Line_sum_at) (defScope s_Line_sum_at) .none kV_Line_sum_at dc_Line_sum_at pm_Line_sum_at an_Line_sum_at cd_Line_sum_at ct_Line_sum_at), sl_Line_sum_at⟩)
    (x_Line_sum_at : PySem.W.codeIn K cd_Line_sum_at "Line.sum_at" = true)
    (k_Line_sum_at : PySem.W.keepIn K (.ref f_Line_sum_at) = true)
    (m_Line_keys_behind : PySem.W.findIn K (.ref c_Line) "keys_behind" = some (some (.ref f_Line_keys_behind)))
    (i_Line_keys_behind : PySem.W.isFn K (.ref f_Line_keys_behind) = true)
    (l_Line_keys_behind : K.lookup f_Line_keys_behind = some ⟨oc_Line_keys_behind, od_Line_keys_behind, .func (PySem.W.fnOf "keys_behind" "Line.keys_behind" (defArgs s_Line_keys_behind) (defBody s_Line_keys_behind) (defScope s_Line_keys_behind) .none kV_Line_keys_behind dc_Line_keys_behind pm_Line_keys_behind an_Line_keys_behind cd_Line_keys_behind ct_Line_keys_behind), sl_Line_keys_behind⟩)
    (x_Line_keys_behind : PySem.W.codeIn K cd_Line_keys_behind "Line.keys_behind" = true)
    (k_Line_keys_behind : PySem.W.keepIn K (.ref f_Line_keys_behind) = true)
    (m_Line_spoil : PySem.W.findIn K (.ref c_Line) "spoil" = some (some (.ref f_Line_spoil)))
    (i_Line_spoil : PySem.W.isFn K (.ref f_Line_spoil) = true)
    (l_Line_spoil : K.lookup f_Line_spoil = some ⟨oc_Line_spoil, od_Line_spoil, .func (PySem.W.fnOf "spoil" "Line.spoil" (defArgs s_Line_spoil) (defBody s_Line_spoil) (defScope s_Line_spoil) .none kV_Line_spoil dc_Line_spoil pm_Line_spoil an_Line_spoil cd_Line_spoil ct_Line_spoil), sl_Line_spoil⟩)
    (x_Line_spoil : PySem.W.codeIn K cd_Line_spoil "Line.spoil" = true)
    (k_Line_spoil : PySem.W.keepIn K (.ref f_Line_spoil) = true)
    (m_Reader_init : PySem.W.findIn K (.ref c_Reader) "__init__" = some (some (.ref f_Reader_init)))
    (i_Reader_init : PySem.W.isFn K (.ref f_Reader_init) = true)
    (l_Reader_init : K.lookup f_Reader_init = some ⟨oc_Reader_init, od_Reader_init, .func (PySem.W.fnOf "__init__" "Reader.__init__" (defArgs s_Reader_init) (defBody s_Reader_init) (defScope s_Reader_init) .none kV_Reader_init dc_Reader_init pm_Reader_init an_Reader_init cd_Reader_init ct_Reader_init), sl_Reader_init⟩)
    (x_Reader_init : PySem.W.codeIn K cd_Reader_init "Reader.__init__" = true)
    (k_Reader_init : PySem.W.keepIn K (.ref f_Reader_init) = true)
    (m_Reader_has_more : PySem.W.findIn K (.ref c_Reader) "has_more" = some (some (.ref f_Reader_has_more)))
    (i_Reader_has_more : PySem.W.isFn K (.ref f_Reader_has_more) = true)
    (l_Reader_has_more : K.lookup f_Reader_has_more = some ⟨oc_Reader_has_more, od_Reader_has_more, .func (PySem.W.fnOf "has_more" "Reader.has_more" (defArgs s_Reader_has_more) (defBody s_Reader_has_more) (defScope s_Reader_has_more) .none kV_Reader_has_more dc_Reader_has_more pm_Reader_has_more an_Reader_has_more cd_Reader_has_more ct_Reader_has_more), sl_Reader_has_more⟩)
    (x_Reader_has_more : PySem.W.codeIn K cd_Reader_has_more "Reader.has_more" = true)
    (k_Reader_has_more : PySem.W.keepIn K (.ref f_Reader_has_more) = true)
    (m_Reader_number : PySem.W.findIn K (.ref c_Reader) "number" = some (some (.ref f_Reader_number)))
    (i_Reader_number : PySem.W.isFn K (.ref f_Reader_number) = true)
    (l_Reader_number : K.lookup f_Reader_number = some ⟨oc_Reader_number, od_Reader_number, .func (PySem.W.fnOf "number" "Reader.number" (defArgs s_Reader_number) (defBody s_Reader_number) (defScope s_Reader_number) .none kV_Reader_number dc_Reader_number pm_Reader_number an_Reader_number cd_Reader_number ct_Reader_number), sl_Reader_number⟩)
    (x_Reader_number : PySem.W.codeIn K cd_Reader_number "Reader.number" = true)
    (k_Reader_number : PySem.W.keepIn K (.ref f_Reader_number) = true)
    (m_Reader_row : PySem.W.findIn K (.ref c_Reader) "row" = some (some (.ref f_Reader_row)))
    (i_Reader_row : PySem.W.isFn K (.ref f_Reader_row) = true)
    (l_Reader_row : K.lookup f_Reader_row = some ⟨oc_Reader_row, od_Reader_row, .func (PySem.W.fnOf "row" "Reader.row" (defArgs s_Reader_row) (defBody s_Reader_row) (defScope s_Reader_row) .none kV_Reader_row dc_Reader_row pm_Reader_row an_Reader_row cd_Reader_row ct_Reader_row), sl_Reader_row⟩)
    (x_Reader_row : PySem.W.codeIn K cd_Reader_row "Reader.row" = true)
    (k_Reader_row : PySem.W.keepIn K (.ref f_Reader_row) = true)
    (m_answer_change : PySem.W.nsIn K mainGlobals "answer_change" = some (some (.ref f_answer_change)))
    (l_answer_change : K.lookup f_answer_change = some ⟨oc_answer_change, od_answer_change, .func (PySem.W.fnOf "answer_change" "answer_change" (defArgs s_answer_change) (defBody s_answer_change) (defScope s_answer_change) .none kV_answer_change dc_answer_change pm_answer_change an_answer_change cd_answer_change ct_answer_change), sl_answer_change⟩)
    (x_answer_change : PySem.W.codeIn K cd_answer_change "answer_change" = true)
    (k_answer_change : PySem.W.keepIn K (.ref f_answer_change) = true)
    (m_answer_next : PySem.W.nsIn K mainGlobals "answer_next" = some (some (.ref f_answer_next)))
    (l_answer_next : K.lookup f_answer_next = some ⟨oc_answer_next, od_answer_next, .func (PySem.W.fnOf "answer_next" "answer_next" (defArgs s_answer_next) (defBody s_answer_next) (defScope s_answer_next) .none kV_answer_next dc_answer_next pm_answer_next an_answer_next cd_answer_next ct_answer_next), sl_answer_next⟩)
    (x_answer_next : PySem.W.codeIn K cd_answer_next "answer_next" = true)
    (k_answer_next : PySem.W.keepIn K (.ref f_answer_next) = true)
    (m_answers : PySem.W.nsIn K mainGlobals "answers" = some (some (.ref f_answers)))
    (l_answers : K.lookup f_answers = some ⟨oc_answers, od_answers, .func (PySem.W.fnOf "answers" "answers" (defArgs s_answers) (defBody s_answers) (defScope s_answers) .none kV_answers dc_answers pm_answers an_answers cd_answers ct_answers), sl_answers⟩)
    (x_answers : PySem.W.codeIn K cd_answers "answers" = true)
    (k_answers : PySem.W.keepIn K (.ref f_answers) = true)
    (k_FIELD_SIZE : PySem.W.nsIn K mainGlobals "FIELD_SIZE" = some (some (.int (16) tk_FIELD_SIZE)))
    (k_FIRST_COIN : PySem.W.nsIn K mainGlobals "FIRST_COIN" = some (some (.ref t_FIRST_COIN)))
    (k_LUCK_RANGE : PySem.W.nsIn K mainGlobals "LUCK_RANGE" = some (some (.int (2147483648) tk_LUCK_RANGE)))
    (k_LUCK_PER_PLACE : PySem.W.nsIn K mainGlobals "LUCK_PER_PLACE" = some (some (.int (65536) tk_LUCK_PER_PLACE)))
    (k_SUM_RANGE : PySem.W.nsIn K mainGlobals "SUM_RANGE" = some (some (.int (1000000007) tk_SUM_RANGE)))
    (k_STEPS : PySem.W.nsIn K mainGlobals "STEPS" = some (some (.ref t_STEPS)))
    (k_MOST_STATES : PySem.W.nsIn K mainGlobals "MOST_STATES" = some (some (.int (6) tk_MOST_STATES)))
    (k_TICKS_PER_STATE : PySem.W.nsIn K mainGlobals "TICKS_PER_STATE" = some (some (.int (8) tk_TICKS_PER_STATE)))
    (k_MOST_PLAYERS : PySem.W.nsIn K mainGlobals "MOST_PLAYERS" = some (some (.int (4) tk_MOST_PLAYERS)))
    (k_MOST_TICKS : PySem.W.nsIn K mainGlobals "MOST_TICKS" = some (some (.int (120) tk_MOST_TICKS)))
    (k_NOT_ALLOWED : PySem.W.nsIn K mainGlobals "NOT_ALLOWED" = some (some (.int (-1) tk_NOT_ALLOWED)))
    (k_NO_SUCH_TICK : PySem.W.nsIn K mainGlobals "NO_SUCH_TICK" = some (some (.int (-2) tk_NO_SUCH_TICK)))
    (k_TOO_MANY_TICKS : PySem.W.nsIn K mainGlobals "TOO_MANY_TICKS" = some (some (.int (-5) tk_TOO_MANY_TICKS)))
    (k_ALIKE : PySem.W.nsIn K mainGlobals "ALIKE" = some (some (.int (-6) tk_ALIKE)))
    (k_BEGINS : PySem.W.nsIn K mainGlobals "BEGINS" = some (some (.int (0) tk_BEGINS)))
    (k_PRESS : PySem.W.nsIn K mainGlobals "PRESS" = some (some (.int (1) tk_PRESS)))
    (k_HOLD : PySem.W.nsIn K mainGlobals "HOLD" = some (some (.int (2) tk_HOLD)))
    (k_SEEK : PySem.W.nsIn K mainGlobals "SEEK" = some (some (.int (3) tk_SEEK)))
    (k_CUT : PySem.W.nsIn K mainGlobals "CUT" = some (some (.int (4) tk_CUT)))
    (k_PUT_BY : PySem.W.nsIn K mainGlobals "PUT_BY" = some (some (.int (5) tk_PUT_BY)))
    (k_SWAP : PySem.W.nsIn K mainGlobals "SWAP" = some (some (.int (6) tk_SWAP)))
    (k_DIFFER : PySem.W.nsIn K mainGlobals "DIFFER" = some (some (.int (7) tk_DIFFER)))
    (k_KEPT : PySem.W.nsIn K mainGlobals "KEPT" = some (some (.int (8) tk_KEPT)))
    (k_SUM_AT : PySem.W.nsIn K mainGlobals "SUM_AT" = some (some (.int (9) tk_SUM_AT)))
    (k_KEYS : PySem.W.nsIn K mainGlobals "KEYS" = some (some (.int (10) tk_KEYS)))
    (k_SPOIL : PySem.W.nsIn K mainGlobals "SPOIL" = some (some (.int (11) tk_SPOIL)))
    (q_FIRST_COIN : K.lookup t_FIRST_COIN = some ⟨.type "tuple", od_FIRST_COIN, .seq #[.int (8) tk_FIRST_COIN_0, .int (2) tk_FIRST_COIN_1] nn_FIRST_COIN, sl_FIRST_COIN⟩)
    (q_STEPS : K.lookup t_STEPS = some ⟨.type "tuple", od_STEPS, .seq #[.ref t_STEPS_0, .ref t_STEPS_1, .ref t_STEPS_2, .ref t_STEPS_3, .ref t_STEPS_4] nn_STEPS, sl_STEPS⟩)
    (q_STEPS_0 : K.lookup t_STEPS_0 = some ⟨.type "tuple", od_STEPS_0, .seq #[.int (0) tk_STEPS_0_0, .int (0) tk_STEPS_0_1] nn_STEPS_0, sl_STEPS_0⟩)
    (q_STEPS_1 : K.lookup t_STEPS_1 = some ⟨.type "tuple", od_STEPS_1, .seq #[.int (1) tk_STEPS_1_0, .int (0) tk_STEPS_1_1] nn_STEPS_1, sl_STEPS_1⟩)
    (q_STEPS_2 : K.lookup t_STEPS_2 = some ⟨.type "tuple", od_STEPS_2, .seq #[.int (0) tk_STEPS_2_0, .int (1) tk_STEPS_2_1] nn_STEPS_2, sl_STEPS_2⟩)
    (q_STEPS_3 : K.lookup t_STEPS_3 = some ⟨.type "tuple", od_STEPS_3, .seq #[.int (-1) tk_STEPS_3_0, .int (0) tk_STEPS_3_1] nn_STEPS_3, sl_STEPS_3⟩)
    (q_STEPS_4 : K.lookup t_STEPS_4 = some ⟨.type "tuple", od_STEPS_4, .seq #[.int (0) tk_STEPS_4_0, .int (-1) tk_STEPS_4_1] nn_STEPS_4, sl_STEPS_4⟩)
    (n_len : PySem.W.nsIn K mainGlobals "len" = some none)
    (n_range : PySem.W.nsIn K mainGlobals "range" = some none)
    (n_enumerate : PySem.W.nsIn K mainGlobals "enumerate" = some none)
    (n_min : PySem.W.nsIn K mainGlobals "min" = some none)
    (n_all : PySem.W.nsIn K mainGlobals "all" = some none)
    (n_list : PySem.W.nsIn K mainGlobals "list" = some none)
    (n_tuple : PySem.W.nsIn K mainGlobals "tuple" = some none) :
    ∃ d : Fd, Txt K mg ⟨c_Player, c_World, c_State, c_Recording, c_Line, c_Reader, f_Player_init, f_World_init, f_first_world, f_next_luck, f_column_or_row, f_is_key, f_place_ahead, f_with_player, f_after_key, f_after_tick, f_world_numbers, f_numbers_with_luck, f_are_alike, f_world_sum, f_State_init, f_which_state_goes, f_Recording_init, f_Recording_ticks, f_Recording_twin, f_Recording_state_ahead, f_Recording_world_from, f_Recording_world_at, f_Recording_all_worlds, f_Recording_record, f_Recording_keep, f_Recording_forget_behind, f_Recording_forget_states_behind, f_Recording_press_otherwise, f_are_keys_of, f_Line_init, f_Line_begins, f_Line_press, f_Line_hold, f_Line_seek, f_Line_cut, f_Line_put_by, f_Line_swap, f_Line_differ, f_Line_kept, f_Line_sum_at, f_Line_keys_behind, f_Line_spoil, f_Reader_init, f_Reader_has_more, f_Reader_number, f_Reader_row, f_answer_change, f_answer_next, f_answers, t_FIRST_COIN, t_STEPS, t_STEPS_0, t_STEPS_1, t_STEPS_2, t_STEPS_3, t_STEPS_4⟩ d ∧ ∀ (s : Shared) (us : List Value), us.length = (["calls"] : List Str).length → BindsTo s d.f_answers ⟨us, []⟩ ((["calls"] : List Str).zip us) := by
  have F_Player_init := fun_mk (st := s_Player_init) l_Player_init x_Player_init k_Player_init
  have b_Player_init := F_Player_init.binds (ps := ["self", "place", "points"]) fun _ _ _ _ _ _ us hl => match us, hl with | [_, _, _], _ => rfl
  have F_World_init := fun_mk (st := s_World_init) l_World_init x_World_init k_World_init
  have b_World_init := F_World_init.binds (ps := ["self", "players", "coin", "luck"]) fun _ _ _ _ _ _ us hl => match us, hl with | [_, _, _, _], _ => rfl
  have F_first_world := fun_mk (st := s_first_world) l_first_world x_first_world k_first_world
  have b_first_world := F_first_world.binds (ps := ["how_many", "seed"]) fun _ _ _ _ _ _ us hl => match us, hl with | [_, _], _ => rfl
  have F_next_luck := fun_mk (st := s_next_luck) l_next_luck x_next_luck k_next_luck
  have b_next_luck := F_next_luck.binds (ps := ["luck"]) fun _ _ _ _ _ _ us hl => match us, hl with | [_], _ => rfl
  have F_column_or_row := fun_mk (st := s_column_or_row) l_column_or_row x_column_or_row k_column_or_row
  have b_column_or_row := F_column_or_row.binds (ps := ["luck"]) fun _ _ _ _ _ _ us hl => match us, hl with | [_], _ => rfl
  have F_is_key := fun_mk (st := s_is_key) l_is_key x_is_key k_is_key
  have b_is_key := F_is_key.binds (ps := ["number"]) fun _ _ _ _ _ _ us hl => match us, hl with | [_], _ => rfl
  have F_place_ahead := fun_mk (st := s_place_ahead) l_place_ahead x_place_ahead k_place_ahead
  have b_place_ahead := F_place_ahead.binds (ps := ["place", "key"]) fun _ _ _ _ _ _ us hl => match us, hl with | [_, _], _ => rfl
  have F_with_player := fun_mk (st := s_with_player) l_with_player x_with_player k_with_player
  have b_with_player := F_with_player.binds (ps := ["world", "number", "player"]) fun _ _ _ _ _ _ us hl => match us, hl with | [_, _, _], _ => rfl
  have F_after_key := fun_mk (st := s_after_key) l_after_key x_after_key k_after_key
  have b_after_key := F_after_key.binds (ps := ["world", "number", "key"]) fun _ _ _ _ _ _ us hl => match us, hl with | [_, _, _], _ => rfl
  have F_after_tick := fun_mk (st := s_after_tick) l_after_tick x_after_tick k_after_tick
  have b_after_tick := F_after_tick.binds (ps := ["world", "pressed"]) fun _ _ _ _ _ _ us hl => match us, hl with | [_, _], _ => rfl
  have F_world_numbers := fun_mk (st := s_world_numbers) l_world_numbers x_world_numbers k_world_numbers
  have b_world_numbers := F_world_numbers.binds (ps := ["world"]) fun _ _ _ _ _ _ us hl => match us, hl with | [_], _ => rfl
  have F_numbers_with_luck := fun_mk (st := s_numbers_with_luck) l_numbers_with_luck x_numbers_with_luck k_numbers_with_luck
  have b_numbers_with_luck := F_numbers_with_luck.binds (ps := ["world"]) fun _ _ _ _ _ _ us hl => match us, hl with | [_], _ => rfl
  have F_are_alike := fun_mk (st := s_are_alike) l_are_alike x_are_alike k_are_alike
  have b_are_alike := F_are_alike.binds (ps := ["world", "other"]) fun _ _ _ _ _ _ us hl => match us, hl with | [_, _], _ => rfl
  have F_world_sum := fun_mk (st := s_world_sum) l_world_sum x_world_sum k_world_sum
  have b_world_sum := F_world_sum.binds (ps := ["world"]) fun _ _ _ _ _ _ us hl => match us, hl with | [_], _ => rfl
  have F_State_init := fun_mk (st := s_State_init) l_State_init x_State_init k_State_init
  have b_State_init := F_State_init.binds (ps := ["self", "tick", "world"]) fun _ _ _ _ _ _ us hl => match us, hl with | [_, _, _], _ => rfl
  have F_which_state_goes := fun_mk (st := s_which_state_goes) l_which_state_goes x_which_state_goes k_which_state_goes
  have b_which_state_goes := F_which_state_goes.binds (ps := ["states"]) fun _ _ _ _ _ _ us hl => match us, hl with | [_], _ => rfl
  have F_Recording_init := fun_mk (st := s_Recording_init) l_Recording_init x_Recording_init k_Recording_init
  have b_Recording_init := F_Recording_init.binds (ps := ["self", "how_many", "seed"]) fun _ _ _ _ _ _ us hl => match us, hl with | [_, _, _], _ => rfl
  have F_Recording_ticks := fun_mk (st := s_Recording_ticks) l_Recording_ticks x_Recording_ticks k_Recording_ticks
  have b_Recording_ticks := F_Recording_ticks.binds (ps := ["self"]) fun _ _ _ _ _ _ us hl => match us, hl with | [_], _ => rfl
  have F_Recording_twin := fun_mk (st := s_Recording_twin) l_Recording_twin x_Recording_twin k_Recording_twin
  have b_Recording_twin := F_Recording_twin.binds (ps := ["self"]) fun _ _ _ _ _ _ us hl => match us, hl with | [_], _ => rfl
  have F_Recording_state_ahead := fun_mk (st := s_Recording_state_ahead) l_Recording_state_ahead x_Recording_state_ahead k_Recording_state_ahead
  have b_Recording_state_ahead := F_Recording_state_ahead.binds (ps := ["self", "tick"]) fun _ _ _ _ _ _ us hl => match us, hl with | [_, _], _ => rfl
  have F_Recording_world_from := fun_mk (st := s_Recording_world_from) l_Recording_world_from x_Recording_world_from k_Recording_world_from
  have b_Recording_world_from := F_Recording_world_from.binds (ps := ["self", "state", "tick"]) fun _ _ _ _ _ _ us hl => match us, hl with | [_, _, _], _ => rfl
  have F_Recording_world_at := fun_mk (st := s_Recording_world_at) l_Recording_world_at x_Recording_world_at k_Recording_world_at
  have b_Recording_world_at := F_Recording_world_at.binds (ps := ["self", "tick"]) fun _ _ _ _ _ _ us hl => match us, hl with | [_, _], _ => rfl
  have F_Recording_all_worlds := fun_mk (st := s_Recording_all_worlds) l_Recording_all_worlds x_Recording_all_worlds k_Recording_all_worlds
  have b_Recording_all_worlds := F_Recording_all_worlds.binds (ps := ["self"]) fun _ _ _ _ _ _ us hl => match us, hl with | [_], _ => rfl
  have F_Recording_record := fun_mk (st := s_Recording_record) l_Recording_record x_Recording_record k_Recording_record
  have b_Recording_record := F_Recording_record.binds (ps := ["self", "how_often", "pressed"]) fun _ _ _ _ _ _ us hl => match us, hl with | [_, _, _], _ => rfl
  have F_Recording_keep := fun_mk (st := s_Recording_keep) l_Recording_keep x_Recording_keep k_Recording_keep
  have b_Recording_keep := F_Recording_keep.binds (ps := ["self", "state"]) fun _ _ _ _ _ _ us hl => match us, hl with | [_, _], _ => rfl
  have F_Recording_forget_behind := fun_mk (st := s_Recording_forget_behind) l_Recording_forget_behind x_Recording_forget_behind k_Recording_forget_behind
  have b_Recording_forget_behind := F_Recording_forget_behind.binds (ps := ["self", "tick"]) fun _ _ _ _ _ _ us hl => match us, hl with | [_, _], _ => rfl
  have F_Recording_forget_states_behind := fun_mk (st := s_Recording_forget_states_behind) l_Recording_forget_states_behind x_Recording_forget_states_behind k_Recording_forget_states_behind
  have b_Recording_forget_states_behind := F_Recording_forget_states_behind.binds (ps := ["self", "tick"]) fun _ _ _ _ _ _ us hl => match us, hl with | [_, _], _ => rfl
  have F_Recording_press_otherwise := fun_mk (st := s_Recording_press_otherwise) l_Recording_press_otherwise x_Recording_press_otherwise k_Recording_press_otherwise
  have b_Recording_press_otherwise := F_Recording_press_otherwise.binds (ps := ["self", "tick", "player", "key"]) fun _ _ _ _ _ _ us hl => match us, hl with | [_, _, _, _], _ => rfl
  have F_are_keys_of := fun_mk (st := s_are_keys_of) l_are_keys_of x_are_keys_of k_are_keys_of
  have b_are_keys_of := F_are_keys_of.binds (ps := ["pressed", "how_many"]) fun _ _ _ _ _ _ us hl => match us, hl with | [_, _], _ => rfl
  have F_Line_init := fun_mk (st := s_Line_init) l_Line_init x_Line_init k_Line_init
  have b_Line_init := F_Line_init.binds (ps := ["self"]) fun _ _ _ _ _ _ us hl => match us, hl with | [_], _ => rfl
  have F_Line_begins := fun_mk (st := s_Line_begins) l_Line_begins x_Line_begins k_Line_begins
  have b_Line_begins := F_Line_begins.binds (ps := ["self", "players", "seed"]) fun _ _ _ _ _ _ us hl => match us, hl with | [_, _, _], _ => rfl
  have F_Line_press := fun_mk (st := s_Line_press) l_Line_press x_Line_press k_Line_press
  have b_Line_press := F_Line_press.binds (ps := ["self", "pressed"]) fun _ _ _ _ _ _ us hl => match us, hl with | [_, _], _ => rfl
  have F_Line_hold := fun_mk (st := s_Line_hold) l_Line_hold x_Line_hold k_Line_hold
  have b_Line_hold := F_Line_hold.binds (ps := ["self", "ticks", "pressed"]) fun _ _ _ _ _ _ us hl => match us, hl with | [_, _, _], _ => rfl
  have F_Line_seek := fun_mk (st := s_Line_seek) l_Line_seek x_Line_seek k_Line_seek
  have b_Line_seek := F_Line_seek.binds (ps := ["self", "tick"]) fun _ _ _ _ _ _ us hl => match us, hl with | [_, _], _ => rfl
  have F_Line_cut := fun_mk (st := s_Line_cut) l_Line_cut x_Line_cut k_Line_cut
  have b_Line_cut := F_Line_cut.binds (ps := ["self", "tick"]) fun _ _ _ _ _ _ us hl => match us, hl with | [_, _], _ => rfl
  have F_Line_put_by := fun_mk (st := s_Line_put_by) l_Line_put_by x_Line_put_by k_Line_put_by
  have b_Line_put_by := F_Line_put_by.binds (ps := ["self"]) fun _ _ _ _ _ _ us hl => match us, hl with | [_], _ => rfl
  have F_Line_swap := fun_mk (st := s_Line_swap) l_Line_swap x_Line_swap k_Line_swap
  have b_Line_swap := F_Line_swap.binds (ps := ["self"]) fun _ _ _ _ _ _ us hl => match us, hl with | [_], _ => rfl
  have F_Line_differ := fun_mk (st := s_Line_differ) l_Line_differ x_Line_differ k_Line_differ
  have b_Line_differ := F_Line_differ.binds (ps := ["self"]) fun _ _ _ _ _ _ us hl => match us, hl with | [_], _ => rfl
  have F_Line_kept := fun_mk (st := s_Line_kept) l_Line_kept x_Line_kept k_Line_kept
  have b_Line_kept := F_Line_kept.binds (ps := ["self"]) fun _ _ _ _ _ _ us hl => match us, hl with | [_], _ => rfl
  have F_Line_sum_at := fun_mk (st := s_Line_sum_at) l_Line_sum_at x_Line_sum_at k_Line_sum_at
  have b_Line_sum_at := F_Line_sum_at.binds (ps := ["self", "tick"]) fun _ _ _ _ _ _ us hl => match us, hl with | [_, _], _ => rfl
  have F_Line_keys_behind := fun_mk (st := s_Line_keys_behind) l_Line_keys_behind x_Line_keys_behind k_Line_keys_behind
  have b_Line_keys_behind := F_Line_keys_behind.binds (ps := ["self", "tick", "how_many"]) fun _ _ _ _ _ _ us hl => match us, hl with | [_, _, _], _ => rfl
  have F_Line_spoil := fun_mk (st := s_Line_spoil) l_Line_spoil x_Line_spoil k_Line_spoil
  have b_Line_spoil := F_Line_spoil.binds (ps := ["self", "tick", "player", "what"]) fun _ _ _ _ _ _ us hl => match us, hl with | [_, _, _, _], _ => rfl
  have F_Reader_init := fun_mk (st := s_Reader_init) l_Reader_init x_Reader_init k_Reader_init
  have b_Reader_init := F_Reader_init.binds (ps := ["self", "numbers"]) fun _ _ _ _ _ _ us hl => match us, hl with | [_, _], _ => rfl
  have F_Reader_has_more := fun_mk (st := s_Reader_has_more) l_Reader_has_more x_Reader_has_more k_Reader_has_more
  have b_Reader_has_more := F_Reader_has_more.binds (ps := ["self"]) fun _ _ _ _ _ _ us hl => match us, hl with | [_], _ => rfl
  have F_Reader_number := fun_mk (st := s_Reader_number) l_Reader_number x_Reader_number k_Reader_number
  have b_Reader_number := F_Reader_number.binds (ps := ["self"]) fun _ _ _ _ _ _ us hl => match us, hl with | [_], _ => rfl
  have F_Reader_row := fun_mk (st := s_Reader_row) l_Reader_row x_Reader_row k_Reader_row
  have b_Reader_row := F_Reader_row.binds (ps := ["self"]) fun _ _ _ _ _ _ us hl => match us, hl with | [_], _ => rfl
  have F_answer_change := fun_mk (st := s_answer_change) l_answer_change x_answer_change k_answer_change
  have b_answer_change := F_answer_change.binds (ps := ["line", "call", "reader"]) fun _ _ _ _ _ _ us hl => match us, hl with | [_, _, _], _ => rfl
  have F_answer_next := fun_mk (st := s_answer_next) l_answer_next x_answer_next k_answer_next
  have b_answer_next := F_answer_next.binds (ps := ["line", "reader"]) fun _ _ _ _ _ _ us hl => match us, hl with | [_, _], _ => rfl
  have F_answers := fun_mk (st := s_answers) l_answers x_answers k_answers
  have b_answers := F_answers.binds (ps := ["calls"]) fun _ _ _ _ _ _ us hl => match us, hl with | [_], _ => rfl
  refine ⟨⟨_, _, _, _, _, _, _, _, _, _, _, _, _, _, _, _, _, _, _, _, _, _, _, _, _, _, _, _, _, _, _, _, _, _, _, _, _, _, _, _, _, _, _, _, _, _, _, _, _⟩, {
    cl_Player := ⟨pg_Player, hd_Player, po_Player, sa_Player⟩
    mk_Player := ⟨mk_Player, m_Player_init, i_Player_init, kc_Player⟩
    g_Player := PySem.W.mg_of X G g_Player
    na_Player_place := na_Player_place
    na_Player_points := na_Player_points
    cl_World := ⟨pg_World, hd_World, po_World, sa_World⟩
    mk_World := ⟨mk_World, m_World_init, i_World_init, kc_World⟩
    g_World := PySem.W.mg_of X G g_World
    na_World_players := na_World_players
    na_World_coin := na_World_coin
    na_World_luck := na_World_luck
    cl_State := ⟨pg_State, hd_State, po_State, sa_State⟩
    mk_State := ⟨mk_State, m_State_init, i_State_init, kc_State⟩
    g_State := PySem.W.mg_of X G g_State
    na_State_tick := na_State_tick
    na_State_world := na_State_world
    cl_Recording := ⟨pg_Recording, hd_Recording, po_Recording, sa_Recording⟩
    mk_Recording := ⟨mk_Recording, m_Recording_init, i_Recording_init, kc_Recording⟩
    g_Recording := PySem.W.mg_of X G g_Recording
    na_Recording_how_many := na_Recording_how_many
    na_Recording_seed := na_Recording_seed
    na_Recording_presses := na_Recording_presses
    na_Recording_states := na_Recording_states
    cl_Line := ⟨pg_Line, hd_Line, po_Line, sa_Line⟩
    mk_Line := ⟨mk_Line, m_Line_init, i_Line_init, kc_Line⟩
    g_Line := PySem.W.mg_of X G g_Line
    na_Line_going := na_Line_going
    na_Line_aside := na_Line_aside
    cl_Reader := ⟨pg_Reader, hd_Reader, po_Reader, sa_Reader⟩
    mk_Reader := ⟨mk_Reader, m_Reader_init, i_Reader_init, kc_Reader⟩
    g_Reader := PySem.W.mg_of X G g_Reader
    na_Reader_numbers := na_Reader_numbers
    na_Reader_at := na_Reader_at
    F_Player_init := F_Player_init
    b_Player_init := b_Player_init
    F_World_init := F_World_init
    b_World_init := b_World_init
    F_first_world := F_first_world
    b_first_world := b_first_world
    g_first_world := PySem.W.mg_of X G m_first_world
    F_next_luck := F_next_luck
    b_next_luck := b_next_luck
    g_next_luck := PySem.W.mg_of X G m_next_luck
    F_column_or_row := F_column_or_row
    b_column_or_row := b_column_or_row
    g_column_or_row := PySem.W.mg_of X G m_column_or_row
    F_is_key := F_is_key
    b_is_key := b_is_key
    g_is_key := PySem.W.mg_of X G m_is_key
    F_place_ahead := F_place_ahead
    b_place_ahead := b_place_ahead
    g_place_ahead := PySem.W.mg_of X G m_place_ahead
    F_with_player := F_with_player
    b_with_player := b_with_player
    g_with_player := PySem.W.mg_of X G m_with_player
    F_after_key := F_after_key
    b_after_key := b_after_key
    g_after_key := PySem.W.mg_of X G m_after_key
    F_after_tick := F_after_tick
    b_after_tick := b_after_tick
    g_after_tick := PySem.W.mg_of X G m_after_tick
    F_world_numbers := F_world_numbers
    b_world_numbers := b_world_numbers
    g_world_numbers := PySem.W.mg_of X G m_world_numbers
    F_numbers_with_luck := F_numbers_with_luck
    b_numbers_with_luck := b_numbers_with_luck
    g_numbers_with_luck := PySem.W.mg_of X G m_numbers_with_luck
    F_are_alike := F_are_alike
    b_are_alike := b_are_alike
    g_are_alike := PySem.W.mg_of X G m_are_alike
    F_world_sum := F_world_sum
    b_world_sum := b_world_sum
    g_world_sum := PySem.W.mg_of X G m_world_sum
    F_State_init := F_State_init
    b_State_init := b_State_init
    F_which_state_goes := F_which_state_goes
    b_which_state_goes := b_which_state_goes
    g_which_state_goes := PySem.W.mg_of X G m_which_state_goes
    F_Recording_init := F_Recording_init
    b_Recording_init := b_Recording_init
    F_Recording_ticks := F_Recording_ticks
    b_Recording_ticks := b_Recording_ticks
    m_Recording_ticks := ⟨m_Recording_ticks, i_Recording_ticks, k_Recording_ticks⟩
    F_Recording_twin := F_Recording_twin
    b_Recording_twin := b_Recording_twin
    m_Recording_twin := ⟨m_Recording_twin, i_Recording_twin, k_Recording_twin⟩
    F_Recording_state_ahead := F_Recording_state_ahead
    b_Recording_state_ahead := b_Recording_state_ahead
    m_Recording_state_ahead := ⟨m_Recording_state_ahead, i_Recording_state_ahead, k_Recording_state_ahead⟩
    F_Recording_world_from := F_Recording_world_from
    b_Recording_world_from := b_Recording_world_from
    m_Recording_world_from := ⟨m_Recording_world_from, i_Recording_world_from, k_Recording_world_from⟩
    F_Recording_world_at := F_Recording_world_at
    b_Recording_world_at := b_Recording_world_at
    m_Recording_world_at := ⟨m_Recording_world_at, i_Recording_world_at, k_Recording_world_at⟩
    F_Recording_all_worlds := F_Recording_all_worlds
    b_Recording_all_worlds := b_Recording_all_worlds
    m_Recording_all_worlds := ⟨m_Recording_all_worlds, i_Recording_all_worlds, k_Recording_all_worlds⟩
    F_Recording_record := F_Recording_record
    b_Recording_record := b_Recording_record
    m_Recording_record := ⟨m_Recording_record, i_Recording_record, k_Recording_record⟩
    F_Recording_keep := F_Recording_keep
    b_Recording_keep := b_Recording_keep
    m_Recording_keep := ⟨m_Recording_keep, i_Recording_keep, k_Recording_keep⟩
    F_Recording_forget_behind := F_Recording_forget_behind
    b_Recording_forget_behind := b_Recording_forget_behind
    m_Recording_forget_behind := ⟨m_Recording_forget_behind, i_Recording_forget_behind, k_Recording_forget_behind⟩
    F_Recording_forget_states_behind := F_Recording_forget_states_behind
    b_Recording_forget_states_behind := b_Recording_forget_states_behind
    m_Recording_forget_states_behind := ⟨m_Recording_forget_states_behind, i_Recording_forget_states_behind, k_Recording_forget_states_behind⟩
    F_Recording_press_otherwise := F_Recording_press_otherwise
    b_Recording_press_otherwise := b_Recording_press_otherwise
    m_Recording_press_otherwise := ⟨m_Recording_press_otherwise, i_Recording_press_otherwise, k_Recording_press_otherwise⟩
    F_are_keys_of := F_are_keys_of
    b_are_keys_of := b_are_keys_of
    g_are_keys_of := PySem.W.mg_of X G m_are_keys_of
    F_Line_init := F_Line_init
    b_Line_init := b_Line_init
    F_Line_begins := F_Line_begins
    b_Line_begins := b_Line_begins
    m_Line_begins := ⟨m_Line_begins, i_Line_begins, k_Line_begins⟩
    F_Line_press := F_Line_press
    b_Line_press := b_Line_press
    m_Line_press := ⟨m_Line_press, i_Line_press, k_Line_press⟩
    F_Line_hold := F_Line_hold
    b_Line_hold := b_Line_hold
    m_Line_hold := ⟨m_Line_hold, i_Line_hold, k_Line_hold⟩
    F_Line_seek := F_Line_seek
    b_Line_seek := b_Line_seek
    m_Line_seek := ⟨m_Line_seek, i_Line_seek, k_Line_seek⟩
    F_Line_cut := F_Line_cut
    b_Line_cut := b_Line_cut
    m_Line_cut := ⟨m_Line_cut, i_Line_cut, k_Line_cut⟩
    F_Line_put_by := F_Line_put_by
    b_Line_put_by := b_Line_put_by
    m_Line_put_by := ⟨m_Line_put_by, i_Line_put_by, k_Line_put_by⟩
    F_Line_swap := F_Line_swap
    b_Line_swap := b_Line_swap
    m_Line_swap := ⟨m_Line_swap, i_Line_swap, k_Line_swap⟩
    F_Line_differ := F_Line_differ
    b_Line_differ := b_Line_differ
    m_Line_differ := ⟨m_Line_differ, i_Line_differ, k_Line_differ⟩
    F_Line_kept := F_Line_kept
    b_Line_kept := b_Line_kept
    m_Line_kept := ⟨m_Line_kept, i_Line_kept, k_Line_kept⟩
    F_Line_sum_at := F_Line_sum_at
    b_Line_sum_at := b_Line_sum_at
    m_Line_sum_at := ⟨m_Line_sum_at, i_Line_sum_at, k_Line_sum_at⟩
    F_Line_keys_behind := F_Line_keys_behind
    b_Line_keys_behind := b_Line_keys_behind
    m_Line_keys_behind := ⟨m_Line_keys_behind, i_Line_keys_behind, k_Line_keys_behind⟩
    F_Line_spoil := F_Line_spoil
    b_Line_spoil := b_Line_spoil
    m_Line_spoil := ⟨m_Line_spoil, i_Line_spoil, k_Line_spoil⟩
    F_Reader_init := F_Reader_init
    b_Reader_init := b_Reader_init
    F_Reader_has_more := F_Reader_has_more
    b_Reader_has_more := b_Reader_has_more
    m_Reader_has_more := ⟨m_Reader_has_more, i_Reader_has_more, k_Reader_has_more⟩
    F_Reader_number := F_Reader_number
    b_Reader_number := b_Reader_number
    m_Reader_number := ⟨m_Reader_number, i_Reader_number, k_Reader_number⟩
    F_Reader_row := F_Reader_row
    b_Reader_row := b_Reader_row
    m_Reader_row := ⟨m_Reader_row, i_Reader_row, k_Reader_row⟩
    F_answer_change := F_answer_change
    b_answer_change := b_answer_change
    g_answer_change := PySem.W.mg_of X G m_answer_change
    F_answer_next := F_answer_next
    b_answer_next := b_answer_next
    g_answer_next := PySem.W.mg_of X G m_answer_next
    F_answers := F_answers
    b_answers := b_answers
    g_answers := PySem.W.mg_of X G m_answers
    k_FIELD_SIZE := ⟨_, PySem.W.mg_of X G k_FIELD_SIZE, ⟨_, rfl⟩⟩
    k_FIRST_COIN := PySem.W.mg_of X G k_FIRST_COIN
    k_LUCK_RANGE := ⟨_, PySem.W.mg_of X G k_LUCK_RANGE, ⟨_, rfl⟩⟩
    k_LUCK_PER_PLACE := ⟨_, PySem.W.mg_of X G k_LUCK_PER_PLACE, ⟨_, rfl⟩⟩
    k_SUM_RANGE := ⟨_, PySem.W.mg_of X G k_SUM_RANGE, ⟨_, rfl⟩⟩
    k_STEPS := PySem.W.mg_of X G k_STEPS
    k_MOST_STATES := ⟨_, PySem.W.mg_of X G k_MOST_STATES, ⟨_, rfl⟩⟩
    k_TICKS_PER_STATE := ⟨_, PySem.W.mg_of X G k_TICKS_PER_STATE, ⟨_, rfl⟩⟩
    k_MOST_PLAYERS := ⟨_, PySem.W.mg_of X G k_MOST_PLAYERS, ⟨_, rfl⟩⟩
    k_MOST_TICKS := ⟨_, PySem.W.mg_of X G k_MOST_TICKS, ⟨_, rfl⟩⟩
    k_NOT_ALLOWED := ⟨_, PySem.W.mg_of X G k_NOT_ALLOWED, ⟨_, rfl⟩⟩
    k_NO_SUCH_TICK := ⟨_, PySem.W.mg_of X G k_NO_SUCH_TICK, ⟨_, rfl⟩⟩
    k_TOO_MANY_TICKS := ⟨_, PySem.W.mg_of X G k_TOO_MANY_TICKS, ⟨_, rfl⟩⟩
    k_ALIKE := ⟨_, PySem.W.mg_of X G k_ALIKE, ⟨_, rfl⟩⟩
    k_BEGINS := ⟨_, PySem.W.mg_of X G k_BEGINS, ⟨_, rfl⟩⟩
    k_PRESS := ⟨_, PySem.W.mg_of X G k_PRESS, ⟨_, rfl⟩⟩
    k_HOLD := ⟨_, PySem.W.mg_of X G k_HOLD, ⟨_, rfl⟩⟩
    k_SEEK := ⟨_, PySem.W.mg_of X G k_SEEK, ⟨_, rfl⟩⟩
    k_CUT := ⟨_, PySem.W.mg_of X G k_CUT, ⟨_, rfl⟩⟩
    k_PUT_BY := ⟨_, PySem.W.mg_of X G k_PUT_BY, ⟨_, rfl⟩⟩
    k_SWAP := ⟨_, PySem.W.mg_of X G k_SWAP, ⟨_, rfl⟩⟩
    k_DIFFER := ⟨_, PySem.W.mg_of X G k_DIFFER, ⟨_, rfl⟩⟩
    k_KEPT := ⟨_, PySem.W.mg_of X G k_KEPT, ⟨_, rfl⟩⟩
    k_SUM_AT := ⟨_, PySem.W.mg_of X G k_SUM_AT, ⟨_, rfl⟩⟩
    k_KEYS := ⟨_, PySem.W.mg_of X G k_KEYS, ⟨_, rfl⟩⟩
    k_SPOIL := ⟨_, PySem.W.mg_of X G k_SPOIL, ⟨_, rfl⟩⟩
    t_FIRST_COIN := fun H => .inr ⟨_, _, _, q_FIRST_COIN, rfl, rfl, by show 2 ≤ sizeLine; decide, .cons ⟨_, rfl⟩ (.cons ⟨_, rfl⟩ (.nil))⟩
    t_STEPS := fun H => .inr ⟨_, _, _, q_STEPS, rfl, rfl, by show 5 ≤ sizeLine; decide, .cons rfl (.cons rfl (.cons rfl (.cons rfl (.cons rfl (.nil)))))⟩
    t_STEPS_0 := fun H => .inr ⟨_, _, _, q_STEPS_0, rfl, rfl, by show 2 ≤ sizeLine; decide, .cons ⟨_, rfl⟩ (.cons ⟨_, rfl⟩ (.nil))⟩
    t_STEPS_1 := fun H => .inr ⟨_, _, _, q_STEPS_1, rfl, rfl, by show 2 ≤ sizeLine; decide, .cons ⟨_, rfl⟩ (.cons ⟨_, rfl⟩ (.nil))⟩
    t_STEPS_2 := fun H => .inr ⟨_, _, _, q_STEPS_2, rfl, rfl, by show 2 ≤ sizeLine; decide, .cons ⟨_, rfl⟩ (.cons ⟨_, rfl⟩ (.nil))⟩
    t_STEPS_3 := fun H => .inr ⟨_, _, _, q_STEPS_3, rfl, rfl, by show 2 ≤ sizeLine; decide, .cons ⟨_, rfl⟩ (.cons ⟨_, rfl⟩ (.nil))⟩
    t_STEPS_4 := fun H => .inr ⟨_, _, _, q_STEPS_4, rfl, rfl, by show 2 ≤ sizeLine; decide, .cons ⟨_, rfl⟩ (.cons ⟨_, rfl⟩ (.nil))⟩
    n_len := PySem.W.mg_none_of X G n_len
    n_range := PySem.W.mg_none_of X G n_range
    n_enumerate := PySem.W.mg_none_of X G n_enumerate
    n_min := PySem.W.mg_none_of X G n_min
    n_all := PySem.W.mg_none_of X G n_all
    n_list := PySem.W.mg_none_of X G n_list
    n_tuple := PySem.W.mg_none_of X G n_tuple
  }, fun s us hu => match us, hu with | [_], _ => .of_eq rfl⟩
theorem end_mk {P : Program} {w : PySem.World} {K : PySem.W.Frag} {h : Heap} {mg : Str → Option Value} {fa c_Player c_World c_State c_Recording c_Line c_Reader f_Player_init f_World_init f_first_world f_next_luck f_column_or_row f_is_key f_place_ahead f_with_player f_after_key f_after_tick f_world_numbers f_numbers_with_luck f_are_alike f_world_sum f_State_init f_which_state_goes f_Recording_init f_Recording_ticks f_Recording_twin f_Recording_state_ahead f_Recording_world_from f_Recording_world_at f_Recording_all_worlds f_Recording_record f_Recording_keep f_Recording_forget_behind f_Recording_forget_states_behind f_Recording_press_otherwise f_are_keys_of f_Line_init f_Line_begins f_Line_press f_Line_hold f_Line_seek f_Line_cut f_Line_put_by f_Line_swap f_Line_differ f_Line_kept f_Line_sum_at f_Line_keys_behind f_Line_spoil f_Reader_init f_Reader_has_more f_Reader_number f_Reader_row f_answer_change f_answer_next f_answers t_FIRST_COIN t_STEPS t_STEPS_0 t_STEPS_1 t_STEPS_2 t_STEPS_3 t_STEPS_4 : Addr} (X : K.In h) (G : h.Ns mainGlobals mg) (hfa : mg "answers" = some (.ref fa))
    {od_Player_init an_Player_init : Option Addr} {sl_Player_init : Array (Option Value)} {oc_Player_init kV_Player_init dc_Player_init pm_Player_init cd_Player_init ct_Player_init : Value}
    {od_World_init an_World_init : Option Addr} {sl_World_init : Array (Option Value)} {oc_World_init kV_World_init dc_World_init pm_World_init cd_World_init ct_World_init : Value}
    {od_first_world an_first_world : Option Addr} {sl_first_world : Array (Option Value)} {oc_first_world kV_first_world dc_first_world pm_first_world cd_first_world ct_first_world : Value}
    {od_next_luck an_next_luck : Option Addr} {sl_next_luck : Array (Option Value)} {oc_next_luck kV_next_luck dc_next_luck pm_next_luck cd_next_luck ct_next_luck : Value}
    {od_column_or_row an_column_or_row : Option Addr} {sl_column_or_row : Array (Option Value)} {oc_column_or_row kV_column_or_row dc_column_or_row pm_column_or_row cd_column_or_row ct_column_or_row : Value}
    {od_is_key an_is_key : Option Addr} {sl_is_key : Array (Option Value)} {oc_is_key kV_is_key dc_is_key pm_is_key cd_is_key ct_is_key : Value}
    {od_place_ahead an_place_ahead : Option Addr} {sl_place_ahead : Array (Option Value)} {oc_place_ahead kV_place_ahead dc_place_ahead pm_place_ahead cd_place_ahead ct_place_ahead : Value}
    {od_with_player an_with_player : Option Addr} {sl_with_player : Array (Option Value)} {oc_with_player kV_with_player dc_with_player pm_with_player cd_with_player ct_with_player : Value}
    {od_after_key an_after_key : Option Addr} {sl_after_key : Array (Option Value)} {oc_after_key kV_after_key dc_after_key pm_after_key cd_after_key ct_after_key : Value}
    {od_after_tick an_after_tick : Option Addr} {sl_after_tick : Array (Option Value)} {oc_after_tick kV_after_tick dc_after_tick pm_after_tick cd_after_tick ct_after_tick : Value}
    {od_world_numbers an_world_numbers : Option Addr} {sl_world_numbers : Array (Option Value)} {oc_world_numbers kV_world_numbers dc_world_numbers pm_world_numbers cd_world_numbers ct_world_numbers : Value}
    {od_numbers_with_luck an_numbers_with_luck : Option Addr} {sl_numbers_with_luck : Array (Option Value)} {oc_numbers_with_luck kV_numbers_with_luck dc_numbers_with_luck pm_numbers_with_luck cd_numbers_with_luck ct_numbers_with_luck : Value}
    {od_are_alike an_are_alike : Option Addr} {sl_are_alike : Array (Option Value)} {oc_are_alike kV_are_alike dc_are_alike pm_are_alike cd_are_alike ct_are_alike : Value}
    {od_world_sum an_world_sum : Option Addr} {sl_world_sum : Array (Option Value)} {oc_world_sum kV_world_sum dc_world_sum pm_world_sum cd_world_sum ct_world_sum : Value}
    {od_State_init an_State_init : Option Addr} {sl_State_init : Array (Option Value)} {oc_State_init kV_State_init dc_State_init pm_State_init cd_State_init ct_State_init : Value}
    {od_which_state_goes an_which_state_goes : Option Addr} {sl_which_state_goes : Array (Option Value)} {oc_which_state_goes kV_which_state_goes dc_which_state_goes pm_which_state_goes cd_which_state_goes ct_which_state_goes : Value}
    {od_Recording_init an_Recording_init : Option Addr} {sl_Recording_init : Array (Option Value)} {oc_Recording_init kV_Recording_init dc_Recording_init pm_Recording_init cd_Recording_init ct_Recording_init : Value}
    {od_Recording_ticks an_Recording_ticks : Option Addr} {sl_Recording_ticks : Array (Option Value)} {oc_Recording_ticks kV_Recording_ticks dc_Recording_ticks pm_Recording_ticks cd_Recording_ticks ct_Recording_ticks : Value}
    {od_Recording_twin an_Recording_twin : Option Addr} {sl_Recording_twin : Array (Option Value)} {oc_Recording_twin kV_Recording_twin dc_Recording_twin pm_Recording_twin cd_Recording_twin ct_Recording_twin : Value}
    {od_Recording_state_ahead an_Recording_state_ahead : Option Addr} {sl_Recording_state_ahead : Array (Option Value)} {oc_Recording_state_ahead kV_Recording_state_ahead dc_Recording_state_ahead pm_Recording_state_ahead cd_Recording_state_ahead ct_Recording_state_ahead : Value}
    {od_Recording_world_from an_Recording_world_from : Option Addr} {sl_Recording_world_from : Array (Option Value)} {oc_Recording_world_from kV_Recording_world_from dc_Recording_world_from pm_Recording_world_from cd_Recording_world_from ct_Recording_world_from : Value}
    {od_Recording_world_at an_Recording_world_at : Option Addr} {sl_Recording_world_at : Array (Option Value)} {oc_Recording_world_at kV_Recording_world_at dc_Recording_world_at pm_Recording_world_at cd_Recording_world_at ct_Recording_world_at : Value}
    {od_Recording_all_worlds an_Recording_all_worlds : Option Addr} {sl_Recording_all_worlds : Array (Option Value)} {oc_Recording_all_worlds kV_Recording_all_worlds dc_Recording_all_worlds pm_Recording_all_worlds cd_Recording_all_worlds ct_Recording_all_worlds : Value}
    {od_Recording_record an_Recording_record : Option Addr} {sl_Recording_record : Array (Option Value)} {oc_Recording_record kV_Recording_record dc_Recording_record pm_Recording_record cd_Recording_record ct_Recording_record : Value}
    {od_Recording_keep an_Recording_keep : Option Addr} {sl_Recording_keep : Array (Option Value)} {oc_Recording_keep kV_Recording_keep dc_Recording_keep pm_Recording_keep cd_Recording_keep ct_Recording_keep : Value}
    {od_Recording_forget_behind an_Recording_forget_behind : Option Addr} {sl_Recording_forget_behind : Array (Option Value)} {oc_Recording_forget_behind kV_Recording_forget_behind dc_Recording_forget_behind pm_Recording_forget_behind cd_Recording_forget_behind ct_Recording_forget_behind : Value}
    {od_Recording_forget_states_behind an_Recording_forget_states_behind : Option Addr} {sl_Recording_forget_states_behind : Array (Option Value)} {oc_Recording_forget_states_behind kV_Recording_forget_states_behind dc_Recording_forget_states_behind pm_Recording_forget_states_behind cd_Recording_forget_states_behind ct_Recording_forget_states_behind : Value}
    {od_Recording_press_otherwise an_Recording_press_otherwise : Option Addr} {sl_Recording_press_otherwise : Array (Option Value)} {oc_Recording_press_otherwise kV_Recording_press_otherwise dc_Recording_press_otherwise pm_Recording_press_otherwise cd_Recording_press_otherwise ct_Recording_press_otherwise : Value}
    {od_are_keys_of an_are_keys_of : Option Addr} {sl_are_keys_of : Array (Option Value)} {oc_are_keys_of kV_are_keys_of dc_are_keys_of pm_are_keys_of cd_are_keys_of ct_are_keys_of : Value}
    {od_Line_init an_Line_init : Option Addr} {sl_Line_init : Array (Option Value)} {oc_Line_init kV_Line_init dc_Line_init pm_Line_init cd_Line_init ct_Line_init : Value}
    {od_Line_begins an_Line_begins : Option Addr} {sl_Line_begins : Array (Option Value)} {oc_Line_begins kV_Line_begins dc_Line_begins pm_Line_begins cd_Line_begins ct_Line_begins : Value}
    {od_Line_press an_Line_press : Option Addr} {sl_Line_press : Array (Option Value)} {oc_Line_press kV_Line_press dc_Line_press pm_Line_press cd_Line_press ct_Line_press : Value}
    {od_Line_hold an_Line_hold : Option Addr} {sl_Line_hold : Array (Option Value)} {oc_Line_hold kV_Line_hold dc_Line_hold pm_Line_hold cd_Line_hold ct_Line_hold : Value}
    {od_Line_seek an_Line_seek : Option Addr} {sl_Line_seek : Array (Option Value)} {oc_Line_seek kV_Line_seek dc_Line_seek pm_Line_seek cd_Line_seek ct_Line_seek : Value}
    {od_Line_cut an_Line_cut : Option Addr} {sl_Line_cut : Array (Option Value)} {oc_Line_cut kV_Line_cut dc_Line_cut pm_Line_cut cd_Line_cut ct_Line_cut : Value}
    {od_Line_put_by an_Line_put_by : Option Addr} {sl_Line_put_by : Array (Option Value)} {oc_Line_put_by kV_Line_put_by dc_Line_put_by pm_Line_put_by cd_Line_put_by ct_Line_put_by : Value}
    {od_Line_swap an_Line_swap : Option Addr} {sl_Line_swap : Array (Option Value)} {oc_Line_swap kV_Line_swap dc_Line_swap pm_Line_swap cd_Line_swap ct_Line_swap : Value}
    {od_Line_differ an_Line_differ : Option Addr} {sl_Line_differ : Array (Option Value)} {oc_Line_differ kV_Line_differ dc_Line_differ pm_Line_differ cd_Line_differ ct_Line_differ : Value}
    {od_Line_kept an_Line_kept : Option Addr} {sl_Line_kept : Array (Option Value)} {oc_Line_kept kV_Line_kept dc_Line_kept pm_Line_kept cd_Line_kept ct_Line_kept : Value}
    {od_Line_sum_at an_Line_sum_at : Option Addr} {sl_Line_sum_at : Array (Option Value)} {oc_Line_sum_at kV_Line_sum_at dc_Line_sum_at pm_Line_sum_at cd_Line_sum_at ct_Line_sum_at : Value}
    {od_Line_keys_behind an_Line_keys_behind : Option Addr} {sl_Line_keys_behind : Array (Option Value)} {oc_Line_keys_behind kV_Line_keys_behind dc_Line_keys_behind pm_Line_keys_behind cd_Line_keys_behind ct_Line_keys_behind : Value}
    {od_Line_spoil an_Line_spoil : Option Addr} {sl_Line_spoil : Array (Option Value)} {oc_Line_spoil kV_Line_spoil dc_Line_spoil pm_Line_spoil cd_Line_spoil ct_Line_spoil : Value}
    {od_Reader_init an_Reader_init : Option Addr} {sl_Reader_init : Array (Option Value)} {oc_Reader_init kV_Reader_init dc_Reader_init pm_Reader_init cd_Reader_init ct_Reader_init : Value}
    {od_Reader_has_more an_Reader_has_more : Option Addr} {sl_Reader_has_more : Array (Option Value)} {oc_Reader_has_more kV_Reader_has_more dc_Reader_has_more pm_Reader_has_more cd_Reader_has_more ct_Reader_has_more : Value}
    {od_Reader_number an_Reader_number : Option Addr} {sl_Reader_number : Array (Option Value)} {oc_Reader_number kV_Reader_number dc_Reader_number pm_Reader_number cd_Reader_number ct_Reader_number : Value}
    {od_Reader_row an_Reader_row : Option Addr} {sl_Reader_row : Array (Option Value)} {oc_Reader_row kV_Reader_row dc_Reader_row pm_Reader_row cd_Reader_row ct_Reader_row : Value}
    {od_answer_change an_answer_change : Option Addr} {sl_answer_change : Array (Option Value)} {oc_answer_change kV_answer_change dc_answer_change pm_answer_change cd_answer_change ct_answer_change : Value}
    {od_answer_next an_answer_next : Option Addr} {sl_answer_next : Array (Option Value)} {oc_answer_next kV_answer_next dc_answer_next pm_answer_next cd_answer_next ct_answer_next : Value}
    {od_answers an_answers : Option Addr} {sl_answers : Array (Option Value)} {oc_answers kV_answers dc_answers pm_answers cd_answers ct_answers : Value}
    {tk_FIELD_SIZE : Tok}
    {tk_LUCK_RANGE : Tok}
    {tk_LUCK_PER_PLACE : Tok}
    {tk_SUM_RANGE : Tok}
    {tk_MOST_STATES : Tok}
    {tk_TICKS_PER_STATE : Tok}
    {tk_MOST_PLAYERS : Tok}
    {tk_MOST_TICKS : Tok}
    {tk_NOT_ALLOWED : Tok}
    {tk_NO_SUCH_TICK : Tok}
    {tk_TOO_MANY_TICKS : Tok}
    {tk_ALIKE : Tok}
    {tk_BEGINS : Tok}
    {tk_PRESS : Tok}
    {tk_HOLD : Tok}
    {tk_SEEK : Tok}
    {tk_CUT : Tok}
    {tk_PUT_BY : Tok}
    {tk_SWAP : Tok}
    {tk_DIFFER : Tok}
    {tk_KEPT : Tok}
    {tk_SUM_AT : Tok}
    {tk_KEYS : Tok}
    {tk_SPOIL : Tok}
    {tk_FIRST_COIN_0 : Tok}
    {tk_FIRST_COIN_1 : Tok}
    {od_FIRST_COIN : Option Addr} {sl_FIRST_COIN : Array (Option Value)} {nn_FIRST_COIN : Nat}
    {od_STEPS : Option Addr} {sl_STEPS : Array (Option Value)} {nn_STEPS : Nat}
    {tk_STEPS_0_0 : Tok}
    {tk_STEPS_0_1 : Tok}
    {od_STEPS_0 : Option Addr} {sl_STEPS_0 : Array (Option Value)} {nn_STEPS_0 : Nat}
    {tk_STEPS_1_0 : Tok}
    {tk_STEPS_1_1 : Tok}
    {od_STEPS_1 : Option Addr} {sl_STEPS_1 : Array (Option Value)} {nn_STEPS_1 : Nat}
    {tk_STEPS_2_0 : Tok}
    {tk_STEPS_2_1 : Tok}
    {od_STEPS_2 : Option Addr} {sl_STEPS_2 : Array (Option Value)} {nn_STEPS_2 : Nat}
    {tk_STEPS_3_0 : Tok}
    {tk_STEPS_3_1 : Tok}
    {od_STEPS_3 : Option Addr} {sl_STEPS_3 : Array (Option Value)} {nn_STEPS_3 : Nat}
    {tk_STEPS_4_0 : Tok}
    {tk_STEPS_4_1 : Tok}
    {od_STEPS_4 : Option Addr} {sl_STEPS_4 : Array (Option Value)} {nn_STEPS_4 : Nat}
    (g_Player : PySem.W.nsIn K mainGlobals "Player" = some (some (.ref c_Player)))
    (pg_Player : PySem.W.plainGet K c_Player Str.empty = true)
    (hd_Player : PySem.W.hasDictIn K c_Player = true)
    (po_Player : PySem.W.plainOver K c_Player = true)
    (sa_Player : PySem.W.findIn K (.ref c_Player) "__setattr__" = some (some (.builtin "object.__setattr__")))
    (mk_Player : PySem.W.makesIn K c_Player = true)
    (kc_Player : PySem.W.keepIn K (.ref c_Player) = true)
    (na_Player_place : PySem.W.findIn K (.ref c_Player) "place" = some none)
    (na_Player_points : PySem.W.findIn K (.ref c_Player) "points" = some none)
    (g_World : PySem.W.nsIn K mainGlobals "World" = some (some (.ref c_World)))
    (pg_World : PySem.W.plainGet K c_World Str.empty = true)
    (hd_World : PySem.W.hasDictIn K c_World = true)
    (po_World : PySem.W.plainOver K c_World = true)
    (sa_World : PySem.W.findIn K (.ref c_World) "__setattr__" = some (some (.builtin "object.__setattr__")))
    (mk_World : PySem.W.makesIn K c_World = true)
    (kc_World : PySem.W.keepIn K (.ref c_World) = true)
    (na_World_players : PySem.W.findIn K (.ref c_World) "players" = some none)
    (na_World_coin : PySem.W.findIn K (.ref c_World) "coin" = some none)
    (na_World_luck : PySem.W.findIn K (.ref c_World) "luck" = some none)
    (g_State : PySem.W.nsIn K mainGlobals "State" = some (some (.ref c_State)))
    (pg_State : PySem.W.plainGet K c_State Str.empty = true)
    (hd_State : PySem.W.hasDictIn K c_State = true)
    (po_State : PySem.W.plainOver K c_State = true)
    (sa_State : PySem.W.findIn K (.ref c_State) "__setattr__" = some (some (.builtin "object.__setattr__")))
    (mk_State : PySem.W.makesIn K c_State = true)
    (kc_State : PySem.W.keepIn K (.ref c_State) = true)
    (na_State_tick : PySem.W.findIn K (.ref c_State) "tick" = some none)
    (na_State_world : PySem.W.findIn K (.ref c_State) "world" = some none)
    (g_Recording : PySem.W.nsIn K mainGlobals "Recording" = some (some (.ref c_Recording)))
    (pg_Recording : PySem.W.plainGet K c_Recording Str.empty = true)
    (hd_Recording : PySem.W.hasDictIn K c_Recording = true)
    (po_Recording : PySem.W.plainOver K c_Recording = true)
    (sa_Recording : PySem.W.findIn K (.ref c_Recording) "__setattr__" = some (some (.builtin "object.__setattr__")))
    (mk_Recording : PySem.W.makesIn K c_Recording = true)
    (kc_Recording : PySem.W.keepIn K (.ref c_Recording) = true)
    (na_Recording_how_many : PySem.W.findIn K (.ref c_Recording) "how_many" = some none)
    (na_Recording_seed : PySem.W.findIn K (.ref c_Recording) "seed" = some none)
    (na_Recording_presses : PySem.W.findIn K (.ref c_Recording) "presses" = some none)
    (na_Recording_states : PySem.W.findIn K (.ref c_Recording) "states" = some none)
    (g_Line : PySem.W.nsIn K mainGlobals "Line" = some (some (.ref c_Line)))
    (pg_Line : PySem.W.plainGet K c_Line Str.empty = true)
    (hd_Line : PySem.W.hasDictIn K c_Line = true)
    (po_Line : PySem.W.plainOver K c_Line = true)
    (sa_Line : PySem.W.findIn K (.ref c_Line) "__setattr__" = some (some (.builtin "object.__setattr__")))
    (mk_Line : PySem.W.makesIn K c_Line = true)
    (kc_Line : PySem.W.keepIn K (.ref c_Line) = true)
    (na_Line_going : PySem.W.findIn K (.ref c_Line) "going" = some none)
    (na_Line_aside : PySem.W.findIn K (.ref c_Line) "aside" = some none)
    (g_Reader : PySem.W.nsIn K mainGlobals "Reader" = some (some (.ref c_Reader)))
    (pg_Reader : PySem.W.plainGet K c_Reader Str.empty = true)
    (hd_Reader : PySem.W.hasDictIn K c_Reader = true)
    (po_Reader : PySem.W.plainOver K c_Reader = true)
    (sa_Reader : PySem.W.findIn K (.ref c_Reader) "__setattr__" = some (some (.builtin "object.__setattr__")))
    (mk_Reader : PySem.W.makesIn K c_Reader = true)
    (kc_Reader : PySem.W.keepIn K (.ref c_Reader) = true)
    (na_Reader_numbers : PySem.W.findIn K (.ref c_Reader) "numbers" = some none)
    (na_Reader_at : PySem.W.findIn K (.ref c_Reader) "at" = some none)
    (m_Player_init : PySem.W.findIn K (.ref c_Player) "__init__" = some (some (.ref f_Player_init)))
    (i_Player_init : PySem.W.isFn K (.ref f_Player_init) = true)
    (l_Player_init : K.lookup f_Player_init = some ⟨oc_Player_init, od_Player_init, .func (PySem.W.fnOf "__init__" "Player.__init__" (defArgs s_Player_init) (defBody s_Player_init) (defScope s_Player_init) .none kV_Player_init dc_Player_init pm_Player_init an_Player_init cd_Player_init ct_Player_init), sl_Player_init⟩)
    (x_Player_init : PySem.W.codeIn K cd_Player_init "Player.__init__" = true)
    (k_Player_init : PySem.W.keepIn K (.ref f_Player_init) = true)
    (m_World_init : PySem.W.findIn K (.ref c_World) "__init__" = some (some (.ref f_World_init)))
    (i_World_init : PySem.W.isFn K (.ref f_World_init) = true)
    (l_World_init : K.lookup f_World_init = some ⟨oc_World_init, od_World_init, .func (PySem.W.fnOf "__init__" "World.__init__" (defArgs s_World_init) (defBody s_World_init) (defScope s_World_init) .none kV_World_init dc_World_init pm_World_init an_World_init cd_World_init ct_World_init), sl_World_init⟩)
    (x_World_init : PySem.W.codeIn K cd_World_init "World.__init__" = true)
    (k_World_init : PySem.W.keepIn K (.ref f_World_init) = true)
    (m_first_world : PySem.W.nsIn K mainGlobals "first_world" = some (some (.ref f_first_world)))
    (l_first_world : K.lookup f_first_world = some ⟨oc_first_world, od_first_world, .func (PySem.W.fnOf "first_world" "first_world" (defArgs s_first_world) (defBody s_first_world) (defScope s_first_world) .none kV_first_world dc_first_world pm_first_world an_first_world cd_first_world ct_first_world), sl_first_world⟩)
    (x_first_world : PySem.W.codeIn K cd_first_world "first_world" = true)
    (k_first_world : PySem.W.keepIn K (.ref f_first_world) = true)
    (m_next_luck : PySem.W.nsIn K mainGlobals "next_luck" = some (some (.ref f_next_luck)))
    (l_next_luck : K.lookup f_next_luck = some ⟨oc_next_luck, od_next_luck, .func (PySem.W.fnOf "next_luck" "next_luck" (defArgs s_next_luck) (defBody s_next_luck) (defScope s_next_luck) .none kV_next_luck dc_next_luck pm_next_luck an_next_luck cd_next_luck ct_next_luck), sl_next_luck⟩)
    (x_next_luck : PySem.W.codeIn K cd_next_luck "next_luck" = true)
    (k_next_luck : PySem.W.keepIn K (.ref f_next_luck) = true)
    (m_column_or_row : PySem.W.nsIn K mainGlobals "column_or_row" = some (some (.ref f_column_or_row)))
    (l_column_or_row : K.lookup f_column_or_row = some ⟨oc_column_or_row, od_column_or_row, .func (PySem.W.fnOf "column_or_row" "column_or_row" (defArgs s_column_or_row) (defBody s_column_or_row) (defScope s_column_or_row) .none kV_column_or_row dc_column_or_row pm_column_or_row an_column_or_row cd_column_or_row ct_column_or_row), sl_column_or_row⟩)
    (x_column_or_row : PySem.W.codeIn K cd_column_or_row "column_or_row" = true)
    (k_column_or_row : PySem.W.keepIn K (.ref f_column_or_row) = true)
    (m_is_key : PySem.W.nsIn K mainGlobals "is_key" = some (some (.ref f_is_key)))
    (l_is_key : K.lookup f_is_key = some ⟨oc_is_key, od_is_key, .func (PySem.W.fnOf "is_key" "is_key" (defArgs s_is_key) (defBody s_is_key) (defScope s_is_key) .none kV_is_key dc_is_key pm_is_key an_is_key cd_is_key ct_is_key), sl_is_key⟩)
    (x_is_key : PySem.W.codeIn K cd_is_key "is_key" = true)
    (k_is_key : PySem.W.keepIn K (.ref f_is_key) = true)
    (m_place_ahead : PySem.W.nsIn K mainGlobals "place_ahead" = some (some (.ref f_place_ahead)))
    (l_place_ahead : K.lookup f_place_ahead = some ⟨oc_place_ahead, od_place_ahead, .func (PySem.W.fnOf "place_ahead" "place_ahead" (defArgs s_place_ahead) (defBody s_place_ahead) (defScope s_place_ahead) .none kV_place_ahead dc_place_ahead pm_place_ahead an_place_ahead cd_place_ahead ct_place_ahead), sl_place_ahead⟩)
    (x_place_ahead : PySem.W.codeIn K cd_place_ahead "place_ahead" = true)
    (k_place_ahead : PySem.W.keepIn K (.ref f_place_ahead) = true)
    (m_with_player : PySem.W.nsIn K mainGlobals "with_player" = some (some (.ref f_with_player)))
    (l_with_player : K.lookup f_with_player = some ⟨oc_with_player, od_with_player, .func (PySem.W.fnOf "with_player" "with_player" (defArgs s_with_player) (defBody s_with_player) (defScope s_with_player) .none kV_with_player dc_with_player pm_with_player an_with_player cd_with_player ct_with_player), sl_with_player⟩)
    (x_with_player : PySem.W.codeIn K cd_with_player "with_player" = true)
    (k_with_player : PySem.W.keepIn K (.ref f_with_player) = true)
    (m_after_key : PySem.W.nsIn K mainGlobals "after_key" = some (some (.ref f_after_key)))
    (l_after_key : K.lookup f_after_key = some ⟨oc_after_key, od_after_key, .func (PySem.W.fnOf "after_key" "after_key" (defArgs s_after_key) (defBody s_after_key) (defScope s_after_key) .none kV_after_key dc_after_key pm_after_key an_after_key cd_after_key ct_after_key), sl_after_key⟩)
    (x_after_key : PySem.W.codeIn K cd_after_key "after_key" = true)
    (k_after_key : PySem.W.keepIn K (.ref f_after_key) = true)
    (m_after_tick : PySem.W.nsIn K mainGlobals "after_tick" = some (some (.ref f_after_tick)))
    (l_after_tick : K.lookup f_after_tick = some ⟨oc_after_tick, od_after_tick, .func (PySem.W.fnOf "after_tick" "after_tick" (defArgs s_after_tick) (defBody s_after_tick) (defScope s_after_tick) .none kV_after_tick dc_after_tick pm_after_tick an_after_tick cd_after_tick ct_after_tick), sl_after_tick⟩)
    (x_after_tick : PySem.W.codeIn K cd_after_tick "after_tick" = true)
    (k_after_tick : PySem.W.keepIn K (.ref f_after_tick) = true)
    (m_world_numbers : PySem.W.nsIn K mainGlobals "world_numbers" = some (some (.ref f_world_numbers)))
    (l_world_numbers : K.lookup f_world_numbers = some ⟨oc_world_numbers, od_world_numbers, .func (PySem.W.fnOf "world_numbers" "world_numbers" (defArgs s_world_numbers) (defBody s_world_numbers) (defScope s_world_numbers) .none kV_world_numbers dc_world_numbers pm_world_numbers an_world_numbers cd_world_numbers ct_world_numbers), sl_world_numbers⟩)
    (x_world_numbers : PySem.W.codeIn K cd_world_numbers "world_numbers" = true)
    (k_world_numbers : PySem.W.keepIn K (.ref f_world_numbers) = true)
    (m_numbers_with_luck : PySem.W.nsIn K mainGlobals "numbers_with_luck" = some (some (.ref f_numbers_with_luck)))
    (l_numbers_with_luck : K.lookup f_numbers_with_luck = some ⟨oc_numbers_with_luck, od_numbers_with_luck, .func (PySem.W.fnOf "numbers_with_luck" "numbers_with_luck" (defArgs s_numbers_with_luck) (defBody s_numbers_with_luck) (defScope s_numbers_with_luck) .none kV_numbers_with_luck dc_numbers_with_luck pm_numbers_with_luck an_numbers_with_luck cd_numbers_with_luck ct_numbers_with_luck), sl_numbers_with_luck⟩)
    (x_numbers_with_luck : PySem.W.codeIn K cd_numbers_with_luck "numbers_with_luck" = true)
    (k_numbers_with_luck : PySem.W.keepIn K (.ref f_numbers_with_luck) = true)
    (m_are_alike : PySem.W.nsIn K mainGlobals "are_alike" = some (some (.ref f_are_alike)))
    (l_are_alike : K.lookup f_are_alike = some ⟨oc_are_alike, od_are_alike, .func (PySem.W.fnOf "are_alike" "are_alike" (defArgs s_are_alike) (defBody s_are_alike) (defScope s_are_alike) .none kV_are_alike dc_are_alike pm_are_alike an_are_alike cd_are_alike ct_are_alike), sl_are_alike⟩)
    (x_are_alike : PySem.W.codeIn K cd_are_alike "are_alike" = true)
    (k_are_alike : PySem.W.keepIn K (.ref f_are_alike) = true)
    (m_world_sum : PySem.W.nsIn K mainGlobals "world_sum" = some (some (.ref f_world_sum)))
    (l_world_sum : K.lookup f_world_sum = some ⟨oc_world_sum, od_world_sum, .func (PySem.W.fnOf "world_sum" "world_sum" (defArgs s_world_sum) (defBody s_world_sum) (defScope s_world_sum) .none kV_world_sum dc_world_sum pm_world_sum an_world_sum cd_world_sum ct_world_sum), sl_world_sum⟩)
    (x_world_sum : PySem.W.codeIn K cd_world_sum "world_sum" = true)
    (k_world_sum : PySem.W.keepIn K (.ref f_world_sum) = true)
    (m_State_init : PySem.W.findIn K (.ref c_State) "__init__" = some (some (.ref f_State_init)))
    (i_State_init : PySem.W.isFn K (.ref f_State_init) = true)
    (l_State_init : K.lookup f_State_init = some ⟨oc_State_init, od_State_init, .func (PySem.W.fnOf "__init__" "State.__init__" (defArgs s_State_init) (defBody s_State_init) (defScope s_State_init) .none kV_State_init dc_State_init pm_State_init an_State_init cd_State_init ct_State_init), sl_State_init⟩)
    (x_State_init : PySem.W.codeIn K cd_State_init "State.__init__" = true)
    (k_State_init : PySem.W.keepIn K (.ref f_State_init) = true)
    (m_which_state_goes : PySem.W.nsIn K mainGlobals "which_state_goes" = some (some (.ref f_which_state_goes)))
    (l_which_state_goes : K.lookup f_which_state_goes = some ⟨oc_which_state_goes, od_which_state_goes, .func (PySem.W.fnOf "which_state_goes" "which_state_goes" (defArgs s_which_state_goes) (defBody s_which_state_goes) (defScope s_which_state_goes) .none kV_which_state_goes dc_which_state_goes pm_which_state_goes an_which_state_goes cd_which_state_goes ct_which_state_goes), sl_which_state_goes⟩)
    (x_which_state_goes : PySem.W.codeIn K cd_which_state_goes "which_state_goes" = true)
    (k_which_state_goes : PySem.W.keepIn K (.ref f_which_state_goes) = true)
    (m_Recording_init : PySem.W.findIn K (.ref c_Recording) "__init__" = some (some (.ref f_Recording_init)))
    (i_Recording_init : PySem.W.isFn K (.ref f_Recording_init) = true)
    (l_Recording_init : K.lookup f_Recording_init = some ⟨oc_Recording_init, od_Recording_init, .func (PySem.W.fnOf "__init__" "Recording.__init__" (defArgs s_Recording_init) (defBody s_Recording_init) (defScope s_Recording_init) .none kV_Recording_init dc_Recording_init pm_Recording_init an_Recording_init cd_Recording_init ct_Recording_init), sl_Recording_init⟩)
    (x_Recording_init : PySem.W.codeIn K cd_Recording_init "Recording.__init__" = true)
    (k_Recording_init : PySem.W.keepIn K (.ref f_Recording_init) = true)
    (m_Recording_ticks : PySem.W.findIn K (.ref c_Recording) "ticks" = some (some (.ref f_Recording_ticks)))
    (i_Recording_ticks : PySem.W.isFn K (.ref f_Recording_ticks) = true)
    (l_Recording_ticks : K.lookup f_Recording_ticks = some ⟨oc_Recording_ticks, od_Recording_ticks, .func (PySem.W.fnOf "ticks" "Recording.ticks" (defArgs s_Recording_ticks) (defBody s_Recording_ticks) (defScope s_Recording_ticks) .none kV_Recording_ticks dc_Recording_ticks pm_Recording_ticks an_Recording_ticks cd_Recording_ticks ct_Recording_ticks), sl_Recording_ticks⟩)
    (x_Recording_ticks : PySem.W.codeIn K cd_Recording_ticks "Recording.ticks" = true)
    (k_Recording_ticks : PySem.W.keepIn K (.ref f_Recording_ticks) = true)
    (m_Recording_twin : PySem.W.findIn K (.ref c_Recording) "twin" = some (some (.ref f_Recording_twin)))
    (i_Recording_twin : PySem.W.isFn K (.ref f_Recording_twin) = true)
    (l_Recording_twin : K.lookup f_Recording_twin = some ⟨oc_Recording_twin, od_Recording_twin, .func (PySem.W.fnOf "twin" "Recording.twin" (defArgs s_Recording_twin) (defBody s_Recording_twin) (defScope s_Recording_twin) .none kV_Recording_twin dc_Recording_twin pm_Recording_twin an_Recording_twin cd_Recording_twin ct_Recording_twin), sl_Recording_twin⟩)
    (x_Recording_twin : PySem.W.codeIn K cd_Recording_twin "Recording.twin" = true)
    (k_Recording_twin : PySem.W.keepIn K (.ref f_Recording_twin) = true)
    (m_Recording_state_ahead : PySem.W.findIn K (.ref c_Recording) "state_ahead" = some (some (.ref f_Recording_state_ahead)))
    (i_Recording_state_ahead : PySem.W.isFn K (.ref f_Recording_state_ahead) = true)
    (l_Recording_state_ahead : K.lookup f_Recording_state_ahead = some ⟨oc_Recording_state_ahead, od_Recording_state_ahead, .func (PySem.W.fnOf "state_ahead" "Recording.state_ahead" (defArgs s_Recording_state_ahead) (defBody s_Recording_state_ahead) (defScope s_Recording_state_ahead) .none kV_Recording_state_ahead dc_Recording_state_ahead pm_Recording_state_ahead an_Recording_state_ahead cd_Recording_state_ahead ct_Recording_state_ahead), sl_Recording_state_ahead⟩)
    (x_Recording_state_ahead : PySem.W.codeIn K cd_Recording_state_ahead "Recording.state_ahead" = true)
    (k_Recording_state_ahead : PySem.W.keepIn K (.ref f_Recording_state_ahead) = true)
    (m_Recording_world_from : PySem.W.findIn K (.ref c_Recording) "world_from" = some (some (.ref f_Recording_world_from)))
    (i_Recording_world_from : PySem.W.isFn K (.ref f_Recording_world_from) = true)
    (l_Recording_world_from : K.lookup f_Recording_world_from = some ⟨oc_Recording_world_from, od_Recording_world_from, .func (PySem.W.fnOf "world_from" "Recording.world_from" (defArgs s_Recording_world_from) (defBody s_Recording_world_from) (defScope s_Recording_world_from) .none kV_Recording_world_from dc_Recording_world_from pm_Recording_world_from an_Recording_world_from cd_Recording_world_from ct_Recording_world_from), sl_Recording_world_from⟩)
    (x_Recording_world_from : PySem.W.codeIn K cd_Recording_world_from "Recording.world_from" = true)
    (k_Recording_world_from : PySem.W.keepIn K (.ref f_Recording_world_from) = true)
    (m_Recording_world_at : PySem.W.findIn K (.ref c_Recording) "world_at" = some (some (.ref f_Recording_world_at)))
    (i_Recording_world_at : PySem.W.isFn K (.ref f_Recording_world_at) = true)
    (l_Recording_world_at : K.lookup f_Recording_world_at = some ⟨oc_Recording_world_at, od_Recording_world_at, .func (PySem.W.fnOf "world_at" "Recording.world_at" (defArgs s_Recording_world_at) (defBody s_Recording_world_at) (defScope s_Recording_world_at) .none kV_Recording_world_at dc_Recording_world_at pm_Recording_world_at an_Recording_world_at cd_Recording_world_at ct_Recording_world_at), sl_Recording_world_at⟩)
    (x_Recording_world_at : PySem.W.codeIn K cd_Recording_world_at "Recording.world_at" = true)
    (k_Recording_world_at : PySem.W.keepIn K (.ref f_Recording_world_at) = true)
    (m_Recording_all_worlds : PySem.W.findIn K (.ref c_Recording) "all_worlds" = some (some (.ref f_Recording_all_worlds)))
    (i_Recording_all_worlds : PySem.W.isFn K (.ref f_Recording_all_worlds) = true)
    (l_Recording_all_worlds : K.lookup f_Recording_all_worlds = some ⟨oc_Recording_all_worlds, od_Recording_all_worlds, .func (PySem.W.fnOf "all_worlds" "Recording.all_worlds" (defArgs s_Recording_all_worlds) (defBody s_Recording_all_worlds) (defScope s_Recording_all_worlds) .none kV_Recording_all_worlds dc_Recording_all_worlds pm_Recording_all_worlds an_Recording_all_worlds cd_Recording_all_worlds ct_Recording_all_worlds), sl_Recording_all_worlds⟩)
    (x_Recording_all_worlds : PySem.W.codeIn K cd_Recording_all_worlds "Recording.all_worlds" = true)
    (k_Recording_all_worlds : PySem.W.keepIn K (.ref f_Recording_all_worlds) = true)
    (m_Recording_record : PySem.W.findIn K (.ref c_Recording) "record" = some (some (.ref f_Recording_record)))
    (i_Recording_record : PySem.W.isFn K (.ref f_Recording_record) = true)
    (l_Recording_record : K.lookup f_Recording_record = some ⟨oc_Recording_record, od_Recording_record, .func (PySem.W.fnOf "record" "Recording.record" (defArgs s_Recording_record) (defBody s_Recording_record) (defScope s_Recording_record) .none kV_Recording_record dc_Recording_record pm_Recording_record an_Recording_record cd_Recording_record ct_Recording_record), sl_Recording_record⟩)
    (x_Recording_record : PySem.W.codeIn K cd_Recording_record "Recording.record" = true)
    (k_Recording_record : PySem.W.keepIn K (.ref f_Recording_record) = true)
    (m_Recording_keep : PySem.W.findIn K (.ref c_Recording) "keep" = some (some (.ref f_Recording_keep)))
    (i_Recording_keep : PySem.W.isFn K (.ref f_Recording_keep) = true)
    (l_Recording_keep : K.lookup f_Recording_keep = some ⟨oc_Recording_keep, od_Recording_keep, .func (PySem.W.fnOf "keep" "Recording.keep" (defArgs s_Recording_keep) (defBody s_Recording_keep) (defScope s_Recording_keep) .none kV_Recording_keep dc_Recording_keep pm_Recording_keep an_Recording_keep cd_Recording_keep ct_Recording_keep), sl_Recording_keep⟩)
    (x_Recording_keep : PySem.W.codeIn K cd_Recording_keep "Recording.keep" = true)
    (k_Recording_keep : PySem.W.keepIn K (.ref f_Recording_keep) = true)
    (m_Recording_forget_behind : PySem.W.findIn K (.ref c_Recording) "forget_behind" = some (some (.ref f_Recording_forget_behind)))
    (i_Recording_forget_behind : PySem.W.isFn K (.ref f_Recording_forget_behind) = true)
    (l_Recording_forget_behind : K.lookup f_Recording_forget_behind = some ⟨oc_Recording_forget_behind, od_Recording_forget_behind, .func (PySem.W.fnOf "forget_behind" "Recording.forget_behind" (defArgs s_Recording_forget_behind) (defBody s_Recording_forget_behind) (defScope s_Recording_forget_behind) .none kV_Recording_forget_behind dc_Recording_forget_behind pm_Recording_forget_behind an_Recording_forget_behind cd_Recording_forget_behind ct_Recording_forget_behind), sl_Recording_forget_behind⟩)
    (x_Recording_forget_behind : PySem.W.codeIn K cd_Recording_forget_behind "Recording.forget_behind" = true)
    (k_Recording_forget_behind : PySem.W.keepIn K (.ref f_Recording_forget_behind) = true)
    (m_Recording_forget_states_behind : PySem.W.findIn K (.ref c_Recording) "forget_states_behind" = some (some (.ref f_Recording_forget_states_behind)))
    (i_Recording_forget_states_behind : PySem.W.isFn K (.ref f_Recording_forget_states_behind) = true)
    (l_Recording_forget_states_behind : K.lookup f_Recording_forget_states_behind = some ⟨oc_Recording_forget_states_behind, od_Recording_forget_states_behind, .func (PySem.W.fnOf "forget_states_behind" "Recording.forget_states_behind" (defArgs s_Recording_forget_states_behind) (defBody s_Recording_forget_states_behind) (defScope s_Recording_forget_states_behind) .none kV_Recording_forget_states_behind dc_Recording_forget_states_behind pm_Recording_forget_states_behind an_Recording_forget_states_behind cd_Recording_forget_states_behind ct_Recording_forget_states_behind), sl_Recording_forget_states_behind⟩)
    (x_Recording_forget_states_behind : PySem.W.codeIn K cd_Recording_forget_states_behind "Recording.forget_states_behind" = true)
    (k_Recording_forget_states_behind : PySem.W.keepIn K (.ref f_Recording_forget_states_behind) = true)
    (m_Recording_press_otherwise : PySem.W.findIn K (.ref c_Recording) "press_otherwise" = some (some (.ref f_Recording_press_otherwise)))
    (i_Recording_press_otherwise : PySem.W.isFn K (.ref f_Recording_press_otherwise) = true)
    (l_Recording_press_otherwise : K.lookup f_Recording_press_otherwise = some ⟨oc_Recording_press_otherwise, od_Recording_press_otherwise, .func (PySem.W.fnOf "press_otherwise" "Recording.press_otherwise" (defArgs s_Recording_press_otherwise) (defBody s_Recording_press_otherwise) (defScope s_Recording_press_otherwise) .none kV_Recording_press_otherwise dc_Recording_press_otherwise pm_Recording_press_otherwise an_Recording_press_otherwise cd_Recording_press_otherwise ct_Recording_press_otherwise), sl_Recording_press_otherwise⟩)
    (x_Recording_press_otherwise : PySem.W.codeIn K cd_Recording_press_otherwise "Recording.press_otherwise" = true)
    (k_Recording_press_otherwise : PySem.W.keepIn K (.ref f_Recording_press_otherwise) = true)
    (m_are_keys_of : PySem.W.nsIn K mainGlobals "are_keys_of" = some (some (.ref f_are_keys_of)))
    (l_are_keys_of : K.lookup f_are_keys_of = some ⟨oc_are_keys_of, od_are_keys_of, .func (PySem.W.fnOf "are_keys_of" "are_keys_of" (defArgs s_are_keys_of) (defBody s_are_keys_of) (defScope s_are_keys_of) .none kV_are_keys_of dc_are_keys_of pm_are_keys_of an_are_keys_of cd_are_keys_of ct_are_keys_of), sl_are_keys_of⟩)
    (x_are_keys_of : PySem.W.codeIn K cd_are_keys_of "are_keys_of" = true)
    (k_are_keys_of : PySem.W.keepIn K (.ref f_are_keys_of) = true)
    (m_Line_init : PySem.W.findIn K (.ref c_Line) "__init__" = some (some (.ref f_Line_init)))
    (i_Line_init : PySem.W.isFn K (.ref f_Line_init) = true)
    (l_Line_init : K.lookup f_Line_init = some ⟨oc_Line_init, od_Line_init, .func (PySem.W.fnOf "__init__" "Line.__init__" (defArgs s_Line_init) (defBody s_Line_init) (defScope s_Line_init) .none kV_Line_init dc_Line_init pm_Line_init an_Line_init cd_Line_init ct_Line_init), sl_Line_init⟩)
    (x_Line_init : PySem.W.codeIn K cd_Line_init "Line.__init__" = true)
    (k_Line_init : PySem.W.keepIn K (.ref f_Line_init) = true)
    (m_Line_begins : PySem.W.findIn K (.ref c_Line) "begins" = some (some (.ref f_Line_begins)))
    (i_Line_begins : PySem.W.isFn K (.ref f_Line_begins) = true)
    (l_Line_begins : K.lookup f_Line_begins = some ⟨oc_Line_begins, od_Line_begins, .func (PySem.W.fnOf "begins" "Line.begins" (defArgs s_Line_begins) (defBody s_Line_begins) (defScope s_Line_begins) .none kV_Line_begins dc_Line_begins pm_Line_begins an_Line_begins cd_Line_begins ct_Line_begins), sl_Line_begins⟩)
    (x_Line_begins : PySem.W.codeIn K cd_Line_begins "Line.begins" = true)
    (k_Line_begins : PySem.W.keepIn K (.ref f_Line_begins) = true)
    (m_Line_press : PySem.W.findIn K (.ref c_Line) "press" = some (some (.ref f_Line_press)))
    (i_Line_press : PySem.W.isFn K (.ref f_Line_press) = true)
    (l_Line_press : K.lookup f_Line_press = some ⟨oc_Line_press, od_Line_press, .func (PySem.W.fnOf "press" "Line.press" (defArgs s_Line_press) (defBody s_Line_press) (defScope s_Line_press) .none kV_Line_press dc_Line_press pm_Line_press an_Line_press cd_Line_press ct_Line_press), sl_Line_press⟩)
    (x_Line_press : PySem.W.codeIn K cd_Line_press "Line.press" = true)
    (k_Line_press : PySem.W.keepIn K (.ref f_Line_press) = true)
    (m_Line_hold : PySem.W.findIn K (.ref c_Line) "hold" = some (some (.ref f_Line_hold)))
    (i_Line_hold : PySem.W.isFn K (.ref f_Line_hold) = true)
    (l_Line_hold : K.lookup f_Line_hold = some ⟨oc_Line_hold, od_Line_hold, .func (PySem.W.fnOf "hold" "Line.hold" (defArgs s_Line_hold) (defBody s_Line_hold) (defScope s_Line_hold) .none kV_Line_hold dc_Line_hold pm_Line_hold an_Line_hold cd_Line_hold ct_Line_hold), sl_Line_hold⟩)
    (x_Line_hold : PySem.W.codeIn K cd_Line_hold "Line.hold" = true)
    (k_Line_hold : PySem.W.keepIn K (.ref f_Line_hold) = true)
    (m_Line_seek : PySem.W.findIn K (.ref c_Line) "seek" = some (some (.ref f_Line_seek)))
    (i_Line_seek : PySem.W.isFn K (.ref f_Line_seek) = true)
    (l_Line_seek : K.lookup f_Line_seek = some ⟨oc_Line_seek, od_Line_seek, .func (PySem.W.fnOf "seek" "Line.seek" (defArgs s_Line_seek) (defBody s_Line_seek) (defScope s_Line_seek) .none kV_Line_seek dc_Line_seek pm_Line_seek an_Line_seek cd_Line_seek ct_Line_seek), sl_Line_seek⟩)
    (x_Line_seek : PySem.W.codeIn K cd_Line_seek "Line.seek" = true)
    (k_Line_seek : PySem.W.keepIn K (.ref f_Line_seek) = true)
    (m_Line_cut : PySem.W.findIn K (.ref c_Line) "cut" = some (some (.ref f_Line_cut)))
    (i_Line_cut : PySem.W.isFn K (.ref f_Line_cut) = true)
    (l_Line_cut : K.lookup f_Line_cut = some ⟨oc_Line_cut, od_Line_cut, .func (PySem.W.fnOf "cut" "Line.cut" (defArgs s_Line_cut) (defBody s_Line_cut) (defScope s_Line_cut) .none kV_Line_cut dc_Line_cut pm_Line_cut an_Line_cut cd_Line_cut ct_Line_cut), sl_Line_cut⟩)
    (x_Line_cut : PySem.W.codeIn K cd_Line_cut "Line.cut" = true)
    (k_Line_cut : PySem.W.keepIn K (.ref f_Line_cut) = true)
    (m_Line_put_by : PySem.W.findIn K (.ref c_Line) "put_by" = some (some (.ref f_Line_put_by)))
    (i_Line_put_by : PySem.W.isFn K (.ref f_Line_put_by) = true)
    (l_Line_put_by : K.lookup f_Line_put_by = some ⟨oc_Line_put_by, od_Line_put_by, .func (PySem.W.fnOf "put_by" "Line.put_by" (defArgs s_Line_put_by) (defBody s_Line_put_by) (defScope s_Line_put_by) .none kV_Line_put_by dc_Line_put_by pm_Line_put_by an_Line_put_by cd_Line_put_by ct_Line_put_by), sl_Line_put_by⟩)
    (x_Line_put_by : PySem.W.codeIn K cd_Line_put_by "Line.put_by" = true)
    (k_Line_put_by : PySem.W.keepIn K (.ref f_Line_put_by) = true)
    (m_Line_swap : PySem.W.findIn K (.ref c_Line) "swap" = some (some (.ref f_Line_swap)))
    (i_Line_swap : PySem.W.isFn K (.ref f_Line_swap) = true)
    (l_Line_swap : K.lookup f_Line_swap = some ⟨oc_Line_swap, od_Line_swap, .func (PySem.W.fnOf "swap" "Line.swap" (defArgs s_Line_swap) (defBody s_Line_swap) (defScope s_Line_swap) .none kV_Line_swap dc_Line_swap pm_Line_swap an_Line_swap cd_Line_swap ct_Line_swap), sl_Line_swap⟩)
    (x_Line_swap : PySem.W.codeIn K cd_Line_swap "Line.swap" = true)
    (k_Line_swap : PySem.W.keepIn K (.ref f_Line_swap) = true)
    (m_Line_differ : PySem.W.findIn K (.ref c_Line) "differ" = some (some (.ref f_Line_differ)))
    (i_Line_differ : PySem.W.isFn K (.ref f_Line_differ) = true)
    (l_Line_differ : K.lookup f_Line_differ = some ⟨oc_Line_differ, od_Line_differ, .func (PySem.W.fnOf "differ" "Line.differ" (defArgs s_Line_differ) (defBody s_Line_differ) (defScope s_Line_differ) .none kV_Line_differ dc_Line_differ pm_Line_differ an_Line_differ cd_Line_differ ct_Line_differ), sl_Line_differ⟩)
    (x_Line_differ : PySem.W.codeIn K cd_Line_differ "Line.differ" = true)
    (k_Line_differ : PySem.W.keepIn K (.ref f_Line_differ) = true)
    (m_Line_kept : PySem.W.findIn K (.ref c_Line) "kept" = some (some (.ref f_Line_kept)))
    (i_Line_kept : PySem.W.isFn K (.ref f_Line_kept) = true)
    (l_Line_kept : K.lookup f_Line_kept = some ⟨oc_Line_kept, od_Line_kept, .func (PySem.W.fnOf "kept" "Line.kept" (defArgs s_Line_kept) (defBody s_Line_kept) (defScope s_Line_kept) .none kV_Line_kept dc_Line_kept pm_Line_kept an_Line_kept cd_Line_kept ct_Line_kept), sl_Line_kept⟩)
    (x_Line_kept : PySem.W.codeIn K cd_Line_kept "Line.kept" = true)
    (k_Line_kept : PySem.W.keepIn K (.ref f_Line_kept) = true)
    (m_Line_sum_at : PySem.W.findIn K (.ref c_Line) "sum_at" = some (some (.ref f_Line_sum_at)))
    (i_Line_sum_at : PySem.W.isFn K (.ref f_Line_sum_at) = true)
    (l_Line_sum_at : K.lookup f_Line_sum_at = some ⟨oc_Line_sum_at, od_Line_sum_at, .func (PySem.W.fnOf "sum_at" "Line.sum_at" (defArgs s_Line_sum_at) (defBody s_Line_sum_at) (defScope s_Line_sum_at) .none kV_Line_sum_at dc_Line_sum_at pm_Line_sum_at an_Line_sum_at cd_Line_sum_at ct_Line_sum_at), sl_Line_sum_at⟩)
    (x_Line_sum_at : PySem.W.codeIn K cd_Line_sum_at "Line.sum_at" = true)
    (k_Line_sum_at : PySem.W.keepIn K (.ref f_Line_sum_at) = true)
    (m_Line_keys_behind : PySem.W.findIn K (.ref c_Line) "keys_behind" = some (some (.ref f_Line_keys_behind)))
    (i_Line_keys_behind : PySem.W.isFn K (.ref f_Line_keys_behind) = true)
    (l_Line_keys_behind : K.lookup f_Line_keys_behind = some ⟨oc_Line_keys_behind, od_Line_keys_behind, .func (PySem.W.fnOf "keys_behind" "Line.keys_behind" (defArgs s_Line_keys_behind) (defBody s_Line_keys_behind) (defScope s_Line_keys_behind) .none kV_Line_keys_behind dc_Line_keys_behind pm_Line_keys_behind an_Line_keys_behind cd_Line_keys_behind ct_Line_keys_behind), sl_Line_keys_behind⟩)
    (x_Line_keys_behind : PySem.W.codeIn K cd_Line_keys_behind "Line.keys_behind" = true)
    (k_Line_keys_behind : PySem.W.keepIn K (.ref f_Line_keys_behind) = true)
    (m_Line_spoil : PySem.W.findIn K (.ref c_Line) "spoil" = some (some (.ref f_Line_spoil)))
    (i_Line_spoil : PySem.W.isFn K (.ref f_Line_spoil) = true)
    (l_Line_spoil : K.lookup f_Line_spoil = some ⟨oc_Line_spoil, od_Line_spoil, .func (PySem.W.fnOf "spoil" "Line.spoil" (defArgs s_Line_spoil) (defBody s_Line_spoil) (defScope s_Line_spoil) .none kV_Line_spoil dc_Line_spoil pm_Line_spoil an_Line_spoil cd_Line_spoil ct_Line_spoil), sl_Line_spoil⟩)
    (x_Line_spoil : PySem.W.codeIn K cd_Line_spoil "Line.spoil" = true)
    (k_Line_spoil : PySem.W.keepIn K (.ref f_Line_spoil) = true)
    (m_Reader_init : PySem.W.findIn K (.ref c_Reader) "__init__" = some (some (.ref f_Reader_init)))
    (i_Reader_init : PySem.W.isFn K (.ref f_Reader_init) = true)
    (l_Reader_init : K.lookup f_Reader_init = some ⟨oc_Reader_init, od_Reader_init, .func (PySem.W.fnOf "__init__" "Reader.__init__" (defArgs s_Reader_init) (defBody s_Reader_init) (defScope s_Reader_init) .none kV_Reader_init dc_Reader_init pm_Reader_init an_Reader_init cd_Reader_init ct_Reader_init), sl_Reader_init⟩)
    (x_Reader_init : PySem.W.codeIn K cd_Reader_init "Reader.__init__" = true)
    (k_Reader_init : PySem.W.keepIn K (.ref f_Reader_init) = true)
    (m_Reader_has_more : PySem.W.findIn K (.ref c_Reader) "has_more" = some (some (.ref f_Reader_has_more)))
    (i_Reader_has_more : PySem.W.isFn K (.ref f_Reader_has_more) = true)
    (l_Reader_has_more : K.lookup f_Reader_has_more = some ⟨oc_Reader_has_more, od_Reader_has_more, .func (PySem.W.fnOf "has_more" "Reader.has_more" (defArgs s_Reader_has_more) (defBody s_Reader_has_more) (defScope s_Reader_has_more) .none kV_Reader_has_more dc_Reader_has_more pm_Reader_has_more an_Reader_has_more cd_Reader_has_more ct_Reader_has_more), sl_Reader_has_more⟩)
    (x_Reader_has_more : PySem.W.codeIn K cd_Reader_has_more "Reader.has_more" = true)
    (k_Reader_has_more : PySem.W.keepIn K (.ref f_Reader_has_more) = true)
    (m_Reader_number : PySem.W.findIn K (.ref c_Reader) "number" = some (some (.ref f_Reader_number)))
    (i_Reader_number : PySem.W.isFn K (.ref f_Reader_number) = true)
    (l_Reader_number : K.lookup f_Reader_number = some ⟨oc_Reader_number, od_Reader_number, .func (PySem.W.fnOf "number" "Reader.number" (defArgs s_Reader_number) (defBody s_Reader_number) (defScope s_Reader_number) .none kV_Reader_number dc_Reader_number pm_Reader_number an_Reader_number cd_Reader_number ct_Reader_number), sl_Reader_number⟩)
    (x_Reader_number : PySem.W.codeIn K cd_Reader_number "Reader.number" = true)
    (k_Reader_number : PySem.W.keepIn K (.ref f_Reader_number) = true)
    (m_Reader_row : PySem.W.findIn K (.ref c_Reader) "row" = some (some (.ref f_Reader_row)))
    (i_Reader_row : PySem.W.isFn K (.ref f_Reader_row) = true)
    (l_Reader_row : K.lookup f_Reader_row = some ⟨oc_Reader_row, od_Reader_row, .func (PySem.W.fnOf "row" "Reader.row" (defArgs s_Reader_row) (defBody s_Reader_row) (defScope s_Reader_row) .none kV_Reader_row dc_Reader_row pm_Reader_row an_Reader_row cd_Reader_row ct_Reader_row), sl_Reader_row⟩)
    (x_Reader_row : PySem.W.codeIn K cd_Reader_row "Reader.row" = true)
    (k_Reader_row : PySem.W.keepIn K (.ref f_Reader_row) = true)
    (m_answer_change : PySem.W.nsIn K mainGlobals "answer_change" = some (some (.ref f_answer_change)))
    (l_answer_change : K.lookup f_answer_change = some ⟨oc_answer_change, od_answer_change, .func (PySem.W.fnOf "answer_change" "answer_change" (defArgs s_answer_change) (defBody s_answer_change) (defScope s_answer_change) .none kV_answer_change dc_answer_change pm_answer_change an_answer_change cd_answer_change ct_answer_change), sl_answer_change⟩)
    (x_answer_change : PySem.W.codeIn K cd_answer_change "answer_change" = true)
    (k_answer_change : PySem.W.keepIn K (.ref f_answer_change) = true)
    (m_answer_next : PySem.W.nsIn K mainGlobals "answer_next" = some (some (.ref f_answer_next)))
    (l_answer_next : K.lookup f_answer_next = some ⟨oc_answer_next, od_answer_next, .func (PySem.W.fnOf "answer_next" "answer_next" (defArgs s_answer_next) (defBody s_answer_next) (defScope s_answer_next) .none kV_answer_next dc_answer_next pm_answer_next an_answer_next cd_answer_next ct_answer_next), sl_answer_next⟩)
    (x_answer_next : PySem.W.codeIn K cd_answer_next "answer_next" = true)
    (k_answer_next : PySem.W.keepIn K (.ref f_answer_next) = true)
    (m_answers : PySem.W.nsIn K mainGlobals "answers" = some (some (.ref f_answers)))
    (l_answers : K.lookup f_answers = some ⟨oc_answers, od_answers, .func (PySem.W.fnOf "answers" "answers" (defArgs s_answers) (defBody s_answers) (defScope s_answers) .none kV_answers dc_answers pm_answers an_answers cd_answers ct_answers), sl_answers⟩)
    (x_answers : PySem.W.codeIn K cd_answers "answers" = true)
    (k_answers : PySem.W.keepIn K (.ref f_answers) = true)
    (k_FIELD_SIZE : PySem.W.nsIn K mainGlobals "FIELD_SIZE" = some (some (.int (16) tk_FIELD_SIZE)))
    (k_FIRST_COIN : PySem.W.nsIn K mainGlobals "FIRST_COIN" = some (some (.ref t_FIRST_COIN)))
    (k_LUCK_RANGE : PySem.W.nsIn K mainGlobals "LUCK_RANGE" = some (some (.int (2147483648) tk_LUCK_RANGE)))
    (k_LUCK_PER_PLACE : PySem.W.nsIn K mainGlobals "LUCK_PER_PLACE" = some (some (.int (65536) tk_LUCK_PER_PLACE)))
    (k_SUM_RANGE : PySem.W.nsIn K mainGlobals "SUM_RANGE" = some (some (.int (1000000007) tk_SUM_RANGE)))
    (k_STEPS : PySem.W.nsIn K mainGlobals "STEPS" = some (some (.ref t_STEPS)))
    (k_MOST_STATES : PySem.W.nsIn K mainGlobals "MOST_STATES" = some (some (.int (6) tk_MOST_STATES)))
    (k_TICKS_PER_STATE : PySem.W.nsIn K mainGlobals "TICKS_PER_STATE" = some (some (.int (8) tk_TICKS_PER_STATE)))
    (k_MOST_PLAYERS : PySem.W.nsIn K mainGlobals "MOST_PLAYERS" = some (some (.int (4) tk_MOST_PLAYERS)))
    (k_MOST_TICKS : PySem.W.nsIn K mainGlobals "MOST_TICKS" = some (some (.int (120) tk_MOST_TICKS)))
    (k_NOT_ALLOWED : PySem.W.nsIn K mainGlobals "NOT_ALLOWED" = some (some (.int (-1) tk_NOT_ALLOWED)))
    (k_NO_SUCH_TICK : PySem.W.nsIn K mainGlobals "NO_SUCH_TICK" = some (some (.int (-2) tk_NO_SUCH_TICK)))
    (k_TOO_MANY_TICKS : PySem.W.nsIn K mainGlobals "TOO_MANY_TICKS" = some (some (.int (-5) tk_TOO_MANY_TICKS)))
    (k_ALIKE : PySem.W.nsIn K mainGlobals "ALIKE" = some (some (.int (-6) tk_ALIKE)))
    (k_BEGINS : PySem.W.nsIn K mainGlobals "BEGINS" = some (some (.int (0) tk_BEGINS)))
    (k_PRESS : PySem.W.nsIn K mainGlobals "PRESS" = some (some (.int (1) tk_PRESS)))
    (k_HOLD : PySem.W.nsIn K mainGlobals "HOLD" = some (some (.int (2) tk_HOLD)))
    (k_SEEK : PySem.W.nsIn K mainGlobals "SEEK" = some (some (.int (3) tk_SEEK)))
    (k_CUT : PySem.W.nsIn K mainGlobals "CUT" = some (some (.int (4) tk_CUT)))
    (k_PUT_BY : PySem.W.nsIn K mainGlobals "PUT_BY" = some (some (.int (5) tk_PUT_BY)))
    (k_SWAP : PySem.W.nsIn K mainGlobals "SWAP" = some (some (.int (6) tk_SWAP)))
    (k_DIFFER : PySem.W.nsIn K mainGlobals "DIFFER" = some (some (.int (7) tk_DIFFER)))
    (k_KEPT : PySem.W.nsIn K mainGlobals "KEPT" = some (some (.int (8) tk_KEPT)))
    (k_SUM_AT : PySem.W.nsIn K mainGlobals "SUM_AT" = some (some (.int (9) tk_SUM_AT)))
    (k_KEYS : PySem.W.nsIn K mainGlobals "KEYS" = some (some (.int (10) tk_KEYS)))
    (k_SPOIL : PySem.W.nsIn K mainGlobals "SPOIL" = some (some (.int (11) tk_SPOIL)))
    (q_FIRST_COIN : K.lookup t_FIRST_COIN = some ⟨.type "tuple", od_FIRST_COIN, .seq #[.int (8) tk_FIRST_COIN_0, .int (2) tk_FIRST_COIN_1] nn_FIRST_COIN, sl_FIRST_COIN⟩)
    (q_STEPS : K.lookup t_STEPS = some ⟨.type "tuple", od_STEPS, .seq #[.ref t_STEPS_0, .ref t_STEPS_1, .ref t_STEPS_2, .ref t_STEPS_3, .ref t_STEPS_4] nn_STEPS, sl_STEPS⟩)
    (q_STEPS_0 : K.lookup t_STEPS_0 = some ⟨.type "tuple", od_STEPS_0, .seq #[.int (0) tk_STEPS_0_0, .int (0) tk_STEPS_0_1] nn_STEPS_0, sl_STEPS_0⟩)
    (q_STEPS_1 : K.lookup t_STEPS_1 = some ⟨.type "tuple", od_STEPS_1, .seq #[.int (1) tk_STEPS_1_0, .int (0) tk_STEPS_1_1] nn_STEPS_1, sl_STEPS_1⟩)
    (q_STEPS_2 : K.lookup t_STEPS_2 = some ⟨.type "tuple", od_STEPS_2, .seq #[.int (0) tk_STEPS_2_0, .int (1) tk_STEPS_2_1] nn_STEPS_2, sl_STEPS_2⟩)
    (q_STEPS_3 : K.lookup t_STEPS_3 = some ⟨.type "tuple", od_STEPS_3, .seq #[.int (-1) tk_STEPS_3_0, .int (0) tk_STEPS_3_1] nn_STEPS_3, sl_STEPS_3⟩)
    (q_STEPS_4 : K.lookup t_STEPS_4 = some ⟨.type "tuple", od_STEPS_4, .seq #[.int (0) tk_STEPS_4_0, .int (-1) tk_STEPS_4_1] nn_STEPS_4, sl_STEPS_4⟩)
    (n_len : PySem.W.nsIn K mainGlobals "len" = some none)
    (n_range : PySem.W.nsIn K mainGlobals "range" = some none)
    (n_enumerate : PySem.W.nsIn K mainGlobals "enumerate" = some none)
    (n_min : PySem.W.nsIn K mainGlobals "min" = some none)
    (n_all : PySem.W.nsIn K mainGlobals "all" = some none)
    (n_list : PySem.W.nsIn K mainGlobals "list" = some none)
    (n_tuple : PySem.W.nsIn K mainGlobals "tuple" = some none) :
    ∃ fd : FuncData, (∀ (s : Shared) (us : List Value), us.length = (["calls"] : List Str).length → BindsTo s fd ⟨us, []⟩ ((["calls"] : List Str).zip us)) ∧ ∀ base : Heap, K.In base → base.Ns mainGlobals mg → FnOk P w K mg base CX0 12 fa fd ["calls"] (sp_answers K) := by
  obtain ⟨d, T, bt⟩ := txt_mk X G g_Player pg_Player hd_Player po_Player sa_Player mk_Player kc_Player na_Player_place na_Player_points g_World pg_World hd_World po_World sa_World mk_World kc_World na_World_players na_World_coin na_World_luck g_State pg_State hd_State po_State sa_State mk_State kc_State na_State_tick na_State_world g_Recording pg_Recording hd_Recording po_Recording sa_Recording mk_Recording kc_Recording na_Recording_how_many na_Recording_seed na_Recording_presses na_Recording_states g_Line pg_Line hd_Line po_Line sa_Line mk_Line kc_Line na_Line_going na_Line_aside g_Reader pg_Reader hd_Reader po_Reader sa_Reader mk_Reader kc_Reader na_Reader_numbers na_Reader_at m_Player_init i_Player_init l_Player_init x_Player_init k_Player_init m_World_init i_World_init l_World_init x_World_init k_World_init m_first_world l_first_world x_first_world k_first_world m_next_luck l_next_luck x_next_luck k_next_luck m_column_or_row l_column_or_row x_column_or_row k_column_or_row m_is_key l_is_key x_is_key k_is_key m_place_ahead l_place_ahead x_place_ahead k_place_ahead m_with_player l_with_player x_with_player k_with_player m_after_key l_after_key x_after_key k_after_key m_after_tick l_after_tick x_after_tick k_after_tick m_world_numbers l_world_numbers x_world_numbers k_world_numbers m_numbers_with_luck l_numbers_with_luck x_numbers_with_luck k_numbers_with_luck m_are_alike l_are_alike x_are_alike k_are_alike m_world_sum l_world_sum x_world_sum k_world_sum m_State_init i_State_init l_State_init x_State_init k_State_init m_which_state_goes l_which_state_goes x_which_state_goes k_which_state_goes m_Recording_init i_Recording_init l_Recording_init x_Recording_init k_Recording_init m_Recording_ticks i_Recording_ticks l_Recording_ticks x_Recording_ticks k_Recording_ticks m_Recording_twin i_Recording_twin l_Recording_twin x_Recording_twin k_Recording_twin m_Recording_state_ahead i_Recording_state_ahead l_Recording_state_ahead x_Recording_state_ahead k_Recording_state_ahead m_Recording_world_from i_Recording_world_from l_Recording_world_from x_Recording_world_from k_Recording_world_from m_Recording_world_at i_Recording_world_at l_Recording_world_at x_Recording_world_at k_Recording_world_at m_Recording_all_worlds i_Recording_all_worlds l_Recording_all_worlds x_Recording_all_worlds k_Recording_all_worlds m_Recording_record i_Recording_record l_Recording_record x_Recording_record k_Recording_record m_Recording_keep i_Recording_keep l_Recording_keep x_Recording_keep k_Recording_keep m_Recording_forget_behind i_Recording_forget_behind l_Recording_forget_behind x_Recording_forget_behind k_Recording_forget_behind m_Recording_forget_states_behind i_Recording_forget_states_behind l_Recording_forget_states_behind x_Recording_forget_states_behind k_Recording_forget_states_behind m_Recording_press_otherwise i_Recording_press_otherwise l_Recording_press_otherwise x_Recording_press_otherwise k_Recording_press_otherwise m_are_keys_of l_are_keys_of x_are_keys_of k_are_keys_of m_Line_init i_Line_init l_Line_init x_Line_init k_Line_init m_Line_begins i_Line_begins l_Line_begins x_Line_begins k_Line_begins m_Line_press i_Line_press l_Line_press x_Line_press k_Line_press m_Line_hold i_Line_hold l_Line_hold x_Line_hold k_Line_hold m_Line_seek i_Line_seek l_Line_seek x_Line_seek k_Line_seek m_Line_cut i_Line_cut l_Line_cut x_Line_cut k_Line_cut m_Line_put_by i_Line_put_by l_Line_put_by x_Line_put_by k_Line_put_by m_Line_swap i_Line_swap l_Line_swap x_Line_swap k_Line_swap m_Line_differ i_Line_differ l_Line_differ x_Line_differ k_Line_differ m_Line_kept i_Line_kept l_Line_kept x_Line_kept k_Line_kept m_Line_sum_at i_Line_sum_at l_Line_sum_at x_Line_sum_at k_Line_sum_at m_Line_keys_behind i_Line_keys_behind l_Line_keys_behind x_Line_keys_behind k_Line_keys_behind m_Line_spoil i_Line_spoil l_Line_spoil x_Line_spoil k_Line_spoil m_Reader_init i_Reader_init l_Reader_init x_Reader_init k_Reader_init m_Reader_has_more i_Reader_has_more l_Reader_has_more x_Reader_has_more k_Reader_has_more m_Reader_number i_Reader_number l_Reader_number x_Reader_number k_Reader_number m_Reader_row i_Reader_row l_Reader_row x_Reader_row k_Reader_row m_answer_change l_answer_change x_answer_change k_answer_change m_answer_next l_answer_next x_answer_next k_answer_next m_answers l_answers x_answers k_answers k_FIELD_SIZE k_FIRST_COIN k_LUCK_RANGE k_LUCK_PER_PLACE k_SUM_RANGE k_STEPS k_MOST_STATES k_TICKS_PER_STATE k_MOST_PLAYERS k_MOST_TICKS k_NOT_ALLOWED k_NO_SUCH_TICK k_TOO_MANY_TICKS k_ALIKE k_BEGINS k_PRESS k_HOLD k_SEEK k_CUT k_PUT_BY k_SWAP k_DIFFER k_KEPT k_SUM_AT k_KEYS k_SPOIL q_FIRST_COIN q_STEPS q_STEPS_0 q_STEPS_1 q_STEPS_2 q_STEPS_3 q_STEPS_4 n_len n_range n_enumerate n_min n_all n_list n_tuple
  have e := hfa.symm.trans T.g_answers
  cases e
  exact ⟨d.f_answers, bt, fun base _ _ => ok_answers T⟩
end Pa
open PySem PySem.W PyProof.Rows
set_option maxRecDepth 100000 in
set_option maxHeartbeats 0 in
theorem PySem.Challenge.cw_playedagain_s01_answers_holds : PySem.Challenge.rw_playedagain_s01_answers.Holds := by
  w_on; k_headS; (case hw => exact ⟨[.list [.int 5]], by decide +kernel, by decide +kernel⟩)
  k_fillS
  refine L2.walk_specK (r := PySem.Challenge.rw_playedagain_s01_answers) (k := 12) (CX := L2.CX0) (ps := ["calls"]) (sp := Pa.sp_answers) (by decide +kernel) rfl rfl ⟨rfl, by decide, by decide⟩ (fun w h Y => PySem.W.kIn_of Y) ?F ?S (fun _ _ _ _ z => z)
  case F =>
    intro w mg fa h Y KX G hmg
    refine' Pa.end_mk KX G hmg ?g_Player ?pg_Player ?hd_Player ?po_Player ?sa_Player ?mk_Player ?kc_Player ?na_Player_place ?na_Player_points ?g_World ?pg_World ?hd_World ?po_World ?sa_World ?mk_World ?kc_World ?na_World_players ?na_World_coin ?na_World_luck ?g_State ?pg_State ?hd_State ?po_State ?sa_State ?mk_State ?kc_State ?na_State_tick ?na_State_world ?g_Recording ?pg_Recording ?hd_Recording ?po_Recording ?sa_Recording ?mk_Recording ?kc_Recording ?na_Recording_how_many ?na_Recording_seed ?na_Recording_presses ?na_Recording_states ?g_Line ?pg_Line ?hd_Line ?po_Line ?sa_Line ?mk_Line ?kc_Line ?na_Line_going ?na_Line_aside ?g_Reader ?pg_Reader ?hd_Reader ?po_Reader ?sa_Reader ?mk_Reader ?kc_Reader ?na_Reader_numbers ?na_Reader_at ?m_Player_init ?i_Player_init ?l_Player_init ?x_Player_init ?k_Player_init ?m_World_init ?i_World_init ?l_World_init ?x_World_init ?k_World_init ?m_first_world ?l_first_world ?x_first_world ?k_first_world ?m_next_luck ?l_next_luck ?x_next_luck ?k_next_luck ?m_column_or_row ?l_column_or_row ?x_column_or_row ?k_column_or_row ?m_is_key ?l_is_key ?x_is_key ?k_is_key ?m_place_ahead ?l_place_ahead ?x_place_ahead ?k_place_ahead ?m_with_player ?l_with_player ?x_with_player ?k_with_player ?m_after_key ?l_after_key ?x_after_key ?k_after_key ?m_after_tick ?l_after_tick ?x_after_tick ?k_after_tick ?m_world_numbers ?l_world_numbers ?x_world_numbers ?k_world_numbers ?m_numbers_with_luck ?l_numbers_with_luck ?x_numbers_with_luck ?k_numbers_with_luck ?m_are_alike ?l_are_alike ?x_are_alike ?k_are_alike ?m_world_sum ?l_world_sum ?x_world_sum ?k_world_sum ?m_State_init ?i_State_init ?l_State_init ?x_State_init ?k_State_init ?m_which_state_goes ?l_which_state_goes ?x_which_state_goes ?k_which_state_goes ?m_Recording_init ?i_Recording_init ?l_Recording_init ?x_Recording_init ?k_Recording_init ?m_Recording_ticks ?i_Recording_ticks ?l_Recording_ticks ?x_Recording_ticks ?k_Recording_ticks ?m_Recording_twin ?i_Recording_twin ?l_Recording_twin ?x_Recording_twin ?k_Recording_twin ?m_Recording_state_ahead ?i_Recording_state_ahead ?l_Recording_state_ahead ?x_Recording_state_ahead ?k_Recording_state_ahead ?m_Recording_world_from ?i_Recording_world_from ?l_Recording_world_from ?x_Recording_world_from ?k_Recording_world_from ?m_Recording_world_at ?i_Recording_world_at ?l_Recording_world_at ?x_Recording_world_at ?k_Recording_world_at ?m_Recording_all_worlds ?i_Recording_all_worlds ?l_Recording_all_worlds ?x_Recording_all_worlds ?k_Recording_all_worlds ?m_Recording_record ?i_Recording_record ?l_Recording_record ?x_Recording_record ?k_Recording_record ?m_Recording_keep ?i_Recording_keep ?l_Recording_keep ?x_Recording_keep ?k_Recording_keep ?m_Recording_forget_behind ?i_Recording_forget_behind ?l_Recording_forget_behind ?x_Recording_forget_behind ?k_Recording_forget_behind ?m_Recording_forget_states_behind ?i_Recording_forget_states_behind ?l_Recording_forget_states_behind ?x_Recording_forget_states_behind ?k_Recording_forget_states_behind ?m_Recording_press_otherwise ?i_Recording_press_otherwise ?l_Recording_press_otherwise ?x_Recording_press_otherwise ?k_Recording_press_otherwise ?m_are_keys_of ?l_are_keys_of ?x_are_keys_of ?k_are_keys_of ?m_Line_init ?i_Line_init ?l_Line_init ?x_Line_init ?k_Line_init ?m_Line_begins ?i_Line_begins ?l_Line_begins ?x_Line_begins ?k_Line_begins ?m_Line_press ?i_Line_press ?l_Line_press ?x_Line_press ?k_Line_press ?m_Line_hold ?i_Line_hold ?l_Line_hold ?x_Line_hold ?k_Line_hold ?m_Line_seek ?i_Line_seek ?l_Line_seek ?x_Line_seek ?k_Line_seek ?m_Line_cut ?i_Line_cut ?l_Line_cut ?x_Line_cut ?k_Line_cut ?m_Line_put_by ?i_Line_put_by ?l_Line_put_by ?x_Line_put_by ?k_Line_put_by ?m_Line_swap ?i_Line_swap ?l_Line_swap ?x_Line_swap ?k_Line_swap ?m_Line_differ ?i_Line_differ ?l_Line_differ ?x_Line_differ ?k_Line_differ ?m_Line_kept ?i_Line_kept ?l_Line_kept ?x_Line_kept ?k_Line_kept ?m_Line_sum_at ?i_Line_sum_at ?l_Line_sum_at ?x_Line_sum_at ?k_Line_sum_at ?m_Line_keys_behind ?i_Line_keys_behind ?l_Line_keys_behind ?x_Line_keys_behind ?k_Line_keys_behind ?m_Line_spoil ?i_Line_spoil ?l_Line_spoil ?x_Line_spoil ?k_Line_spoil ?m_Reader_init ?i_Reader_init ?l_Reader_init ?x_Reader_init ?k_Reader_init ?m_Reader_has_more ?i_Reader_has_more ?l_Reader_has_more ?x_Reader_has_more ?k_Reader_has_more ?m_Reader_number ?i_Reader_number ?l_Reader_number ?x_Reader_number ?k_Reader_number ?m_Reader_row ?i_Reader_row ?l_Reader_row ?x_Reader_row ?k_Reader_row ?m_answer_change ?l_answer_change ?x_answer_change ?k_answer_change ?m_answer_next ?l_answer_next ?x_answer_next ?k_answer_next ?m_answers ?l_answers ?x_answers ?k_answers ?k_FIELD_SIZE ?k_FIRST_COIN ?k_LUCK_RANGE ?k_LUCK_PER_PLACE ?k_SUM_RANGE ?k_STEPS ?k_MOST_STATES ?k_TICKS_PER_STATE ?k_MOST_PLAYERS ?k_MOST_TICKS ?k_NOT_ALLOWED ?k_NO_SUCH_TICK ?k_TOO_MANY_TICKS ?k_ALIKE ?k_BEGINS ?k_PRESS ?k_HOLD ?k_SEEK ?k_CUT ?k_PUT_BY ?k_SWAP ?k_DIFFER ?k_KEPT ?k_SUM_AT ?k_KEYS ?k_SPOIL ?q_FIRST_COIN ?q_STEPS ?q_STEPS_0 ?q_STEPS_1 ?q_STEPS_2 ?q_STEPS_3 ?q_STEPS_4 ?n_len ?n_range ?n_enumerate ?n_min ?n_all ?n_list ?n_tuple
    (case g_Player => k_is)
    (case pg_Player => k_is)
    (case hd_Player => k_is)
    (case po_Player => k_is)
    (case sa_Player => k_is)
    (case mk_Player => k_is)
    (case kc_Player => k_is)
    (case na_Player_place => k_is)
    (case na_Player_points => k_is)
    (case g_World => k_is)
    (case pg_World => k_is)
    (case hd_World => k_is)
    (case po_World => k_is)
    (case sa_World => k_is)
    (case mk_World => k_is)
    (case kc_World => k_is)
    (case na_World_players => k_is)
    (case na_World_coin => k_is)
    (case na_World_luck => k_is)
    (case g_State => k_is)
    (case pg_State => k_is)
    (case hd_State => k_is)
    (case po_State => k_is)
    (case sa_State => k_is)
    (case mk_State => k_is)
    (case kc_State => k_is)
    (case na_State_tick => k_is)
    (case na_State_world => k_is)
    (case g_Recording => k_is)
    (case pg_Recording => k_is)
    (case hd_Recording => k_is)
    (case po_Recording => k_is)
    (case sa_Recording => k_is)
    (case mk_Recording => k_is)
    (case kc_Recording => k_is)
    (case na_Recording_how_many => k_is)
    (case na_Recording_seed => k_is)
    (case na_Recording_presses => k_is)
    (case na_Recording_states => k_is)
    (case g_Line => k_is)
    (case pg_Line => k_is)
    (case hd_Line => k_is)
    (case po_Line => k_is)
    (case sa_Line => k_is)
    (case mk_Line => k_is)
    (case kc_Line => k_is)
    (case na_Line_going => k_is)
    (case na_Line_aside => k_is)
    (case g_Reader => k_is)
    (case pg_Reader => k_is)
    (case hd_Reader => k_is)
    (case po_Reader => k_is)
    (case sa_Reader => k_is)
    (case mk_Reader => k_is)
    (case kc_Reader => k_is)
    (case na_Reader_numbers => k_is)
    (case na_Reader_at => k_is)
    (case m_Player_init => k_is)
    (case i_Player_init => k_is)
    (case l_Player_init => k_is)
    (case x_Player_init => k_is)
    (case k_Player_init => k_is)
    (case m_World_init => k_is)
    (case i_World_init => k_is)
    (case l_World_init => k_is)
    (case x_World_init => k_is)
    (case k_World_init => k_is)
    (case m_first_world => k_is)
    (case l_first_world => k_is)
    (case x_first_world => k_is)
    (case k_first_world => k_is)
    (case m_next_luck => k_is)
    (case l_next_luck => k_is)
    (case x_next_luck => k_is)
    (case k_next_luck => k_is)
    (case m_column_or_row => k_is)
    (case l_column_or_row => k_is)
    (case x_column_or_row => k_is)
    (case k_column_or_row => k_is)
    (case m_is_key => k_is)
    (case l_is_key => k_is)
    (case x_is_key => k_is)
    (case k_is_key => k_is)
    (case m_place_ahead => k_is)
    (case l_place_ahead => k_is)
    (case x_place_ahead => k_is)
    (case k_place_ahead => k_is)
    (case m_with_player => k_is)
    (case l_with_player => k_is)
    (case x_with_player => k_is)
    (case k_with_player => k_is)
    (case m_after_key => k_is)
    (case l_after_key => k_is)
    (case x_after_key => k_is)
    (case k_after_key => k_is)
    (case m_after_tick => k_is)
    (case l_after_tick => k_is)
    (case x_after_tick => k_is)
    (case k_after_tick => k_is)
    (case m_world_numbers => k_is)
    (case l_world_numbers => k_is)
    (case x_world_numbers => k_is)
    (case k_world_numbers => k_is)
    (case m_numbers_with_luck => k_is)
    (case l_numbers_with_luck => k_is)
    (case x_numbers_with_luck => k_is)
    (case k_numbers_with_luck => k_is)
    (case m_are_alike => k_is)
    (case l_are_alike => k_is)
    (case x_are_alike => k_is)
    (case k_are_alike => k_is)
    (case m_world_sum => k_is)
    (case l_world_sum => k_is)
    (case x_world_sum => k_is)
    (case k_world_sum => k_is)
    (case m_State_init => k_is)
    (case i_State_init => k_is)
    (case l_State_init => k_is)
    (case x_State_init => k_is)
    (case k_State_init => k_is)
    (case m_which_state_goes => k_is)
    (case l_which_state_goes => k_is)
    (case x_which_state_goes => k_is)
    (case k_which_state_goes => k_is)
    (case m_Recording_init => k_is)
    (case i_Recording_init => k_is)
    (case l_Recording_init => k_is)
    (case x_Recording_init => k_is)
    (case k_Recording_init => k_is)
    (case m_Recording_ticks => k_is)
    (case i_Recording_ticks => k_is)
    (case l_Recording_ticks => k_is)
    (case x_Recording_ticks => k_is)
    (case k_Recording_ticks => k_is)
    (case m_Recording_twin => k_is)
    (case i_Recording_twin => k_is)
    (case l_Recording_twin => k_is)
    (case x_Recording_twin => k_is)
    (case k_Recording_twin => k_is)
    (case m_Recording_state_ahead => k_is)
    (case i_Recording_state_ahead => k_is)
    (case l_Recording_state_ahead => k_is)
    (case x_Recording_state_ahead => k_is)
    (case k_Recording_state_ahead => k_is)
    (case m_Recording_world_from => k_is)
    (case i_Recording_world_from => k_is)
    (case l_Recording_world_from => k_is)
    (case x_Recording_world_from => k_is)
    (case k_Recording_world_from => k_is)
    (case m_Recording_world_at => k_is)
    (case i_Recording_world_at => k_is)
    (case l_Recording_world_at => k_is)
    (case x_Recording_world_at => k_is)
    (case k_Recording_world_at => k_is)
    (case m_Recording_all_worlds => k_is)
    (case i_Recording_all_worlds => k_is)
    (case l_Recording_all_worlds => k_is)
    (case x_Recording_all_worlds => k_is)
    (case k_Recording_all_worlds => k_is)
    (case m_Recording_record => k_is)
    (case i_Recording_record => k_is)
    (case l_Recording_record => k_is)
    (case x_Recording_record => k_is)
    (case k_Recording_record => k_is)
    (case m_Recording_keep => k_is)
    (case i_Recording_keep => k_is)
    (case l_Recording_keep => k_is)
    (case x_Recording_keep => k_is)
    (case k_Recording_keep => k_is)
    (case m_Recording_forget_behind => k_is)
    (case i_Recording_forget_behind => k_is)
    (case l_Recording_forget_behind => k_is)
    (case x_Recording_forget_behind => k_is)
    (case k_Recording_forget_behind => k_is)
    (case m_Recording_forget_states_behind => k_is)
    (case i_Recording_forget_states_behind => k_is)
    (case l_Recording_forget_states_behind => k_is)
    (case x_Recording_forget_states_behind => k_is)
    (case k_Recording_forget_states_behind => k_is)
    (case m_Recording_press_otherwise => k_is)
    (case i_Recording_press_otherwise => k_is)
    (case l_Recording_press_otherwise => k_is)
    (case x_Recording_press_otherwise => k_is)
    (case k_Recording_press_otherwise => k_is)
    (case m_are_keys_of => k_is)
    (case l_are_keys_of => k_is)
    (case x_are_keys_of => k_is)
    (case k_are_keys_of => k_is)
    (case m_Line_init => k_is)
    (case i_Line_init => k_is)
    (case l_Line_init => k_is)
    (case x_Line_init => k_is)
    (case k_Line_init => k_is)
    (case m_Line_begins => k_is)
    (case i_Line_begins => k_is)
    (case l_Line_begins => k_is)
    (case x_Line_begins => k_is)
    (case k_Line_begins => k_is)
    (case m_Line_press => k_is)
    (case i_Line_press => k_is)
    (case l_Line_press => k_is)
    (case x_Line_press => k_is)
    (case k_Line_press => k_is)
    (case m_Line_hold => k_is)
    (case i_Line_hold => k_is)
    (case l_Line_hold => k_is)
    (case x_Line_hold => k_is)
    (case k_Line_hold => k_is)
    (case m_Line_seek => k_is)
    (case i_Line_seek => k_is)
    (case l_Line_seek => k_is)
    (case x_Line_seek => k_is)
    (case k_Line_seek => k_is)
    (case m_Line_cut => k_is)
    (case i_Line_cut => k_is)
    (case l_Line_cut => k_is)
    (case x_Line_cut => k_is)
    (case k_Line_cut => k_is)
    (case m_Line_put_by => k_is)
    (case i_Line_put_by => k_is)
    (case l_Line_put_by => k_is)
    (case x_Line_put_by => k_is)
    (case k_Line_put_by => k_is)
    (case m_Line_swap => k_is)
    (case i_Line_swap => k_is)
    (case l_Line_swap => k_is)
    (case x_Line_swap => k_is)
    (case k_Line_swap => k_is)
    (case m_Line_differ => k_is)
    (case i_Line_differ => k_is)
    (case l_Line_differ => k_is)
    (case x_Line_differ => k_is)
    (case k_Line_differ => k_is)
    (case m_Line_kept => k_is)
    (case i_Line_kept => k_is)
    (case l_Line_kept => k_is)
    (case x_Line_kept => k_is)
    (case k_Line_kept => k_is)
    (case m_Line_sum_at => k_is)
    (case i_Line_sum_at => k_is)
    (case l_Line_sum_at => k_is)
    (case x_Line_sum_at => k_is)
    (case k_Line_sum_at => k_is)
    (case m_Line_keys_behind => k_is)
    (case i_Line_keys_behind => k_is)
    (case l_Line_keys_behind => k_is)
    (case x_Line_keys_behind => k_is)
    (case k_Line_keys_behind => k_is)
    (case m_Line_spoil => k_is)
    (case i_Line_spoil => k_is)
    (case l_Line_spoil => k_is)
    (case x_Line_spoil => k_is)
    (case k_Line_spoil => k_is)
    (case m_Reader_init => k_is)
    (case i_Reader_init => k_is)
    (case l_Reader_init => k_is)
    (case x_Reader_init => k_is)
    (case k_Reader_init => k_is)
    (case m_Reader_has_more => k_is)
    (case i_Reader_has_more => k_is)
    (case l_Reader_has_more => k_is)
    (case x_Reader_has_more => k_is)
    (case k_Reader_has_more => k_is)
    (case m_Reader_number => k_is)
    (case i_Reader_number => k_is)
    (case l_Reader_number => k_is)
    (case x_Reader_number => k_is)
    (case k_Reader_number => k_is)
    (case m_Reader_row => k_is)
    (case i_Reader_row => k_is)
    (case l_Reader_row => k_is)
    (case x_Reader_row => k_is)
    (case k_Reader_row => k_is)
    (case m_answer_change => k_is)
    (case l_answer_change => k_is)
    (case x_answer_change => k_is)
    (case k_answer_change => k_is)
    (case m_answer_next => k_is)
    (case l_answer_next => k_is)
    (case x_answer_next => k_is)
    (case k_answer_next => k_is)
    (case m_answers => k_is)
    (case l_answers => k_is)
    (case x_answers => k_is)
    (case k_answers => k_is)
    (case k_FIELD_SIZE => k_is)
    (case k_FIRST_COIN => k_is)
    (case k_LUCK_RANGE => k_is)
    (case k_LUCK_PER_PLACE => k_is)
    (case k_SUM_RANGE => k_is)
    (case k_STEPS => k_is)
    (case k_MOST_STATES => k_is)
    (case k_TICKS_PER_STATE => k_is)
    (case k_MOST_PLAYERS => k_is)
    (case k_MOST_TICKS => k_is)
    (case k_NOT_ALLOWED => k_is)
    (case k_NO_SUCH_TICK => k_is)
    (case k_TOO_MANY_TICKS => k_is)
    (case k_ALIKE => k_is)
    (case k_BEGINS => k_is)
    (case k_PRESS => k_is)
    (case k_HOLD => k_is)
    (case k_SEEK => k_is)
    (case k_CUT => k_is)
    (case k_PUT_BY => k_is)
    (case k_SWAP => k_is)
    (case k_DIFFER => k_is)
    (case k_KEPT => k_is)
    (case k_SUM_AT => k_is)
    (case k_KEYS => k_is)
    (case k_SPOIL => k_is)
    (case q_FIRST_COIN => k_is)
    (case q_STEPS => k_is)
    (case q_STEPS_0 => k_is)
    (case q_STEPS_1 => k_is)
    (case q_STEPS_2 => k_is)
    (case q_STEPS_3 => k_is)
    (case q_STEPS_4 => k_is)
    (case n_len => k_is)
    (case n_range => k_is)
    (case n_enumerate => k_is)
    (case n_min => k_is)
    (case n_all => k_is)
    (case n_list => k_is)
    (case n_tuple => k_is)
  case S =>
    intro K H xs a hO hwi hask hx
    cases hx with
    | cons h1 h2 =>
      cases h2
      cases h1 with
      | lst hs ha =>
        have e := L2.ints_dw a.1 _ ha
        subst e
        have q : ((Codec.inLen 0 700 a.1 && a.1.all (Codec.inInt 0 4294967295)) && true) = true := hwi
        rw [Bool.and_eq_true, Bool.and_eq_true] at q
        exact ⟨_, a.1, rfl, Pa.calls_of hO hs, (Codec.inNat_iff.mp q.1.1).2, hask, fun H' p hp => .lst (L2.SqL.of hp) (L2.dw_ints _)⟩
#print axioms PySem.Challenge.cw_playedagain_s01_answers_holds

