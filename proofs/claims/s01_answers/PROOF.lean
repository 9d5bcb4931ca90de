import PyProof.Rows.All
import Wide.All
import OpenK.AllK
import Wide.FinOn
import Open.SpecLaws
import KE.OsGo
import HandS.ForSpec
import HandS.ForMost
import PySem.Challenge.RW_nearkeptdesk_s01_answers
import KE.BitLaws
import HandS.SortRule
import HandS.Conv
import HandS.TupSets
import HandS.SortInts
import HandS.CallLocal
import HandS.Iter
import HandS.Codes
/-! Distances: the specification's table is what ways along lines tell; a table grown line by line is the same. -/
namespace Nk
open Kv402

/-- a way along lines whose inner places are below k -/
inductive WK (s : List Line) (k : Nat) : Nat → Nat → Nat → Prop
  | refl (u) : WK s k u u 0
  | line {l u v} : l ∈ s → ends l u v = true → WK s k u v l.w
  | cat {u x v d e} : x < k → WK s k u x d → WK s k x v e → WK s k u v (d + e)

/-- any way along lines -/
inductive W (s : List Line) : Nat → Nat → Nat → Prop
  | refl (u) : W s u u 0
  | line {l u v} : l ∈ s → ends l u v = true → W s u v l.w
  | cat {u x v d e} : W s u x d → W s x v e → W s u v (d + e)

theorem ends_symm (l : Line) (u v : Nat) : ends l u v = ends l v u := by
  unfold ends; exact Bool.or_comm _ _

theorem ends_iff {l : Line} {u v : Nat} : ends l u v = true ↔ (l.a = u ∧ l.b = v) ∨ (l.a = v ∧ l.b = u) := by
  simp [ends]

theorem W.symm {s u v d} (h : W s u v d) : W s v u d := by
  induction h with
  | refl u => exact .refl u
  | line hl he => exact .line hl (by rw [ends_symm]; exact he)
  | cat _ _ i j => rw [Nat.add_comm]; exact .cat j i

theorem WK.up {s k u v d} (h : WK s k u v d) : WK s (k + 1) u v d := by
  induction h with
  | refl u => exact .refl u
  | line hl he => exact .line hl he
  | cat hx _ _ i j => exact .cat (Nat.lt_succ_of_lt hx) i j

theorem WK.split {s k u v d} (h : WK s (k + 1) u v d) : WK s k u v d ∨ ∃ d1 d2, WK s k u k d1 ∧ WK s k k v d2 ∧ d1 + d2 ≤ d := by
  induction h with
  | refl u => exact .inl (.refl u)
  | line hl he => exact .inl (.line hl he)
  | @cat u x v d e hx _ _ i j =>
    rcases Nat.lt_or_ge x k with hk | hk
    · rcases i with i | ⟨a1, a2, ha, hb, hab⟩ <;> rcases j with j | ⟨c1, c2, hc, hd, hcd⟩
      · exact .inl (.cat hk i j)
      · exact .inr ⟨d + c1, c2, .cat hk i hc, hd, by omega⟩
      · exact .inr ⟨a1, a2 + e, ha, .cat hk hb j, by omega⟩
      · exact .inr ⟨a1, c2, ha, hd, by omega⟩
    · have e0 : x = k := by omega
      subst e0
      rcases i with i | ⟨a1, a2, ha, hb, hab⟩ <;> rcases j with j | ⟨c1, c2, hc, hd, hcd⟩
      · exact .inr ⟨d, e, i, j, by omega⟩
      · exact .inr ⟨d, c2, i, hd, by omega⟩
      · exact .inr ⟨a1, e, ha, j, by omega⟩
      · exact .inr ⟨a1, c2, ha, hd, by omega⟩

/-- the least of a set of numbers, if there is any -/
def Least (P : Nat → Prop) (x : Option Nat) : Prop := match x with
  | none => ∀ d, ¬ P d
  | some d => P d ∧ ∀ e, P e → d ≤ e

theorem Least.unique {P : Nat → Prop} {x y : Option Nat} (hx : Least P x) (hy : Least P y) : x = y := by
  cases x <;> cases y
  · rfl
  · exact absurd hy.1 (hx _)
  · exact absurd hx.1 (hy _)
  · exact congrArg some (Nat.le_antisymm (hx.2 _ hy.1) (hy.2 _ hx.1))

/-- x is what P's least comes to, up to what lies above some member -/
theorem Least.of {P Q : Nat → Prop} {x : Option Nat} (h : Least P x) (hPQ : ∀ d, P d → Q d) (hQP : ∀ d, Q d → ∃ e, P e ∧ e ≤ d) : Least Q x := by
  cases x with
  | none => intro d hd; obtain ⟨e, he, _⟩ := hQP d hd; exact h e he
  | some m => exact ⟨hPQ _ h.1, fun e he => by obtain ⟨e', h1, h2⟩ := hQP e he; have := h.2 e' h1; omega⟩

theorem Least.less {P Q : Nat → Prop} {x y : Option Nat} (hx : Least P x) (hy : Least Q y) : Least (fun d => P d ∨ Q d) (Kv402.less x y) := by
  cases x with
  | none => cases y with
    | none => intro d h; rcases h with h | h; exact hx d h; exact hy d h
    | some m => exact ⟨.inr hy.1, fun e h => h.elim (fun h => absurd h (hx e)) (hy.2 e)⟩
  | some k => cases y with
    | none => exact ⟨.inl hx.1, fun e h => h.elim (hx.2 e) (fun h => absurd h (hy e))⟩
    | some m =>
      refine ⟨?_, fun e h => ?_⟩
      · show P (min k m) ∨ Q (min k m)
        rcases Nat.le_total k m with h | h
        · rw [Nat.min_eq_left h]; exact .inl hx.1
        · rw [Nat.min_eq_right h]; exact .inr hy.1
      · show min k m ≤ e
        rcases h with h | h
        · exact Nat.le_trans (Nat.min_le_left _ _) (hx.2 e h)
        · exact Nat.le_trans (Nat.min_le_right _ _) (hy.2 e h)

theorem Least.plus {P Q : Nat → Prop} {x y : Option Nat} (hx : Least P x) (hy : Least Q y) : Least (fun d => ∃ a b, P a ∧ Q b ∧ a + b = d) (Kv402.plus x y) := by
  cases x with
  | none => exact fun d ⟨a, b, ha, _, _⟩ => hx a ha
  | some k => cases y with
    | none => exact fun d ⟨a, b, _, hb, _⟩ => hy b hb
    | some m => exact ⟨⟨k, m, hx.1, hy.1, rfl⟩, fun e ⟨a, b, ha, hb, hab⟩ => by
        have := hx.2 a ha; have := hy.2 b hb; show k + m ≤ e; omega⟩

/-! ## tables as functions -/

/-- a table of n rows of n, by a function -/
def mk (n : Nat) (f : Nat → Nat → Option Nat) : Table := (List.range n).map fun u => (List.range n).map fun v => f u v

theorem getD_map_range {α : Type} (n : Nat) (f : Nat → α) (z : α) (i : Nat) (h : i < n) : ((List.range n).map f).getD i z = f i := by
  rw [List.getD_eq_getElem?_getD, List.getElem?_map, List.getElem?_range h]; rfl

theorem at_mk {n : Nat} {f : Nat → Nat → Option Nat} {u v : Nat} (hu : u < n) (hv : v < n) : at_ (mk n f) u v = f u v := by
  unfold at_ mk; rw [getD_map_range n _ _ _ hu, getD_map_range n _ _ _ hv]

theorem mk_congr {n : Nat} {f g : Nat → Nat → Option Nat} (h : ∀ u v, u < n → v < n → f u v = g u v) : mk n f = mk n g := by
  unfold mk
  refine List.map_congr_left fun u hu => List.map_congr_left fun v hv => h u v (List.mem_range.1 hu) (List.mem_range.1 hv)

theorem mk_len (n f) : (mk n f).length = n := by simp [mk]

theorem zipIdx_map_range {α β : Type} (n : Nat) (f : Nat → α) (g : α × Nat → β) : ((List.range n).map f).zipIdx.map g = (List.range n).map fun i => g (f i, i) := by
  apply List.ext_getElem
  · simp
  · intro i h1 h2
    simp at h1
    simp

theorem via_mk (n : Nat) (f : Nat → Nat → Option Nat) (k : Nat) (hk : k < n) : via (mk n f) k = mk n fun u v => less (f u v) (plus (f u k) (f k v)) := by
  unfold via
  conv => lhs; arg 2; unfold mk
  rw [zipIdx_map_range]
  unfold mk
  refine List.map_congr_left fun u hu => ?_
  dsimp only
  rw [zipIdx_map_range]
  refine List.map_congr_left fun v hv => ?_
  have hu' := List.mem_range.1 hu
  have hv' := List.mem_range.1 hv
  show less (f u v) (plus (at_ (mk n f) u k) (at_ (mk n f) k v)) = _
  rw [at_mk hu' hk, at_mk hk hv']

theorem foldl_via (n : Nat) (s : List Line) (f : Nat → Nat → Option Nat) (h : ∀ u v, u < n → v < n → Least (WK s 0 u v) (f u v)) :
    ∀ m, m ≤ n → ∃ g, (List.range m).foldl via (mk n f) = mk n g ∧ ∀ u v, u < n → v < n → Least (WK s m u v) (g u v) := by
  intro m
  induction m with
  | zero => intro _; exact ⟨f, rfl, h⟩
  | succ m ih =>
    intro hm
    obtain ⟨g, e, hg⟩ := ih (by omega)
    refine ⟨fun u v => less (g u v) (plus (g u m) (g m v)), ?_, ?_⟩
    · rw [List.range_succ, List.foldl_append, e]
      exact via_mk n g m (by omega)
    · intro u v hu hv
      refine (Least.less (hg u v hu hv) (Least.plus (hg u m hu (by omega)) (hg m v (by omega) hv))).of ?_ ?_
      · rintro d (h | ⟨a, b, ha, hb, rfl⟩)
        · exact h.up
        · exact .cat (Nat.lt_succ_self m) ha.up hb.up
      · intro d hd
        rcases hd.split with h | ⟨d1, d2, h1, h2, h3⟩
        · exact ⟨d, .inl h, Nat.le_refl _⟩
        · exact ⟨d1 + d2, .inr ⟨d1, d2, h1, h2, rfl⟩, h3⟩

/-- lines as the land has them: places in order, below n, lengths of 1 on; no two join the same places -/
structure Fine (n : Nat) (s : List Line) : Prop where
  lt : ∀ l ∈ s, l.a < l.b
  ltn : ∀ l ∈ s, l.b < n
  pos : ∀ l ∈ s, 1 ≤ l.w
  uniq : ∀ l ∈ s, ∀ m ∈ s, l.a = m.a → l.b = m.b → l = m

theorem Fine.same {n s} (h : Fine n s) {l m : Line} {u v : Nat} (hl : l ∈ s) (hm : m ∈ s) (el : ends l u v = true) (em : ends m u v = true) : l = m := by
  have h1 := h.lt l hl
  have h2 := h.lt m hm
  rcases ends_iff.1 el with ⟨a, b⟩ | ⟨a, b⟩ <;> rcases ends_iff.1 em with ⟨c, d⟩ | ⟨c, d⟩
  · exact h.uniq l hl m hm (a.trans c.symm) (b.trans d.symm)
  · omega
  · omega
  · exact h.uniq l hl m hm (a.trans c.symm) (b.trans d.symm)

theorem Fine.ends_lt {n s} (h : Fine n s) {l : Line} {u v : Nat} (hl : l ∈ s) (e : ends l u v = true) : u < n ∧ v < n ∧ u ≠ v := by
  have h1 := h.lt l hl
  have h2 := h.ltn l hl
  rcases ends_iff.1 e with ⟨a, b⟩ | ⟨a, b⟩ <;> omega

/-- the length of the line between u and v, if there's one -/
def lenOf (s : List Line) (u v : Nat) : Option Nat := (s.find? fun l => ends l u v).map Line.w

theorem WK.zero {s u v d} (h : WK s 0 u v d) : (u = v ∧ d = 0) ∨ ∃ l ∈ s, ends l u v = true ∧ l.w = d := by
  cases h with
  | refl => exact .inl ⟨rfl, rfl⟩
  | line hl he => exact .inr ⟨_, hl, he, rfl⟩
  | cat hx => omega

theorem lenOf_some {n s} (h : Fine n s) {l : Line} {u v : Nat} (hl : l ∈ s) (e : ends l u v = true) : lenOf s u v = some l.w := by
  unfold lenOf
  cases hf : s.find? (fun l => ends l u v) with
  | none => exact absurd e (by have := List.find?_eq_none.1 hf l hl; simpa using this)
  | some m =>
    have h1 := List.mem_of_find?_eq_some hf
    have h2 := List.find?_some hf
    rw [h.same h1 hl h2 e]; rfl

theorem lenOf_mem {s : List Line} {u v w : Nat} (h : lenOf s u v = some w) : ∃ l ∈ s, ends l u v = true ∧ l.w = w := by
  unfold lenOf at h
  cases hf : s.find? (fun l => ends l u v) with
  | none => rw [hf] at h; cases h
  | some m =>
    rw [hf] at h
    have h2 := List.find?_some hf
    exact ⟨m, List.mem_of_find?_eq_some hf, h2, by simpa using h⟩

theorem lenOf_none {s : List Line} {u v : Nat} (h : lenOf s u v = none) : ∀ l ∈ s, ends l u v = false := by
  unfold lenOf at h
  intro l hl
  have : s.find? (fun l => ends l u v) = none := by
    cases hf : s.find? (fun l => ends l u v) with
    | none => rfl
    | some m => rw [hf] at h; cases h
  have := List.find?_eq_none.1 this l hl
  simpa using this

theorem start_least {n s} (h : Fine n s) {u v : Nat} : Least (WK s 0 u v) (if u = v then some 0 else lenOf s u v) := by
  split
  · rename_i e; subst e; exact ⟨.refl u, fun e _ => Nat.zero_le e⟩
  · rename_i ne
    cases hf : lenOf s u v with
    | none =>
      intro d hd
      rcases hd.zero with ⟨e, _⟩ | ⟨l, hl, he, _⟩
      · exact ne e
      · rw [lenOf_none hf l hl] at he; cases he
    | some w =>
      obtain ⟨l, hl, he, rfl⟩ := lenOf_mem hf
      refine ⟨.line hl he, fun e hd => ?_⟩
      rcases hd.zero with ⟨e, _⟩ | ⟨m, hm, hem, rfl⟩
      · exact absurd e ne
      · rw [h.same hl hm he hem]; exact Nat.le_refl _

theorem WK.toW {s k u v d} (h : WK s k u v d) : W s u v d := by
  induction h with
  | refl u => exact .refl u
  | line hl he => exact .line hl he
  | cat _ _ _ i j => exact .cat i j

theorem W.toWK {n s} (h : Fine n s) {u v d} (w : W s u v d) (hu : u < n) : v < n ∧ WK s n u v d := by
  induction w with
  | refl u => exact ⟨hu, .refl u⟩
  | line hl he => exact ⟨(h.ends_lt hl he).2.1, .line hl he⟩
  | cat _ _ i j =>
    obtain ⟨hx, i⟩ := i hu
    obtain ⟨hv, j⟩ := j hx
    exact ⟨hv, .cat hx i j⟩

/-- the distance, as ways tell it -/
theorem table_least {n s} (h : Fine n s) : ∃ g, table n s = mk n g ∧ ∀ u v, u < n → v < n → Least (W s u v) (g u v) := by
  obtain ⟨g, e, hg⟩ := foldl_via n s (fun u v => if u = v then some 0 else lenOf s u v) (fun u v _ _ => start_least h) n (Nat.le_refl n)
  refine ⟨g, e, fun u v hu hv => (hg u v hu hv).of (fun d h => h.toW) (fun d hd => ⟨d, (hd.toWK h hu).2, Nat.le_refl _⟩)⟩

theorem dist_least {n s} (h : Fine n s) {u v : Nat} (hu : u < n) (hv : v < n) : Least (W s u v) (at_ (table n s) u v) := by
  obtain ⟨g, e, hg⟩ := table_least h
  rw [e, at_mk hu hv]; exact hg u v hu hv

/-- a table is known by its distances -/
theorem table_eq_mk {n s} (h : Fine n s) {f : Nat → Nat → Option Nat} (hf : ∀ u v, u < n → v < n → Least (W s u v) (f u v)) : table n s = mk n f := by
  obtain ⟨g, e, hg⟩ := table_least h
  rw [e]
  exact mk_congr fun u v hu hv => (hg u v hu hv).unique (hf u v hu hv)

/-! ## one line more -/

theorem W.mono {s t : List Line} (h : ∀ l ∈ s, l ∈ t) {u v d} (w : W s u v d) : W t u v d := by
  induction w with
  | refl u => exact .refl u
  | line hl he => exact .line (h _ hl) he
  | cat _ _ i j => exact .cat i j

theorem W.more {s : List Line} {l : Line} {u v d} (w : W (s ++ [l]) u v d) :
    (∃ e, W s u v e ∧ e ≤ d) ∨ (∃ a b, W s u l.a a ∧ W s l.b v b ∧ a + l.w + b ≤ d) ∨ (∃ a b, W s u l.b a ∧ W s l.a v b ∧ a + l.w + b ≤ d) := by
  induction w with
  | refl u => exact .inl ⟨0, .refl u, Nat.le_refl _⟩
  | line hl he =>
    rcases List.mem_append.1 hl with hl | hl
    · exact .inl ⟨_, .line hl he, Nat.le_refl _⟩
    · have := List.mem_singleton.1 hl; subst this
      rcases ends_iff.1 he with ⟨rfl, rfl⟩ | ⟨rfl, rfl⟩
      · exact .inr (.inl ⟨0, 0, .refl _, .refl _, by omega⟩)
      · exact .inr (.inr ⟨0, 0, .refl _, .refl _, by omega⟩)
  | cat _ _ i j =>
    rcases i with ⟨e, he, hle⟩ | ⟨a, b, ha, hb, hab⟩ | ⟨a, b, ha, hb, hab⟩ <;>
    rcases j with ⟨f, hf, hlf⟩ | ⟨c, d, hc, hd, hcd⟩ | ⟨c, d, hc, hd, hcd⟩
    · exact .inl ⟨e + f, .cat he hf, by omega⟩
    · exact .inr (.inl ⟨e + c, d, .cat he hc, hd, by omega⟩)
    · exact .inr (.inr ⟨e + c, d, .cat he hc, hd, by omega⟩)
    · exact .inr (.inl ⟨a, b + f, ha, .cat hb hf, by omega⟩)
    · exact .inr (.inl ⟨a, d, ha, hd, by omega⟩)
    · exact .inl ⟨a + d, .cat ha hd, by omega⟩
    · exact .inr (.inr ⟨a, b + f, ha, .cat hb hf, by omega⟩)
    · exact .inl ⟨a + d, .cat ha hd, by omega⟩
    · exact .inr (.inr ⟨a, d, ha, hd, by omega⟩)

/-- ahead + length + behind -/
def join3 (x : Option Nat) (w : Nat) (y : Option Nat) : Option Nat := match x, y with
  | some x, some y => some (x + w + y)
  | _, _ => none

theorem join3_eq (x w y) : join3 x w y = plus (plus x (some w)) y := by cases x <;> cases y <;> rfl

def moreF (f : Nat → Nat → Option Nat) (l : Line) (u v : Nat) : Option Nat := less (f u v) (less (join3 (f u l.a) l.w (f l.b v)) (join3 (f u l.b) l.w (f l.a v)))

theorem more_least {n s} {l : Line} (ha : l.a < n) (hb : l.b < n) {f : Nat → Nat → Option Nat} (hf : ∀ u v, u < n → v < n → Least (W s u v) (f u v)) :
    ∀ u v, u < n → v < n → Least (W (s ++ [l]) u v) (moreF f l u v) := by
  intro u v hu hv
  have one : Least (fun d => d = l.w) (some l.w) := ⟨rfl, fun e h => by omega⟩
  have hs : ∀ m ∈ s, m ∈ s ++ [l] := fun m hm => List.mem_append_left _ hm
  have hl : l ∈ s ++ [l] := List.mem_append_right _ (List.mem_singleton.2 rfl)
  have e1 : ends l l.a l.b = true := ends_iff.2 (.inl ⟨rfl, rfl⟩)
  have e2 : ends l l.b l.a = true := ends_iff.2 (.inr ⟨rfl, rfl⟩)
  unfold moreF
  rw [join3_eq, join3_eq]
  refine (Least.less (hf u v hu hv) (Least.less (Least.plus (Least.plus (hf u l.a hu ha) one) (hf l.b v hb hv))
    (Least.plus (Least.plus (hf u l.b hu hb) one) (hf l.a v ha hv)))).of ?_ ?_
  · rintro d (h | ⟨x, y, ⟨p, q, hp, rfl, rfl⟩, hy, rfl⟩ | ⟨x, y, ⟨p, q, hp, rfl, rfl⟩, hy, rfl⟩)
    · exact h.mono hs
    · exact .cat (.cat (hp.mono hs) (.line hl e1)) (hy.mono hs)
    · exact .cat (.cat (hp.mono hs) (.line hl e2)) (hy.mono hs)
  · intro d hd
    rcases hd.more with ⟨e, he, hle⟩ | ⟨a, b, ha, hb, hab⟩ | ⟨a, b, ha, hb, hab⟩
    · exact ⟨e, .inl he, hle⟩
    · exact ⟨a + l.w + b, .inr (.inl ⟨a + l.w, b, ⟨a, l.w, ha, rfl, rfl⟩, hb, rfl⟩), hab⟩
    · exact ⟨a + l.w + b, .inr (.inr ⟨a + l.w, b, ⟨a, l.w, ha, rfl, rfl⟩, hb, rfl⟩), hab⟩

/-! ## the mirror of the code -/

def noWays (n : Nat) : Table := mk n fun u v => if u = v then some 0 else none
def withLine (far : Table) (l : Line) : Table := far.map fun st => (List.range far.length).map fun e =>
  less (st.getD e none) (less (join3 (st.getD l.a none) l.w ((far.getD l.b []).getD e none)) (join3 (st.getD l.b none) l.w ((far.getD l.a []).getD e none)))
def distances (n : Nat) (s : List Line) : Table := s.foldl withLine (noWays n)

theorem withLine_mk {n f} {l : Line} (ha : l.a < n) (hb : l.b < n) : withLine (mk n f) l = mk n (moreF f l) := by
  unfold withLine
  rw [mk_len]
  conv => lhs; arg 2; unfold mk
  rw [List.map_map]
  conv => rhs; unfold mk
  refine List.map_congr_left fun u hu => ?_
  refine List.map_congr_left fun v hv => ?_
  have hu := List.mem_range.1 hu
  have hv := List.mem_range.1 hv
  show less _ (less (join3 _ l.w (at_ (mk n f) l.b v)) (join3 _ l.w (at_ (mk n f) l.a v))) = _
  dsimp only
  rw [at_mk hb hv, at_mk ha hv, getD_map_range _ _ _ _ hv, getD_map_range _ _ _ _ ha, getD_map_range _ _ _ _ hb]
  rfl

theorem noWays_least {n : Nat} : ∀ u v, u < n → v < n → Least (W [] u v) (if u = v then some 0 else none) := by
  intro u v _ _
  have key : ∀ d, W [] u v d → u = v := by
    intro d h
    have : ∀ {x y d}, W [] x y d → x = y := by
      intro x y d h
      induction h with
      | refl => rfl
      | line hl => cases hl
      | cat _ _ i j => exact i.trans j
    exact this h
  split
  · rename_i e; subst e; exact ⟨.refl u, fun e _ => Nat.zero_le e⟩
  · rename_i ne; exact fun d h => ne (key d h)

theorem Fine.sub {n s t} (h : Fine n t) (hs : ∀ l ∈ s, l ∈ t) : Fine n s :=
  ⟨fun l hl => h.lt l (hs l hl), fun l hl => h.ltn l (hs l hl), fun l hl => h.pos l (hs l hl), fun l hl m hm => h.uniq l (hs l hl) m (hs m hm)⟩

theorem table_nil (n : Nat) : table n [] = noWays n :=
  table_eq_mk ⟨by simp, by simp, by simp, by simp⟩ noWays_least

theorem table_more {n s} {l : Line} (h : Fine n (s ++ [l])) : table n (s ++ [l]) = withLine (table n s) l := by
  have hl : l ∈ s ++ [l] := List.mem_append_right _ (List.mem_singleton.2 rfl)
  have hb := h.ltn l hl
  have ha : l.a < n := Nat.lt_trans (h.lt l hl) hb
  obtain ⟨g, e, hg⟩ := table_least (h.sub (s := s) fun m hm => List.mem_append_left _ hm)
  rw [e, withLine_mk ha hb]
  exact table_eq_mk h (more_least ha hb hg)

theorem distances_eq {n : Nat} (s : List Line) (h : Fine n s) : distances n s = table n s := by
  have key : ∀ (r p : List Line), Fine n (p ++ r) → r.foldl withLine (table n p) = table n (p ++ r) := by
    intro r
    induction r with
    | nil => intro p _; simp
    | cons l r ih =>
      intro p hp
      have e : p ++ l :: r = (p ++ [l]) ++ r := by simp
      rw [List.foldl_cons, ← table_more (hp.sub (by intro m hm; rw [e]; exact List.mem_append_left _ hm)), e]
      exact ih (p ++ [l]) (by rw [← e]; exact hp)
  have := key s [] (by simpa using h)
  rw [table_nil] at this
  exact this

/-- lines kept, with the table carried along -/
def keepStep (t : Nat) (q : Table × List Line) (l : Line) : Table × List Line :=
  match (q.1.getD l.a []).getD l.b none with
  | none => (withLine q.1 l, q.2 ++ [l])
  | some d => if d > t * l.w then (withLine q.1 l, q.2 ++ [l]) else q
def keptLines (n : Nat) (s : List Line) (t : Nat) : List Line := (s.foldl (keepStep t) (noWays n, [])).2

theorem keep_fold {n t : Nat} (s : List Line) (h : Fine n s) : ∀ (r : List Line) (q : List Line), (∀ l ∈ q ++ r, l ∈ s) →
    r.foldl (keepStep t) (table n q, q) = (let k := r.foldl (fun s l => if within t (at_ (table n s) l.a l.b) (some l.w) then s else s ++ [l]) q; (table n k, k)) := by
  intro r
  induction r with
  | nil => intro q _; rfl
  | cons l r ih =>
    intro q hq
    have hq2 : ∀ m ∈ (q ++ [l]) ++ r, m ∈ s := by
      intro m hm; apply hq; simpa using hm
    have e1 : withLine (table n q) l = table n (q ++ [l]) := (table_more (h.sub (fun m hm => hq2 m (List.mem_append_left _ hm)))).symm
    rw [List.foldl_cons, List.foldl_cons]
    have e2 : keepStep t (table n q, q) l = (if within t (at_ (table n q) l.a l.b) (some l.w) then (table n q, q) else (table n (q ++ [l]), q ++ [l])) := by
      show (match at_ (table n q) l.a l.b with
        | none => (withLine (table n q) l, q ++ [l])
        | some d => if d > t * l.w then (withLine (table n q) l, q ++ [l]) else (table n q, q)) = _
      cases at_ (table n q) l.a l.b with
      | none => simp [within, e1]
      | some d =>
        simp only [within, decide_eq_true_eq, e1]
        by_cases hd : d ≤ t * l.w
        · rw [if_neg (by omega), if_pos hd]
        · rw [if_pos (by omega), if_neg hd]
    rw [e2]
    split
    · exact ih q (fun m hm => hq m (by simp at hm ⊢; rcases hm with h | h; exact .inl h; exact .inr (.inr h)))
    · exact ih (q ++ [l]) hq2

theorem keptLines_eq {n t : Nat} {s : List Line} (h : Fine n s) : keptLines n s t = (Net.mk n s).kept t := by
  unfold keptLines Net.kept
  rw [← table_nil, keep_fold s h s [] (by simp)]

theorem kept_sub {n t : Nat} {s : List Line} : ∀ l ∈ (Net.mk n s).kept t, l ∈ s := by
  have key : ∀ (r q : List Line), (∀ l ∈ q ++ r, l ∈ s) → ∀ l ∈ r.foldl (fun s l => if within t (at_ (table n s) l.a l.b) (some l.w) then s else s ++ [l]) q, l ∈ s := by
    intro r
    induction r with
    | nil => intro q hq l hl; exact hq l (by simpa using hl)
    | cons m r ih =>
      intro q hq
      rw [List.foldl_cons]
      split
      · exact ih q (fun l hl => hq l (by simp at hl ⊢; rcases hl with h | h; exact .inl h; exact .inr (.inr h)))
      · exact ih (q ++ [m]) (fun l hl => hq l (by simpa using hl))
  exact key s [] (by simp)

end Nk
/-! Facts of distances, of going on, of chosen and near places. -/
namespace Nk
open Kv402

theorem W.first {s : List Line} {u v d : Nat} (w : W s u v d) : (u = v ∧ d = 0) ∨ ∃ l x e, l ∈ s ∧ ends l u x = true ∧ W s x v e ∧ l.w + e = d := by
  induction w with
  | refl u => exact .inl ⟨rfl, rfl⟩
  | line hl he => exact .inr ⟨_, _, 0, hl, he, .refl _, rfl⟩
  | cat _ j2 i j =>
    rcases i with ⟨rfl, rfl⟩ | ⟨l, x, e, hl, he, hw, hs⟩
    · rw [Nat.zero_add]; exact j
    · exact .inr ⟨l, x, _, hl, he, .cat hw j2, by omega⟩

section
variable {n : Nat} {s : List Line} (h : Fine n s)
include h

theorem dist_some {u v d : Nat} (hu : u < n) (hv : v < n) (e : at_ (table n s) u v = some d) : W s u v d ∧ ∀ x, W s u v x → d ≤ x := by
  have := dist_least h hu hv; rw [e] at this; exact this

theorem dist_none {u v : Nat} (hu : u < n) (hv : v < n) (e : at_ (table n s) u v = none) : ∀ x, ¬ W s u v x := by
  have := dist_least h hu hv; rw [e] at this; exact this

theorem dist_of_W {u v d : Nat} (hu : u < n) (hv : v < n) (w : W s u v d) : ∃ c, at_ (table n s) u v = some c ∧ c ≤ d := by
  cases e : at_ (table n s) u v with
  | none => exact absurd w (dist_none h hu hv e d)
  | some c => exact ⟨c, rfl, (dist_some h hu hv e).2 d w⟩

theorem dist_self {u : Nat} (hu : u < n) : at_ (table n s) u u = some 0 := by
  obtain ⟨c, e, hc⟩ := dist_of_W h hu hu (.refl u)
  rw [e]; congr 1; omega

theorem dist_symm {u v : Nat} (hu : u < n) (hv : v < n) : at_ (table n s) u v = at_ (table n s) v u :=
  (dist_least h hu hv).unique ((dist_least h hv hu).of (fun _ w => w.symm) (fun d w => ⟨d, w.symm, Nat.le_refl _⟩))

theorem dist_tri {u v w a b : Nat} (hu : u < n) (hv : v < n) (hw : w < n) (e1 : at_ (table n s) u v = some a) (e2 : at_ (table n s) v w = some b) :
    ∃ c, at_ (table n s) u w = some c ∧ c ≤ a + b :=
  dist_of_W h hu hw (.cat (dist_some h hu hv e1).1 (dist_some h hv hw e2).1)

theorem dist_zero {u v : Nat} (hu : u < n) (hv : v < n) (e : at_ (table n s) u v = some 0) : u = v := by
  rcases (dist_some h hu hv e).1.first with ⟨e, _⟩ | ⟨l, x, e, hl, _, _, hs⟩
  · exact e
  · have := h.pos l hl; omega

theorem dist_beside {l : Line} {u x v d : Nat} (hl : l ∈ s) (he : ends l u x = true) (hv : v < n) (e : at_ (table n s) u v = some d) :
    ∃ c, at_ (table n s) x v = some c ∧ d ≤ l.w + c ∧ c ≤ l.w + d := by
  obtain ⟨hu, hx, _⟩ := h.ends_lt hl he
  have he' : ends l x u = true := by rw [ends_symm]; exact he
  obtain ⟨c, ec, hc⟩ := dist_of_W h hx hv (.cat (.line hl he') (dist_some h hu hv e).1)
  refine ⟨c, ec, ?_, hc⟩
  exact (dist_some h hu hv e).2 _ (.cat (.line hl he) (dist_some h hx hv ec).1)

theorem dist_step {u v d : Nat} (hu : u < n) (hv : v < n) (e : at_ (table n s) u v = some d) (ne : u ≠ v) :
    ∃ l x c, l ∈ s ∧ ends l u x = true ∧ at_ (table n s) x v = some c ∧ l.w + c = d := by
  obtain ⟨hw, hm⟩ := dist_some h hu hv e
  rcases hw.first with ⟨e, _⟩ | ⟨l, x, y, hl, he, hw, hs⟩
  · exact absurd e ne
  · obtain ⟨_, hx, _⟩ := h.ends_lt hl he
    obtain ⟨c, ec, hc⟩ := dist_of_W h hx hv hw
    obtain ⟨c', ec', h1, h2⟩ := dist_beside h hl he hv e
    rw [ec] at ec'; cases ec'
    exact ⟨l, x, c, hl, he, ec, by omega⟩

/-- what the specification's step asks of a place x beside u -/
theorem step_test {u v x d : Nat} (e : at_ (table n s) u v = some d) :
    (s.any fun l => ends l u x && plus (some l.w) (at_ (table n s) x v) == at_ (table n s) u v && (at_ (table n s) u v).isSome) =
    (match lenOf s u x with
      | none => false
      | some w => plus (some w) (at_ (table n s) x v) == some d) := by
  rw [e]
  cases hl : lenOf s u x with
  | none =>
    have := lenOf_none hl
    rw [List.any_eq_false]
    intro l hl'
    rw [this l hl']; simp
  | some w =>
    obtain ⟨l, hm, he, rfl⟩ := lenOf_mem hl
    dsimp only
    cases hb : plus (some l.w) (at_ (table n s) x v) == some d with
    | true => rw [List.any_eq_true]; exact ⟨l, hm, by rw [he, hb]; rfl⟩
    | false =>
      rw [List.any_eq_false]
      intro m hm'
      by_cases hem : ends m u x = true
      · rw [h.same hm' hm hem he, hb]; simp
      · simp [hem]

/-- where one goes on: the code's search -/
def onward (far : Table) (base : List Line) (u v : Nat) : Option Nat := (List.range far.length).find? fun x => match lenOf base u x with
  | none => false
  | some w => plus (some w) (at_ far x v) == at_ far u v

omit h in
theorem table_len (n : Nat) (s : List Line) : (table n s).length = n := by
  unfold table
  have key : ∀ (l : List Nat) (t : Table), (l.foldl via t).length = t.length := by
    intro l
    induction l with
    | nil => intro t; rfl
    | cons k l ih => intro t; rw [List.foldl_cons, ih]; simp [via]
  rw [key]; simp [start]

theorem onward_eq {u v d : Nat} (e : at_ (table n s) u v = some d) : onward (table n s) s u v = (Net.mk n s).step (table n s) u v := by
  unfold onward Net.step
  rw [table_len]
  have e0 : (Net.mk n s).lines = s := rfl
  have e1 : (Net.mk n s).n = n := rfl
  rw [e0, e1]
  congr 1
  funext x
  rw [step_test h e, e]

theorem step_some {u v d : Nat} (hu : u < n) (hv : v < n) (e : at_ (table n s) u v = some d) (ne : u ≠ v) :
    ∃ x, (Net.mk n s).step (table n s) u v = some x ∧ x < n ∧ ∃ c w, lenOf s u x = some w ∧ 1 ≤ w ∧ at_ (table n s) x v = some c ∧ w + c = d := by
  have e1 : (Net.mk n s).step (table n s) u v = (List.range n).find? fun x => match lenOf s u x with
      | none => false
      | some w => plus (some w) (at_ (table n s) x v) == some d := by
    unfold Net.step
    show (List.range n).find? (fun x => s.any fun l => ends l u x && plus (some l.w) (at_ (table n s) x v) == at_ (table n s) u v && (at_ (table n s) u v).isSome) = _
    congr 1
    funext x
    exact step_test h e
  rw [e1]
  cases hf : (List.range n).find? fun x => match lenOf s u x with
      | none => false
      | some w => plus (some w) (at_ (table n s) x v) == some d with
  | none =>
    obtain ⟨l, x, c, hl, he, ec, hs⟩ := dist_step h hu hv e ne
    obtain ⟨_, hx, _⟩ := h.ends_lt hl he
    have := List.find?_eq_none.1 hf x (List.mem_range.2 hx)
    rw [lenOf_some h hl he, ec] at this
    simp [plus, hs] at this
  | some x =>
    have hx := List.mem_range.1 (List.mem_of_find?_eq_some hf)
    have ht := List.find?_some hf
    refine ⟨x, rfl, hx, ?_⟩
    cases hl : lenOf s u x with
    | none => rw [hl] at ht; cases ht
    | some w =>
      rw [hl] at ht
      obtain ⟨l, hm, he, rfl⟩ := lenOf_mem hl
      cases hc : at_ (table n s) x v with
      | none => rw [hc] at ht; simp [plus] at ht
      | some c => rw [hc] at ht; exact ⟨c, l.w, rfl, h.pos l hm, rfl, by simpa [plus] using ht⟩
end

/-! ## chosen ones -/

/-- the code's search for the nearest chosen one -/
def nearestStep (row : List (Option Nat)) (ch : Nat) (best : Option Nat) (x : Nat) : Option Nat :=
  match row.getD x none with
  | none => best
  | some d => if Kv404.in_ ch x then (match best with
    | none => some x
    | some b => match row.getD b none with
      | none => best
      | some e => if d < e then some x else best) else best
def nearestOf (far : Table) (ch v : Nat) : Option Nat := (List.range far.length).foldl (nearestStep (far.getD v []) ch) none

def nstep (t : Table) (v : Nat) (b : Option (Nat × Nat)) (c : Nat) : Option (Nat × Nat) := match at_ t v c with
  | none => b
  | some d => match b with
    | none => some (c, d)
    | some q => if d < q.2 then some (c, d) else b

theorem nearest_eq (n : Nat) (t : Table) (ht : t.length = n) (ch v : Nat) :
    (Kv404.nearest n t ch v).map Prod.fst = nearestOf t ch v ∧ ∀ q, Kv404.nearest n t ch v = some q → at_ t v q.1 = some q.2 ∧ q.1 < n ∧ Kv404.in_ ch q.1 = true := by
  have e0 : Kv404.nearest n t ch v = ((List.range n).filter (Kv404.in_ ch)).foldl (nstep t v) none := rfl
  rw [e0]
  unfold nearestOf
  rw [ht]
  have key : ∀ (l : List Nat) (b : Option (Nat × Nat)), (∀ x ∈ l, x < n) → (∀ q, b = some q → at_ t v q.1 = some q.2 ∧ q.1 < n ∧ Kv404.in_ ch q.1 = true) →
      ((l.filter (Kv404.in_ ch)).foldl (nstep t v) b).map Prod.fst = l.foldl (nearestStep (t.getD v []) ch) (b.map Prod.fst) ∧
      ∀ q, ((l.filter (Kv404.in_ ch)).foldl (nstep t v) b) = some q → at_ t v q.1 = some q.2 ∧ q.1 < n ∧ Kv404.in_ ch q.1 = true := by
    intro l
    induction l with
    | nil => intro b _ hb; exact ⟨rfl, hb⟩
    | cons x l ih =>
      intro b hx hb
      have hx' : ∀ y ∈ l, y < n := fun y hy => hx y (List.mem_cons_of_mem _ hy)
      have hxn : x < n := hx x (List.mem_cons_self ..)
      by_cases hc : Kv404.in_ ch x = true
      · rw [List.filter_cons_of_pos hc, List.foldl_cons, List.foldl_cons]
        have e : nearestStep (t.getD v []) ch (b.map Prod.fst) x = (nstep t v b x).map Prod.fst := by
          unfold nearestStep nstep
          show (match at_ t v x with
            | none => _
            | some d => _) = _
          cases hd : at_ t v x with
          | none => rfl
          | some d =>
            simp only [hc, if_true]
            cases hbb : b with
            | none => rfl
            | some q =>
              have := (hb q hbb).1
              have this' : (t.getD v []).getD q.1 none = some q.2 := this
              simp only [Option.map_some, this']
              split <;> rfl
        rw [e]
        refine ih _ hx' ?_
        intro q hq
        unfold nstep at hq
        cases hd : at_ t v x with
        | none => rw [hd] at hq; exact hb q hq
        | some d =>
          rw [hd] at hq
          cases hbb : b with
          | none => rw [hbb] at hq; cases hq; exact ⟨hd, hxn, hc⟩
          | some q0 =>
            rw [hbb] at hq
            dsimp only at hq
            split at hq
            · cases hq; exact ⟨hd, hxn, hc⟩
            · exact hb q (by rw [hbb]; exact hq)
      · rw [List.filter_cons_of_neg hc, List.foldl_cons]
        have e : nearestStep (t.getD v []) ch (b.map Prod.fst) x = b.map Prod.fst := by
          unfold nearestStep
          cases (t.getD v []).getD x none with
          | none => rfl
          | some d => simp [hc]
        rw [e]
        exact ih b hx' hb
  exact key (List.range n) none (fun x hx => List.mem_range.1 hx) (by simp)

/-- the code's is_near: the other one is near the place -/
def isNear (far : Table) (near : List (Option Nat)) (p o : Nat) : Bool := match at_ far p o with
  | none => false
  | some d => match near.getD p none with
    | none => true
    | some c => match at_ far p c with
      | none => false
      | some e => decide (d < e)

def nearestAll (far : Table) (ch n : Nat) : List (Option Nat) := (List.range n).map (nearestOf far ch)

theorem isNear_eq (n : Nat) (t : Table) (ht : t.length = n) (ch : Nat) {p o : Nat} (hp : p < n) (ho : o < n) :
    (Kv404.near n t ch p).contains o = isNear t (nearestAll t ch n) p o := by
  unfold Kv404.near isNear nearestAll
  rw [getD_map_range n _ _ _ hp]
  obtain ⟨h1, h2⟩ := nearest_eq n t ht ch p
  rw [Bool.eq_iff_iff, List.contains_iff_mem, List.mem_filter, List.mem_range]
  cases at_ t p o with
  | none => simp
  | some d =>
    cases hn : Kv404.nearest n t ch p with
    | none => rw [hn] at h1; rw [← h1]; simp [ho]
    | some q =>
      rw [hn] at h1
      rw [← h1]
      obtain ⟨h3, _, _⟩ := h2 q hn
      simp [ho, h3]

end Nk
/-! A message's way comes to an end, and how far it goes. -/
namespace Nk
open Kv402 Kv405
set_option linter.unusedSectionVars false

/-- one goes on from u, unless one is there -/
def sentOn (g : Net) (t : Table) (ch : Nat) (d : Address) (u : Nat) : Option Nat := if u = d.v then none else send g t ch d u

/-- so many places are enough -/
def Fin_ (g : Net) (t : Table) (ch : Nat) (d : Address) : Nat → Nat → Prop
  | 0, _ => False
  | f + 1, u => match sentOn g t ch d u with
    | none => True
    | some x => Fin_ g t ch d f x

theorem Fin_.up {g t ch d} : ∀ {f u}, Fin_ g t ch d f u → Fin_ g t ch d (f + 1) u := by
  intro f
  induction f with
  | zero => intro u h; exact h.elim
  | succ f ih =>
    intro u h
    show (match sentOn g t ch d u with
      | none => True
      | some x => Fin_ g t ch d (f + 1) x)
    have h' : (match sentOn g t ch d u with
      | none => True
      | some x => Fin_ g t ch d f x) := h
    cases e : sentOn g t ch d u with
    | none => trivial
    | some x => rw [e] at h'; exact ih h'

theorem Fin_.mono {g t ch d f f' u} (h : Fin_ g t ch d f u) (hf : f ≤ f') : Fin_ g t ch d f' u := by
  induction hf with
  | refl => exact h
  | step _ ih => exact ih.up

theorem Fin_.stop {g t ch d f u} (e : sentOn g t ch d u = none) : Fin_ g t ch d (f + 1) u := by
  show (match sentOn g t ch d u with
    | none => True
    | some x => Fin_ g t ch d f x)
  rw [e]; trivial

theorem Fin_.on {g t ch d f u x} (e : sentOn g t ch d u = some x) (h : Fin_ g t ch d f x) : Fin_ g t ch d (f + 1) u := by
  show (match sentOn g t ch d u with
    | none => True
    | some x => Fin_ g t ch d f x)
  rw [e]; exact h

theorem way_step {g t ch d f u} : way g t ch d (f + 1) u = u :: (match sentOn g t ch d u with
    | none => []
    | some x => way g t ch d f x) := by
  show (if u = d.v then [u] else match send g t ch d u with
    | none => [u]
    | some x => u :: way g t ch d f x) = _
  unfold sentOn
  split
  · rfl
  · cases send g t ch d u <;> rfl

/-- how many places are nearer to v than x -/
def nearer (n : Nat) (t : Table) (x v : Nat) : Nat := (List.range n).countP fun y => match at_ t y v, at_ t x v with
  | some a, some b => decide (a < b)
  | _, _ => false

theorem countP_lt {l : List Nat} {p q : Nat → Bool} (h : ∀ x ∈ l, p x = true → q x = true) {y : Nat} (hy : y ∈ l) (hp : p y = false) (hq : q y = true) : l.countP p < l.countP q := by
  induction l with
  | nil => cases hy
  | cons z l ih =>
    have hz := h z (List.mem_cons_self ..)
    have hl : ∀ x ∈ l, p x = true → q x = true := fun x hx => h x (List.mem_cons_of_mem _ hx)
    rcases List.mem_cons.1 hy with e | hy'
    · subst e
      have : l.countP p ≤ l.countP q := List.countP_mono_left hl
      rw [List.countP_cons_of_neg (by simp [hp]), List.countP_cons_of_pos hq]; omega
    · have := ih hl hy'
      by_cases hpz : p z = true
      · rw [List.countP_cons_of_pos hpz, List.countP_cons_of_pos (hz hpz)]; omega
      · rw [List.countP_cons_of_neg hpz]
        have : l.countP q ≤ (z :: l).countP q := by rw [List.countP_cons]; omega
        omega

theorem nearer_lt {n t x y v a b} (hy : y < n) (ex : at_ t x v = some a) (ey : at_ t y v = some b) (h : b < a) : nearer n t y v < nearer n t x v := by
  unfold nearer
  refine countP_lt ?_ (List.mem_range.2 hy) ?_ ?_
  · intro z _ hz
    rw [ey] at hz
    rw [ex]
    cases ez : at_ t z v with
    | none => rw [ez] at hz; cases hz
    | some c => rw [ez] at hz; simp at hz ⊢; omega
  · rw [ey]; simp
  · rw [ex, ey]; simp [h]

theorem nearer_le {n t x v} (hx : x < n) : nearer n t x v < n := by
  unfold nearer
  have h := countP_lt (l := List.range n) (p := fun y => match at_ t y v, at_ t x v with
    | some a, some b => decide (a < b)
    | _, _ => false) (q := fun _ => true) (fun _ _ _ => rfl) (List.mem_range.2 hx) (by
      cases at_ t x v <;> simp) rfl
  have h2 : (List.range n).countP (fun _ => true) = n := by simp
  omega

section
variable {n : Nat} {s : List Line} (h : Fine n s) {ch : Nat}
include h

theorem entry_chosen {u v d : Nat} (ne : u ≠ v) (e : at_ (table n s) u v = some d) (hc : Kv404.in_ ch v = true) : entry ⟨n, s⟩ (table n s) ch u v = true := by
  unfold entry; simp [ne, e, hc]

theorem near_mem {v w d : Nat} (hw : w < n) (e : at_ (table n s) v w = some d) : (Kv404.near n (table n s) ch v).contains w = true ↔ ∀ q, Kv404.nearest n (table n s) ch v = some q → d < q.2 := by
  unfold Kv404.near
  rw [List.contains_iff_mem, List.mem_filter, List.mem_range, e]
  cases Kv404.nearest n (table n s) ch v <;> simp [hw]

theorem entry_on {u x v d c : Nat} (hu : u < n) (hx : x < n) (hv : v < n) (he : entry ⟨n, s⟩ (table n s) ch u v = true)
    (eu : at_ (table n s) u v = some d) (ex : at_ (table n s) x v = some c) (hlt : c < d) : x = v ∨ entry ⟨n, s⟩ (table n s) ch x v = true := by
  by_cases hxv : x = v
  · exact .inl hxv
  refine .inr ?_
  unfold entry at he ⊢
  simp only [eu, Option.isSome_some, Bool.and_true, Bool.and_eq_true, Bool.or_eq_true] at he
  simp only [ex, Option.isSome_some, Bool.and_true, Bool.and_eq_true, Bool.or_eq_true]
  refine ⟨by simp [hxv], ?_⟩
  rcases he.2 with hc | hn
  · exact .inl hc
  · refine .inr ?_
    rw [dist_symm h hu hv] at eu
    rw [dist_symm h hx hv] at ex
    rw [near_mem h hx ex]
    intro q hq
    have := (near_mem h hu eu).1 hn q hq
    omega

theorem entry_some {u v : Nat} (he : entry ⟨n, s⟩ (table n s) ch u v = true) : u ≠ v ∧ ∃ d, at_ (table n s) u v = some d := by
  unfold entry at he
  simp only [Bool.and_eq_true, bne_iff_ne, ne_eq] at he
  exact ⟨he.1.1, Option.isSome_iff_exists.1 he.1.2⟩

/-- whom it's for is told by tables from here on -/
theorem fin_near {d : Address} (hv : d.v < n) : ∀ (m x : Nat), x < n → nearer n (table n s) x d.v = m → (x = d.v ∨ entry ⟨n, s⟩ (table n s) ch x d.v = true) →
    Fin_ ⟨n, s⟩ (table n s) ch d (m + 1) x := by
  intro m
  induction m using Nat.strongRecOn with
  | _ m ih =>
    intro x hx hm hxe
    by_cases e : x = d.v
    · exact .stop (by unfold sentOn; rw [if_pos e])
    have he : entry ⟨n, s⟩ (table n s) ch x d.v = true := hxe.resolve_left e
    obtain ⟨_, c, ec⟩ := entry_some h he
    obtain ⟨y, ey, hy, b, w, _, hw, eb, hs⟩ := step_some h hx hv ec e
    have e1 : sentOn ⟨n, s⟩ (table n s) ch d x = some y := by
      unfold sentOn send; rw [if_neg e, if_pos he]; exact ey
    have hlt := nearer_lt hy ec eb (by omega)
    have := ih _ (by omega) y hy rfl (entry_on h hx hy hv he ec eb (by omega))
    exact (Fin_.on e1 this).mono (by omega)

theorem fin_far {v : Nat} {q : Nat × Nat} (hv : v < n) (hq : Kv404.nearest n (table n s) ch v = some q) :
    let d : Address := ⟨v, q.1, if q.1 = v then v else (step ⟨n, s⟩ (table n s) q.1 v).getD v⟩
    ∀ (m x : Nat), x < n → nearer n (table n s) x q.1 = m → Fin_ ⟨n, s⟩ (table n s) ch d (n + m + 1) x := by
  intro d m
  obtain ⟨_, h2⟩ := nearest_eq n (table n s) (table_len n s) ch v
  obtain ⟨eq, hqn, hqc⟩ := h2 q hq
  have hdv : d.v < n := hv
  induction m using Nat.strongRecOn with
  | _ m ih =>
    intro x hx hm
    by_cases e : x = v
    · exact .stop (by unfold sentOn; exact if_pos e)
    by_cases he : entry ⟨n, s⟩ (table n s) ch x v = true
    · have hlt := nearer_le (t := table n s) (v := v) hx
      exact (fin_near h (d := d) hdv _ x hx rfl (.inr he)).mono (by show nearer n (table n s) x v + 1 ≤ _; omega)
    by_cases ec : x = q.1
    · have hne : q.1 ≠ v := by rw [← ec]; exact e
      have eqs : at_ (table n s) q.1 v = some q.2 := by rw [← dist_symm h hv hqn]; exact eq
      obtain ⟨y, ey, hy, b, w, _, hw, eb, hs⟩ := step_some h hqn hv eqs hne
      have ede : d.e = y := by
        show (if q.1 = v then v else (step ⟨n, s⟩ (table n s) q.1 v).getD v) = y
        rw [if_neg hne]
        have : step ⟨n, s⟩ (table n s) q.1 v = some y := ey
        rw [this]; rfl
      have e1 : sentOn ⟨n, s⟩ (table n s) ch d x = some y := by
        unfold sentOn send
        rw [if_neg (show ¬ x = d.v from e), if_neg he, if_pos (show x = d.c from ec), ede]
      have hye : y = v ∨ entry ⟨n, s⟩ (table n s) ch y v = true := by
        by_cases hyv : y = v
        · exact .inl hyv
        refine .inr ?_
        unfold entry
        simp only [eb, Option.isSome_some, Bool.and_true, Bool.and_eq_true, Bool.or_eq_true]
        refine ⟨by simp [hyv], .inr ?_⟩
        rw [dist_symm h hy hv] at eb
        rw [near_mem h hy eb]
        intro q' hq'
        rw [hq] at hq'; cases hq'; omega
      have hlt := nearer_le (t := table n s) (v := v) hy
      exact (Fin_.on e1 (fin_near h (d := d) hdv _ y hy rfl hye)).mono (by show nearer n (table n s) y v + 1 + 1 ≤ _; omega)
    by_cases hec : entry ⟨n, s⟩ (table n s) ch x q.1 = true
    · obtain ⟨_, a, ea⟩ := entry_some h hec
      obtain ⟨y, ey, hy, b, w, _, hw, eb, hs⟩ := step_some h hx hqn ea ec
      have e1 : sentOn ⟨n, s⟩ (table n s) ch d x = some y := by
        unfold sentOn send
        rw [if_neg (show ¬ x = d.v from e), if_neg he, if_neg (show ¬ x = d.c from ec), if_pos hec]
        exact ey
      have hlt := nearer_lt hy ea eb (by omega)
      exact (Fin_.on e1 (ih _ (by omega) y hy rfl)).mono (by omega)
    · refine .stop ?_
      unfold sentOn send
      rw [if_neg (show ¬ x = d.v from e), if_neg he, if_neg (show ¬ x = d.c from ec), if_neg hec]

theorem address_fin {v x : Nat} {d : Address} (hv : v < n) (hx : x < n) (hd : address ⟨n, s⟩ (table n s) ch v = some d) : Fin_ ⟨n, s⟩ (table n s) ch d (2 * n) x := by
  unfold address at hd
  have e0 : (Net.mk n s).n = n := rfl
  rw [e0] at hd
  cases hq : Kv404.nearest n (table n s) ch v with
  | none => rw [hq] at hd; cases hd
  | some q =>
    rw [hq] at hd; cases hd
    have hlt := nearer_le (t := table n s) (v := q.1) hx
    exact (fin_far h hv hq _ x hx rfl).mono (by omega)

/-- where a message goes on to is a place -/
theorem sentOn_lt {v u x : Nat} {d : Address} (hv : v < n) (hu : u < n) (hd : address ⟨n, s⟩ (table n s) ch v = some d) (e : sentOn ⟨n, s⟩ (table n s) ch d u = some x) : x < n := by
  have hstep : ∀ {a b y : Nat}, (Net.mk n s).step (table n s) a b = some y → y < n := by
    intro a b y hy
    exact List.mem_range.1 (List.mem_of_find?_eq_some hy)
  unfold address at hd
  have e0 : (Net.mk n s).n = n := rfl
  rw [e0] at hd
  cases hq : Kv404.nearest n (table n s) ch v with
  | none => rw [hq] at hd; cases hd
  | some q =>
    rw [hq] at hd
    have hE : (if q.1 = v then v else (step ⟨n, s⟩ (table n s) q.1 v).getD v) < n := by
      split
      · exact hv
      · cases hs : step ⟨n, s⟩ (table n s) q.1 v with
        | none => exact hv
        | some y => exact hstep hs
    dsimp only at hd
    generalize (if q.1 = v then v else (step ⟨n, s⟩ (table n s) q.1 v).getD v) = E at hd hE
    cases hd
    unfold sentOn send at e
    dsimp only at e
    by_cases h1 : u = v
    · rw [if_pos h1] at e; cases e
    rw [if_neg h1] at e
    by_cases h2 : entry ⟨n, s⟩ (table n s) ch u v = true
    · rw [if_pos h2] at e; exact hstep e
    rw [if_neg h2] at e
    by_cases h3 : u = q.1
    · rw [if_pos h3] at e; cases e; exact hE
    rw [if_neg h3] at e
    by_cases h4 : entry ⟨n, s⟩ (table n s) ch u q.1 = true
    · rw [if_pos h4] at e; exact hstep e
    rw [if_neg h4] at e; cases e
end

/-! ## how far it goes -/

/-- the code's sum over a way: none, where a line isn't there -/
def goneFrom (lines : List Line) : List Nat → Option Nat
  | u :: v :: l => match lenOf lines u v with
    | none => none
    | some w => plus (some w) (goneFrom lines (v :: l))
  | _ => some 0

theorem any_ends (lines : List Line) (u v : Nat) : lines.any (fun x => ends x u v) = (lenOf lines u v).isSome := by
  unfold lenOf
  rw [Option.isSome_map, List.isSome_find?]

theorem gone_eq (a : Kv406.Now) : ∀ (r : List Nat), goneFrom a.g.lines r = if a.goes r then some (len a.g r) else none
  | [] => rfl
  | [_] => rfl
  | u :: v :: l => by
    have ih := gone_eq a (v :: l)
    unfold goneFrom Kv406.Now.goes len
    rw [any_ends, ih]
    show (match lenOf a.g.lines u v with
      | none => none
      | some w => plus (some w) (if a.goes (v :: l) then some (len a.g (v :: l)) else none)) = if ((lenOf a.g.lines u v).isSome && a.goes (v :: l)) = true then some ((lenOf a.g.lines u v).getD 0 + len a.g (v :: l)) else none
    cases lenOf a.g.lines u v with
    | none => rfl
    | some w =>
      by_cases hg : a.goes (v :: l) = true
      · simp [hg, plus]
      · simp [hg, plus]

def howFar (lines : List Line) (r : List Nat) (v : Nat) : Option Nat := if r.getLast? = some v then goneFrom lines r else none

theorem howFar_eq (a : Kv406.Now) (u v : Nat) : howFar a.g.lines (a.route u v) v = if a.comes u v then some (len a.g (a.route u v)) else none := by
  unfold howFar Kv406.Now.comes arrives
  rw [gone_eq]
  by_cases h : (a.route u v).getLast? = some v
  · simp [h]
  · simp [h]

end Nk
/-! Marks: the code's marks are the specification's. -/
namespace Nk
open Kv402 Kv403

/-- each mark tells the distance in the base -/
def MarksOk (n : Nat) (t : Table) (m : Marks) : Prop := m.length = n ∧ ∀ v, v < n → ∀ q ∈ m.getD v [], q.1 < n ∧ at_ t q.1 v = some q.2

theorem told_mem {l m : List Mark} {x : Nat} (h : told l m = some x) : ∃ p ∈ l, ∃ q ∈ m, p.1 = q.1 ∧ x = p.2 + q.2 := by
  unfold told at h
  have inner : ∀ (m' : List Mark) (p : Mark) (st : Option Nat) (x : Nat), m'.foldl (fun s y => if p.1 = y.1 then Kv402.less s (some (p.2 + y.2)) else s) st = some x →
      st = some x ∨ ∃ q ∈ m', p.1 = q.1 ∧ x = p.2 + q.2 := by
    intro m'
    induction m' with
    | nil => intro p st x h; exact .inl h
    | cons y m' ih =>
      intro p st x h
      rw [List.foldl_cons] at h
      rcases ih p _ x h with h | ⟨q, hq, h1, h2⟩
      · split at h
        · rename_i e
          cases st with
          | none => simp only [Kv402.less] at h; cases h; exact .inr ⟨y, List.mem_cons_self .., e, rfl⟩
          | some z =>
            simp only [Kv402.less] at h
            cases h
            rcases Nat.le_total z (p.2 + y.2) with hz | hz
            · rw [Nat.min_eq_left hz]; exact .inl rfl
            · rw [Nat.min_eq_right hz]; exact .inr ⟨y, List.mem_cons_self .., e, rfl⟩
        · exact .inl h
      · exact .inr ⟨q, List.mem_cons_of_mem _ hq, h1, h2⟩
  have outer : ∀ (l' : List Mark) (st : Option Nat) (x : Nat), l'.foldl (fun s x => m.foldl (fun s y => if x.1 = y.1 then Kv402.less s (some (x.2 + y.2)) else s) s) st = some x →
      st = some x ∨ ∃ p ∈ l', ∃ q ∈ m, p.1 = q.1 ∧ x = p.2 + q.2 := by
    intro l'
    induction l' with
    | nil => intro st x h; exact .inl h
    | cons p l' ih =>
      intro st x h
      rw [List.foldl_cons] at h
      rcases ih _ x h with h | ⟨p', hp, q, hq, h1, h2⟩
      · rcases inner m p st x h with h | ⟨q, hq, h1, h2⟩
        · exact .inl h
        · exact .inr ⟨p, List.mem_cons_self .., q, hq, h1, h2⟩
      · exact .inr ⟨p', List.mem_cons_of_mem _ hp, q, hq, h1, h2⟩
  rcases outer l none x h with h | h
  · cases h
  · exact h

section
variable {n : Nat} {s : List Line} (h : Fine n s)
include h

theorem told_ge {m : Marks} (hm : MarksOk n (table n s) m) {u v x d : Nat} (hu : u < n) (hv : v < n) (e : told (m.getD u []) (m.getD v []) = some x)
    (ed : at_ (table n s) u v = some d) : d ≤ x := by
  obtain ⟨p, hp, q, hq, h1, h2⟩ := told_mem e
  obtain ⟨hp1, ep⟩ := hm.2 u hu p hp
  obtain ⟨hq1, eq⟩ := hm.2 v hv q hq
  rw [← h1] at eq
  rw [dist_symm h hp1 hu] at ep
  obtain ⟨c, ec, hc⟩ := dist_tri h hu hp1 hv ep eq
  rw [ed] at ec; cases ec; omega

/-- the code's question: is what's told another than the distance -/
theorem toMark_iff {m : Marks} (hm : MarksOk n (table n s) m) {u v d : Nat} (hu : u < n) (hv : v < n) (ed : at_ (table n s) u v = some d) :
    within 1 (told (m.getD u []) (m.getD v [])) (some d) = decide (told (m.getD u []) (m.getD v []) = some d) := by
  cases e : told (m.getD u []) (m.getD v []) with
  | none => simp [within]
  | some x =>
    have := told_ge h hm hu hv e ed
    simp only [within, Option.some.injEq]
    rw [Bool.eq_iff_iff]; simp; omega

/-- the code's places to mark -/
def toMark (far : Table) (m : Marks) (k : Nat) : List Nat := ((List.range far.length).filter fun p => (at_ far k p).isSome).filter fun p => decide (told (m.getD k []) (m.getD p []) ≠ at_ far k p)

/-- one mark more, at a place -/
def markAt (far : Table) (k : Nat) (m : Marks) (p : Nat) : Marks := m.set p (m.getD p [] ++ [(k, (at_ far k p).getD 0)])

omit h in
theorem foldl_set {m : Marks} {far : Table} {k : Nat} : ∀ (l : List Nat), l.Nodup → (∀ p ∈ l, p < m.length) →
    l.foldl (markAt far k) m = (List.range m.length).map fun v => if v ∈ l then m.getD v [] ++ [(k, (at_ far k v).getD 0)] else m.getD v [] := by
  intro l
  induction l generalizing m with
  | nil =>
    intro _ _
    simp only [List.foldl_nil, List.not_mem_nil, if_false]
    apply List.ext_getElem
    · simp
    · intro i h1 h2; simp; rw [List.getElem?_eq_getElem h1]; rfl
  | cons p l ih =>
    intro nd hl
    rw [List.foldl_cons]
    have hp := hl p (List.mem_cons_self ..)
    have nd' := List.nodup_cons.1 nd
    have el : (markAt far k m p).length = m.length := by simp [markAt]
    rw [ih nd'.2 (by intro q hq; rw [el]; exact hl q (List.mem_cons_of_mem _ hq)), el]
    refine List.map_congr_left fun v hv => ?_
    have hv := List.mem_range.1 hv
    have eg : (markAt far k m p).getD v [] = if v = p then m.getD p [] ++ [(k, (at_ far k p).getD 0)] else m.getD v [] := by
      unfold markAt
      rw [List.getD_eq_getElem?_getD, List.getElem?_set]
      split
      · rename_i e; subst e; simp [hp]
      · rename_i e; rw [if_neg (fun h => e h.symm)]; rw [List.getD_eq_getElem?_getD]
    rw [eg]
    by_cases e : v = p
    · subst e
      rw [if_neg nd'.1, if_pos rfl, if_pos (List.mem_cons_self ..)]
    · rw [if_neg e]
      by_cases hvl : v ∈ l
      · rw [if_pos hvl, if_pos (List.mem_cons_of_mem _ hvl)]
      · rw [if_neg hvl, if_neg (by simp [e, hvl])]

theorem mark_eq {m : Marks} (hm : MarksOk n (table n s) m) {k : Nat} (hk : k < n) : (toMark (table n s) m k).foldl (markAt (table n s) k) m = mark n (table n s) m k := by
  have hmem : ∀ p, p ∈ toMark (table n s) m k ↔ p < n ∧ (at_ (table n s) k p).isSome = true ∧ told (m.getD k []) (m.getD p []) ≠ at_ (table n s) k p := by
    intro p
    unfold toMark
    rw [List.mem_filter, List.mem_filter, List.mem_range, table_len]
    simp [and_assoc]
  rw [foldl_set]
  · rw [hm.1]
    unfold mark
    refine List.map_congr_left fun v hv => ?_
    have hv := List.mem_range.1 hv
    cases e : at_ (table n s) k v with
    | none => rw [if_neg (by rw [hmem]; simp [e])]
    | some d =>
      dsimp only
      rw [toMark_iff h hm hk hv e]
      by_cases ht : told (m.getD k []) (m.getD v []) = some d
      · rw [if_neg (by rw [hmem, e, ht]; simp), if_pos (by rw [ht]; simp)]
      · rw [if_pos (by rw [hmem, e]; exact ⟨hv, rfl, ht⟩), if_neg (by simpa using ht)]; rfl
  · unfold toMark; exact (List.nodup_range.filter _).filter _
  · intro p hp; rw [hm.1]; exact ((hmem p).1 hp).1

theorem mark_ok {m : Marks} (hm : MarksOk n (table n s) m) {k : Nat} (hk : k < n) : MarksOk n (table n s) (mark n (table n s) m k) := by
  refine ⟨by simp [mark], fun v hv q hq => ?_⟩
  unfold mark at hq
  rw [getD_map_range n _ _ _ hv] at hq
  dsimp only at hq
  cases e : at_ (table n s) k v with
  | none => rw [e] at hq; exact hm.2 v hv q hq
  | some d =>
    rw [e] at hq
    dsimp only at hq
    split at hq
    · exact hm.2 v hv q hq
    · rcases List.mem_append.1 hq with hq | hq
      · exact hm.2 v hv q hq
      · have := List.mem_singleton.1 hq; subst this; exact ⟨hk, e⟩

omit h in
theorem none_ok (n : Nat) (t : Table) : MarksOk n t (List.replicate n []) := by
  refine ⟨by simp, fun v hv q hq => ?_⟩
  rw [List.getD_eq_getElem?_getD, List.getElem?_replicate] at hq
  simp [hv] at hq

def marksOf (far : Table) (o : List Nat) : Marks := o.foldl (fun m k => (toMark far m k).foldl (markAt far k) m) (List.replicate far.length [])

theorem marks_fold {o : List Nat} (ho : ∀ k ∈ o, k < n) : ∀ (m : Marks), MarksOk n (table n s) m →
    o.foldl (fun m k => (toMark (table n s) m k).foldl (markAt (table n s) k) m) m = o.foldl (mark n (table n s)) m ∧ MarksOk n (table n s) (o.foldl (mark n (table n s)) m) := by
  induction o with
  | nil => intro m hm; exact ⟨rfl, hm⟩
  | cons k o ih =>
    intro m hm
    rw [List.foldl_cons, List.foldl_cons, mark_eq h hm (ho k (List.mem_cons_self ..))]
    exact ih (fun x hx => ho x (List.mem_cons_of_mem _ hx)) _ (mark_ok h hm (ho k (List.mem_cons_self ..)))

theorem marksOf_eq {o : List Nat} (ho : ∀ k ∈ o, k < n) : marksOf (table n s) o = Kv403.marks ⟨n, s⟩ o ∧ MarksOk n (table n s) (Kv403.marks ⟨n, s⟩ o) := by
  unfold marksOf Kv403.marks
  rw [table_len]
  exact marks_fold h ho _ (none_ok n _)
end

end Nk
/-! Choosing by greed: the code's rows that lack a chosen one, held against the specification. -/
namespace Nk
open Kv402 Kv404

/-- how far x is from v -/
def dOf (t : Table) (v x : Nat) : Nat := (at_ t v x).getD 0
/-- by distance, of like ones by number -/
def Lex (t : Table) (v x y : Nat) : Prop := dOf t v x < dOf t v y ∨ (dOf t v x = dOf t v y ∧ x ≤ y)
def reached (n : Nat) (t : Table) (v : Nat) : List Nat := (List.range n).filter fun w => (at_ t v w).isSome

theorem insert_perm (t : Table) (v w : Nat) : ∀ l, (insert_ t v w l).Perm (w :: l)
  | [] => .refl _
  | x :: l => by
    unfold insert_
    split
    · exact .refl _
    · exact ((insert_perm t v w l).cons x).trans (.swap w x l)

theorem insert_lex (t : Table) (v w : Nat) : ∀ l, l.Pairwise (Lex t v) → (∀ x ∈ l, x ≤ w) → (insert_ t v w l).Pairwise (Lex t v)
  | [], _, _ => by simp [insert_]
  | x :: l, hp, hw => by
    unfold insert_
    have hp' := List.pairwise_cons.1 hp
    split
    · rename_i hlt
      refine List.pairwise_cons.2 ⟨fun y hy => ?_, hp⟩
      rcases List.mem_cons.1 hy with rfl | hy
      · exact .inl hlt
      · have hxy := hp'.1 y hy
        have hlt' : dOf t v w < dOf t v x := hlt
        rcases hxy with h | h
        · exact .inl (by omega)
        · exact .inl (by omega)
    · rename_i hge
      have hge' : ¬ dOf t v w < dOf t v x := hge
      refine List.pairwise_cons.2 ⟨fun y hy => ?_, insert_lex t v w l hp'.2 (fun z hz => hw z (List.mem_cons_of_mem _ hz))⟩
      rcases List.mem_cons.1 ((insert_perm t v w l).mem_iff.1 hy) with rfl | hy
      · have := hw x (List.mem_cons_self ..)
        unfold Lex; omega
      · exact hp'.1 y hy

theorem byDist_spec (n : Nat) (t : Table) (v : Nat) : (byDist n t v).Perm (reached n t v) ∧ (byDist n t v).Pairwise (Lex t v) := by
  have key : ∀ (l acc : List Nat), acc.Pairwise (Lex t v) → l.Pairwise (· < ·) → (∀ x ∈ acc, ∀ y ∈ l, x ≤ y) →
      (l.foldl (fun l w => insert_ t v w l) acc).Perm (acc ++ l) ∧ (l.foldl (fun l w => insert_ t v w l) acc).Pairwise (Lex t v) := by
    intro l
    induction l with
    | nil => intro acc h _ _; exact ⟨by simp, h⟩
    | cons w l ih =>
      intro acc h hl hacc
      have hl' := List.pairwise_cons.1 hl
      rw [List.foldl_cons]
      obtain ⟨h1, h2⟩ := ih (insert_ t v w acc) (insert_lex t v w acc h (fun x hx => hacc x hx w (List.mem_cons_self ..))) hl'.2 (by
        intro x hx y hy
        rcases List.mem_cons.1 ((insert_perm t v w acc).mem_iff.1 hx) with rfl | hx
        · exact Nat.le_of_lt (hl'.1 y hy)
        · exact hacc x hx y (List.mem_cons_of_mem _ hy))
      refine ⟨h1.trans ?_, h2⟩
      exact ((insert_perm t v w acc).append_right l).trans (List.perm_middle.symm)
  have := key (reached n t v) [] List.Pairwise.nil (List.pairwise_lt_range.filter _) (by simp)
  rw [List.nil_append] at this
  exact this

/-- any arrangement by distance and number is this one -/
theorem byDist_unique {n : Nat} {t : Table} {v : Nat} {l : List Nat} (hp : l.Perm (reached n t v)) (hl : l.Pairwise (Lex t v)) : l = byDist n t v := by
  obtain ⟨h1, h2⟩ := byDist_spec n t v
  refine List.Perm.eq_of_pairwise (le := Lex t v) ?_ hl h2 (hp.trans h1.symm)
  intro a b _ _ hab hba
  unfold Lex at hab hba; omega

theorem byDist_nodup (n t v) : (byDist n t v).Nodup := (byDist_spec n t v).1.nodup_iff.2 (List.nodup_range.filter _)

theorem byDist_mem {n t v x} : x ∈ byDist n t v ↔ x < n ∧ (at_ t v x).isSome = true := by
  rw [(byDist_spec n t v).1.mem_iff]; unfold reached; rw [List.mem_filter, List.mem_range]

theorem first_lt {n t k v x} (h : x ∈ first n t k v) : x < n := (byDist_mem.1 (List.mem_of_mem_take h)).1

section
variable {n : Nat} {s : List Line} (h : Fine n s)
include h

/-- a place is the first of its k nearest -/
theorem self_first {k v : Nat} (hv : v < n) (hk : 1 ≤ k) : v ∈ first n (table n s) k v := by
  obtain ⟨h1, h2⟩ := byDist_spec n (table n s) v
  have hm : v ∈ byDist n (table n s) v := byDist_mem.2 ⟨hv, by rw [dist_self h hv]; rfl⟩
  unfold first
  cases e : byDist n (table n s) v with
  | nil => rw [e] at hm; cases hm
  | cons x l =>
    rw [e] at hm h2
    obtain ⟨hx, ex⟩ := byDist_mem.1 (show x ∈ byDist n (table n s) v by rw [e]; exact List.mem_cons_self ..)
    have : x = v := by
      rcases List.mem_cons.1 hm with e | hm
      · exact e.symm
      · have hlex := (List.pairwise_cons.1 h2).1 v hm
        have e0 : dOf (table n s) v v = 0 := by unfold dOf; rw [dist_self h hv]; rfl
        unfold Lex at hlex
        rw [e0] at hlex
        obtain ⟨c, ec⟩ := Option.isSome_iff_exists.1 ex
        have e1 : dOf (table n s) v x = c := by unfold dOf; rw [ec]; rfl
        have : c = 0 := by omega
        rw [this] at ec
        exact (dist_zero h hv hx ec).symm
    subst this
    obtain ⟨k, rfl⟩ : ∃ j, k = j + 1 := ⟨k - 1, by omega⟩
    rw [List.take_succ_cons]; exact List.mem_cons_self ..
end

/-! ## bits -/
theorem in_testBit (s v : Nat) : in_ s v = s.testBit v := by
  unfold in_; rw [Nat.testBit_eq_decide_div_mod_eq, Bool.eq_iff_iff]; simp

theorem or_add_bit : ∀ (w s : Nat), s.testBit w = false → s ||| 2 ^ w = s + 2 ^ w
  | 0, s, h => by
    have e : s % 2 = 0 := by
      rw [Nat.testBit_zero] at h; simp at h; omega
    have h1 : (s ||| 1) / 2 = s / 2 := by rw [Nat.or_div_two]; simp
    have h2 : (s ||| 1) % 2 = 1 := by
      have := Nat.or_mod_two_pow (a := s) (b := 1) (n := 1)
      simp only [Nat.pow_one] at this
      rw [this, e]; rfl
    show s ||| 1 = s + 1
    omega
  | w + 1, s, h => by
    have h0 : (s / 2).testBit w = false := by rw [← Nat.testBit_succ]; exact h
    have ih := or_add_bit w (s / 2) h0
    have e1 : 2 ^ (w + 1) = 2 * 2 ^ w := by rw [Nat.pow_succ, Nat.mul_comm]
    have h1 : (s ||| 2 ^ (w + 1)) / 2 = s / 2 + 2 ^ w := by
      rw [Nat.or_div_two, ← ih, e1, Nat.mul_div_cancel_left _ (by omega)]
    have h2 : (s ||| 2 ^ (w + 1)) % 2 = s % 2 := by
      have := Nat.or_mod_two_pow (a := s) (b := 2 ^ (w + 1)) (n := 1)
      simp only [Nat.pow_one] at this
      rw [this, e1, Nat.mul_mod_right]; simp
    omega

theorem or_add (s w : Nat) (h : in_ s w = false) : s ||| 2 ^ w = s + 2 ^ w := by
  rw [in_testBit] at h
  exact or_add_bit w s h

theorem in_or (s w x : Nat) : in_ (s ||| 2 ^ w) x = (in_ s x || decide (w = x)) := by
  rw [in_testBit, in_testBit, Nat.testBit_or, Nat.testBit_two_pow]

theorem or_lt {n s w : Nat} (h : s < 2 ^ n) (hw : w < n) : s ||| 2 ^ w < 2 ^ n := Nat.or_lt_two_pow h (Nat.pow_lt_pow_right (by omega) hw)

/-! ## greed -/
/-- who has none chosen among the k nearest -/
def left (n : Nat) (t : Table) (k s : Nat) : List Nat := (List.range n).filter fun v => !(first n t k v).any (in_ s)
/-- in how many of these rows a place stands -/
def cnt (rows : List (List Nat)) (w : Nat) : Nat := (rows.filter fun r => r.contains w).length
/-- the first place that stands in the most rows -/
def mostRow (n : Nat) (rows : List (List Nat)) : Option Nat := (List.range n).find? fun w => cnt rows w == ((List.range n).map (cnt rows)).foldl max 0

theorem cnt_left (n t k) (l : List Nat) (w : Nat) : cnt (l.map (first n t k)) w = (l.filter fun v => (first n t k v).contains w).length := by
  unfold cnt
  rw [List.filter_map, List.length_map]; rfl

theorem greedy_step (n k f s : Nat) (tb : Table) (h : (left n tb k s) ≠ []) {w : Nat} (hw : mostRow n ((left n tb k s).map (first n tb k)) = some w) :
    greedy n tb k (f + 1) s = greedy n tb k f (s + 2 ^ w) := by
  have e : (fun w => ((left n tb k s).filter fun v => (first n tb k v).contains w).length) = cnt ((left n tb k s).map (first n tb k)) := by
    funext w; exact (cnt_left n tb k _ w).symm
  show (if (left n tb k s).isEmpty then s else
    match (List.range n).find? (fun w => (fun w => ((left n tb k s).filter fun v => (first n tb k v).contains w).length) w == ((List.range n).map (fun w => ((left n tb k s).filter fun v => (first n tb k v).contains w).length)).foldl max 0) with
    | none => s
    | some w => greedy n tb k f (s + 2 ^ w)) = _
  rw [if_neg (by simpa using h), e]
  unfold mostRow at hw
  rw [hw]

theorem greedy_end (n k f s : Nat) (tb : Table) (h : (left n tb k s) = []) : greedy n tb k f s = s := by
  cases f with
  | zero => rfl
  | succ f =>
    show (if (left n tb k s).isEmpty then s else _) = _
    rw [if_pos (by simp [h])]

theorem foldl_max_ge (l : List Nat) : ∀ (a : Nat), a ≤ l.foldl max a ∧ ∀ x ∈ l, x ≤ l.foldl max a := by
  induction l with
  | nil => intro a; simp
  | cons y l ih =>
    intro a
    rw [List.foldl_cons]
    obtain ⟨h1, h2⟩ := ih (max a y)
    refine ⟨by omega, fun x hx => ?_⟩
    rcases List.mem_cons.1 hx with rfl | hx
    · omega
    · exact h2 x hx

theorem foldl_max_mem (l : List Nat) : ∀ (a : Nat), l.foldl max a = a ∨ l.foldl max a ∈ l := by
  induction l with
  | nil => intro a; simp
  | cons y l ih =>
    intro a
    rw [List.foldl_cons]
    rcases ih (max a y) with h | h
    · rcases Nat.le_total a y with h' | h'
      · rw [h, Nat.max_eq_right h']; exact .inr (List.mem_cons_self ..)
      · rw [h, Nat.max_eq_left h']; exact .inl rfl
    · exact .inr (List.mem_cons_of_mem _ h)

section
variable {n : Nat} {s : List Line} (h : Fine n s)
include h

theorem most_some {k ch : Nat} (hk : 1 ≤ k) (hl : left n (table n s) k ch ≠ []) :
    ∃ w, mostRow n ((left n (table n s) k ch).map (first n (table n s) k)) = some w ∧ w < n ∧ in_ ch w = false ∧
      ∃ v ∈ left n (table n s) k ch, w ∈ first n (table n s) k v := by
  obtain ⟨v, hv⟩ := List.exists_mem_of_ne_nil _ hl
  have hvn : v < n := List.mem_range.1 (List.mem_filter.1 hv).1
  have hc : 1 ≤ cnt ((left n (table n s) k ch).map (first n (table n s) k)) v := by
    unfold cnt
    apply List.length_pos_of_mem (a := first n (table n s) k v)
    rw [List.mem_filter]
    exact ⟨List.mem_map.2 ⟨v, hv, rfl⟩, by rw [List.contains_iff_mem]; exact self_first h hvn hk⟩
  generalize hR : (left n (table n s) k ch).map (first n (table n s) k) = R at hc
  have hM : 1 ≤ ((List.range n).map (cnt R)).foldl max 0 := by
    have := (foldl_max_ge ((List.range n).map (cnt R)) 0).2 (cnt R v) (List.mem_map.2 ⟨v, List.mem_range.2 hvn, rfl⟩)
    omega
  have hin : ((List.range n).map (cnt R)).foldl max 0 ∈ (List.range n).map (cnt R) := by
    rcases foldl_max_mem ((List.range n).map (cnt R)) 0 with e | e
    · omega
    · exact e
  obtain ⟨w0, hw0, ew0⟩ := List.mem_map.1 hin
  cases e : mostRow n R with
  | none =>
    have := List.find?_eq_none.1 e w0 hw0
    rw [ew0] at this; simp at this
  | some w =>
    have hwm := List.mem_of_find?_eq_some e
    have hwt := List.find?_some e
    have hwt' : cnt R w = ((List.range n).map (cnt R)).foldl max 0 := by simpa using hwt
    have hpos : 1 ≤ cnt R w := by omega
    obtain ⟨r, hr⟩ := List.exists_mem_of_length_pos (show 0 < (R.filter fun r => r.contains w).length from hpos)
    rw [List.mem_filter] at hr
    rw [← hR] at hr
    obtain ⟨hr1, hr2⟩ := hr
    obtain ⟨x, hx, rfl⟩ := List.mem_map.1 hr1
    have hwx : w ∈ first n (table n s) k x := List.contains_iff_mem.1 hr2
    refine ⟨w, rfl, List.mem_range.1 hwm, ?_, x, hx, hwx⟩
    have hx2 := (List.mem_filter.1 hx).2
    cases hb : in_ ch w with
    | false => rfl
    | true =>
      have : (first n (table n s) k x).any (in_ ch) = true := List.any_eq_true.2 ⟨w, hwx, hb⟩
      rw [this] at hx2; cases hx2

omit h in
theorem left_next (k ch w : Nat) (tb : Table) : left n tb k (ch ||| 2 ^ w) = (left n tb k ch).filter fun v => !(first n tb k v).contains w := by
  unfold left
  rw [List.filter_filter]
  congr 1
  funext v
  rw [Bool.eq_iff_iff]
  simp only [Bool.and_eq_true, Bool.not_eq_true', List.any_eq_false, in_or, Bool.or_eq_true, decide_eq_true_eq, not_or]
  constructor
  · intro hh
    refine ⟨?_, fun x hx => (hh x hx).1⟩
    cases hc : (first n tb k v).contains w with
    | false => rfl
    | true => exact absurd rfl (hh w (List.contains_iff_mem.1 hc)).2
  · rintro ⟨h1, h2⟩ x hx
    refine ⟨h2 x hx, fun e => ?_⟩
    subst e
    rw [List.contains_iff_mem.2 hx] at h1; cases h1

omit h in
theorem left_less {k ch w : Nat} {tb : Table} {v : Nat} (hv : v ∈ left n tb k ch) (hw : w ∈ first n tb k v) : (left n tb k (ch ||| 2 ^ w)).length < (left n tb k ch).length := by
  rw [left_next]
  have : ((left n tb k ch).filter fun v => !(first n tb k v).contains w) ≠ left n tb k ch := by
    intro e
    rw [← e] at hv
    have := (List.mem_filter.1 hv).2
    rw [List.contains_iff_mem.2 hw] at this; cases this
  have h1 := List.length_filter_le (fun v => !(first n tb k v).contains w) (left n tb k ch)
  have h2 : ((left n tb k ch).filter fun v => !(first n tb k v).contains w).length ≠ (left n tb k ch).length := by
    intro e
    exact this (List.filter_eq_self.2 (List.length_filter_eq_length_iff.1 e))
  omega

/-- one turn of greed: what the code does to its rows, and what the specification has left to do -/
theorem greed_turn {k ch f : Nat} (hk : 1 ≤ k) (hl : left n (table n s) k ch ≠ []) (hf : (left n (table n s) k ch).length ≤ f) :
    ∃ w, mostRow n ((left n (table n s) k ch).map (first n (table n s) k)) = some w ∧ w < n ∧
      ((left n (table n s) k ch).map (first n (table n s) k)).filter (fun r => !r.contains w) = (left n (table n s) k (ch ||| 2 ^ w)).map (first n (table n s) k) ∧
      (left n (table n s) k (ch ||| 2 ^ w)).length ≤ f - 1 ∧
      greedy n (table n s) k f ch = greedy n (table n s) k (f - 1) (ch ||| 2 ^ w) := by
  obtain ⟨w, e, hw, hb, v, hv, hwv⟩ := most_some h hk hl
  have hpos : 0 < (left n (table n s) k ch).length := List.length_pos_iff.2 hl
  obtain ⟨f, rfl⟩ : ∃ j, f = j + 1 := ⟨f - 1, by omega⟩
  refine ⟨w, e, hw, ?_, ?_, ?_⟩
  · rw [left_next, List.filter_map]; rfl
  · have := left_less (n := n) (tb := table n s) hv hwv; omega
  · rw [greedy_step n k f ch (table n s) hl e, or_add ch w hb]; rfl

omit h in
theorem left_zero (k : Nat) (tb : Table) : left n tb k 0 = List.range n := by
  unfold left
  rw [List.filter_eq_self]
  intro v _
  have : (first n tb k v).any (in_ 0) = false := by
    rw [List.any_eq_false]
    intro x _
    rw [in_testBit]; simp
  rw [this]; rfl
end
end Nk
set_option Elab.async false
/-! Told by chosen ones, and how many are near: the specification's words against is_near and nearest. -/
namespace Nk
open Kv402 (Table at_ Net Line table less plus)
/-- by way of the first one's nearest chosen one -/
def viaC (t : Table) (near : List (Option Nat)) (u v : Nat) : Option Nat := match near.getD u none with
  | none => none
  | some c => plus (at_ t u c) (at_ t c v)
theorem less_comm (x y : Option Nat) : less x y = less y x := by
  cases x <;> cases y <;> try rfl
  rename_i a b
  show some (min a b) = some (min b a)
  rw [Nat.min_comm]
theorem plus_comm (x y : Option Nat) : plus x y = plus y x := by
  cases x <;> cases y <;> try rfl
  rename_i a b
  show some (a + b) = some (b + a)
  rw [Nat.add_comm]
def specVia (n : Nat) (t : Table) (ch u v : Nat) : Option Nat := match Kv404.nearest n t ch u with
  | none => none
  | some q => plus (some q.2) (at_ t q.1 v)
theorem told_spec (n : Nat) (t : Table) (ch u v : Nat) : Kv404.told n t ch u v = if (Kv404.near n t ch u).contains v then at_ t u v else if (Kv404.near n t ch v).contains u then at_ t v u else less (specVia n t ch u v) (specVia n t ch v u) := rfl
section
variable {n : Nat} {s : List Line} (h : Fine n s) {ch : Nat}
include h
omit h in
theorem via_eq {u v : Nat} (hu : u < n) : specVia n (table n s) ch u v = viaC (table n s) (nearestAll (table n s) ch n) u v := by
  obtain ⟨h1, h2⟩ := nearest_eq n (table n s) (table_len n s) ch u
  unfold viaC nearestAll specVia
  rw [getD_map_range n _ _ _ hu, ← h1]
  cases hn : Kv404.nearest n (table n s) ch u with
  | none => rfl
  | some q =>
    show plus (some q.2) (at_ (table n s) q.1 v) = plus (at_ (table n s) u q.1) (at_ (table n s) q.1 v)
    rw [(h2 q hn).1]
theorem toldC_eq {u v : Nat} (hu : u < n) (hv : v < n) : Kv404.told n (table n s) ch u v = if (isNear (table n s) (nearestAll (table n s) ch n) u v || isNear (table n s) (nearestAll (table n s) ch n) v u) = true then at_ (table n s) u v
    else less (viaC (table n s) (nearestAll (table n s) ch n) u v) (viaC (table n s) (nearestAll (table n s) ch n) v u) := by
  rw [told_spec, isNear_eq n _ (table_len n s) ch hu hv, isNear_eq n _ (table_len n s) ch hv hu]
  rw [via_eq hu, via_eq hv, dist_symm h hv hu]
  cases isNear (table n s) (nearestAll (table n s) ch n) u v <;> cases isNear (table n s) (nearestAll (table n s) ch n) v u <;> rfl
omit h in
theorem near_filter (t : Table) (ht : t.length = n) (v : Nat) (hv : v < n) : Kv404.near n t ch v = (List.range n).filter fun w => isNear t (nearestAll t ch n) v w := by
  have e : Kv404.near n t ch v = (List.range n).filter fun w => (Kv404.near n t ch v).contains w := by
    conv => lhs; unfold Kv404.near
    refine List.filter_congr fun w hw => ?_
    rw [Bool.eq_iff_iff, List.contains_iff_mem]
    unfold Kv404.near
    rw [List.mem_filter]
    exact ⟨fun z => ⟨hw, z⟩, fun z => z.2⟩
  rw [e]
  exact List.filter_congr fun w hw => isNear_eq n t ht ch hv (List.mem_range.1 hw)
omit h in
/-- how many all have near, and as many as are chosen for each place -/
theorem allC_eq (t : Table) (ht : t.length = n) : Kv404.all n t ch = ((List.range n).map fun v => ((List.range n).filter fun w => isNear t (nearestAll t ch n) v w).length).sum + n * (Kv404.list_ n ch).length := by
  have key : ∀ (l : List Nat), (∀ v ∈ l, v < n) → (l.map (Kv404.knows n t ch)).sum = (l.map fun v => ((List.range n).filter fun w => isNear t (nearestAll t ch n) v w).length).sum + l.length * (Kv404.list_ n ch).length := by
    intro l
    induction l with
    | nil => intro _; simp
    | cons v l ih =>
      intro hl
      rw [List.map_cons, List.map_cons, List.sum_cons, List.sum_cons, ih fun x hx => hl x (List.mem_cons_of_mem _ hx), List.length_cons, Nat.succ_mul]
      unfold Kv404.knows
      rw [near_filter t ht v (hl v List.mem_cons_self)]
      omega
  have := key (List.range n) fun v hv => List.mem_range.1 hv
  rw [List.length_range] at this
  exact this
end
end Nk
/-! What holds of the specification's states, call by call. -/
namespace Nk
open Kv402 Kv406

/-- lines in order -/
def Before (l m : Line) : Prop := l.w < m.w ∨ (l.w = m.w ∧ (l.a < m.a ∨ (l.a = m.a ∧ l.b < m.b)))
theorem before_iff {l m : Line} : before l m = true ↔ Before l m := by
  unfold before Before; simp
/-- lines as the land has them -/
structure LinesOk (n : Nat) (s : List Line) : Prop where
  fine : Fine n s
  sorted : s.Pairwise Before
  most : ∀ l ∈ s, l.w ≤ 99
  few : s.length ≤ 14

theorem put_perm (l : Line) : ∀ r, (put l r).Perm (l :: r)
  | [] => .refl _
  | m :: r => by
    unfold put
    split
    · exact .refl _
    · exact ((put_perm l r).cons m).trans (.swap l m r)
theorem put_sorted {l : Line} : ∀ {r : List Line}, r.Pairwise Before → (∀ m ∈ r, m.a ≠ l.a ∨ m.b ≠ l.b) → (put l r).Pairwise Before
  | [], _, _ => by simp [put]
  | m :: r, hp, hne => by
    have hp' := List.pairwise_cons.1 hp
    unfold put
    split
    · rename_i hb
      have hb := before_iff.1 hb
      refine List.pairwise_cons.2 ⟨fun x hx => ?_, hp⟩
      rcases List.mem_cons.1 hx with rfl | hx
      · exact hb
      · have := hp'.1 x hx
        unfold Before at *; omega
    · rename_i hb
      have hb : ¬ Before l m := fun h => hb (before_iff.2 h)
      refine List.pairwise_cons.2 ⟨fun x hx => ?_, put_sorted hp'.2 (fun z hz => hne z (List.mem_cons_of_mem _ hz))⟩
      rcases List.mem_cons.1 ((put_perm l r).mem_iff.1 hx) with rfl | hx
      · have := hne m (List.mem_cons_self ..)
        unfold Before at *; omega
      · exact hp'.1 x hx
/-- any arrangement in order is this one -/
theorem put_unique {l : Line} {r s : List Line} (hr : r.Pairwise Before) (hne : ∀ m ∈ r, m.a ≠ l.a ∨ m.b ≠ l.b) (hp : s.Perm (l :: r)) (hs : s.Pairwise fun x y => ¬ Before y x) : s = put l r := by
  refine List.Perm.eq_of_pairwise (le := fun x y => ¬ Before y x) ?_ hs ?_ (hp.trans (put_perm l r).symm)
  · intro a b _ _ hab hba
    have h : a.w = b.w ∧ a.a = b.a ∧ a.b = b.b := by unfold Before at hab hba; omega
    cases a; cases b; simp at h ⊢; exact ⟨h.2.1, h.2.2, h.1⟩
  · exact (put_sorted hr hne).imp fun h => by unfold Before at *; omega
theorem Fine.perm {n s t} (h : Fine n s) (p : t.Perm s) : Fine n t := h.sub fun l hl => p.mem_iff.1 hl
theorem Fine.cons {n s} {l : Line} (h : Fine n s) (h1 : l.a < l.b) (h2 : l.b < n) (h3 : 1 ≤ l.w) (hne : ∀ m ∈ s, m.a ≠ l.a ∨ m.b ≠ l.b) : Fine n (l :: s) := by
  refine ⟨?_, ?_, ?_, ?_⟩
  · intro m hm; rcases List.mem_cons.1 hm with rfl | hm; exact h1; exact h.lt m hm
  · intro m hm; rcases List.mem_cons.1 hm with rfl | hm; exact h2; exact h.ltn m hm
  · intro m hm; rcases List.mem_cons.1 hm with rfl | hm; exact h3; exact h.pos m hm
  · intro m hm k hk e1 e2
    rcases List.mem_cons.1 hm with e | hm' <;> rcases List.mem_cons.1 hk with e' | hk'
    · rw [e, e']
    · have := hne k hk'; subst e; omega
    · have := hne m hm'; subst e'; omega
    · exact h.uniq m hm' k hk' e1 e2
theorem LinesOk.sub {n s t} (h : LinesOk n s) (ht : t.Sublist s) : LinesOk n t :=
  ⟨h.fine.sub fun _ hl => ht.subset hl, h.sorted.sublist ht, fun l hl => h.most l (ht.subset hl), Nat.le_trans ht.length_le h.few⟩
/-- those that don't join x and y -/
def others (s : List Line) (x y : Nat) : List Line := s.filter fun m => !ends m x y
theorem others_ne {s : List Line} {x y : Nat} : ∀ m ∈ others s x y, m.a ≠ min x y ∨ m.b ≠ max x y := by
  intro m hm
  have := (List.mem_filter.1 hm).2
  have h : ends m x y = false := by simpa using this
  have h2 : ¬ (ends m x y = true) := by rw [h]; exact Bool.false_ne_true
  rw [ends_iff] at h2
  omega
theorem LinesOk.put {n s} (h : LinesOk n s) {x y w : Nat} (hx : x < n) (hy : y < n) (hne : x ≠ y) (hw : 1 ≤ w) (hw2 : w ≤ 99) (few : (others s x y).length < 14) :
    LinesOk n (Kv402.put ⟨min x y, max x y, w⟩ (others s x y)) := by
  have ho : LinesOk n (others s x y) := h.sub List.filter_sublist
  have hn := others_ne (s := s) (x := x) (y := y)
  refine ⟨(ho.fine.cons (l := ⟨min x y, max x y, w⟩) (by show min x y < max x y; omega) (by show max x y < n; omega) hw hn).perm (put_perm _ _), put_sorted ho.sorted hn, ?_, ?_⟩
  · intro l hl
    rcases List.mem_cons.1 ((put_perm _ _).mem_iff.1 hl) with rfl | hl
    · exact hw2
    · exact ho.most l hl
  · rw [(put_perm _ _).length_eq, List.length_cons]; omega
theorem LinesOk.nil (n : Nat) : LinesOk n [] := ⟨⟨by simp, by simp, by simp, by simp⟩, .nil, by simp, by simp⟩
theorem kept_sublist {n t : Nat} {s : List Line} : ((Net.mk n s).kept t).Sublist s := by
  have key : ∀ (r q : List Line) (p : List Line), q.Sublist p → (r.foldl (fun s l => if within t (at_ (table n s) l.a l.b) (some l.w) then s else s ++ [l]) q).Sublist (p ++ r) := by
    intro r
    induction r with
    | nil => intro q p h; simpa using h
    | cons m r ih =>
      intro q p h
      rw [List.foldl_cons]
      have e : p ++ m :: r = (p ++ [m]) ++ r := by simp
      rw [e]
      split
      · exact ih q (p ++ [m]) (h.trans (List.sublist_append_left _ _))
      · exact ih (q ++ [m]) (p ++ [m]) (h.append (List.Sublist.refl _))
  have := key s [] [] (List.Sublist.refl _)
  simpa [Net.kept] using this

/-- an order of n places -/
def OrderOk (n : Nat) (o : List Nat) : Prop := o.length = n ∧ ∀ v, v < n → v ∈ o
/-- what holds of a state -/
structure NowOk (a : Now) : Prop where
  n1 : 1 ≤ a.g.n
  n8 : a.g.n ≤ 8
  g : LinesOk a.g.n a.g.lines
  then_n : a.then_.n = a.g.n
  th : LinesOk a.g.n a.then_.lines
  base_n : a.base.n = a.g.n
  base : LinesOk a.g.n a.base.lines
  t1 : 1 ≤ a.t
  t9 : a.t ≤ 9
  o : OrderOk a.g.n a.o
  s : a.s < 2 ^ a.g.n

/-- n numbers that hold each of n places hold no other -/
theorem fill_perm : ∀ (k l : List Nat), k.Nodup → (∀ x ∈ k, x ∈ l) → l.length = k.length → l.Perm k
  | [], l, _, _, e => by
    have : l = [] := List.length_eq_zero_iff.1 e
    rw [this]
  | x :: k, l, nd, h, e => by
    have nd' := List.nodup_cons.1 nd
    have hx := h x (List.mem_cons_self ..)
    refine (List.perm_cons_erase hx).trans ((fill_perm k (l.erase x) nd'.2 (fun y hy => ?_) ?_).cons x)
    · have : y ≠ x := fun z => nd'.1 (z ▸ hy)
      exact (List.mem_erase_of_ne this).2 (h y (List.mem_cons_of_mem _ hy))
    · rw [List.length_erase_of_mem hx, e]; rfl
theorem pigeon (n : Nat) (l : List Nat) (hl : l.length = n) (hm : ∀ v, v < n → v ∈ l) : l.Perm (List.range n) :=
  fill_perm (List.range n) l List.nodup_range (fun v hv => hm v (List.mem_range.1 hv)) (by simp [hl])
theorem OrderOk.lt {n o} (h : OrderOk n o) : ∀ k ∈ o, k < n := fun _ hk => List.mem_range.1 ((pigeon n o h.1 h.2).mem_iff.1 hk)

theorem NowOk.made {a : Now} (h : NowOk a) : NowOk a.made :=
  ⟨h.n1, h.n8, h.g, rfl, h.g, rfl, h.g.sub kept_sublist, h.t1, h.t9, h.o, h.s⟩
theorem begun_ok {n : Nat} (h1 : 1 ≤ n) (h8 : n ≤ 8) : NowOk (begun n).now :=
  ⟨h1, h8, .nil n, rfl, .nil n, rfl, .nil n, Nat.le_refl 1, (by show 1 ≤ 9; omega), ⟨by show (List.range n).length = n; simp, fun v hv => List.mem_range.2 hv⟩, Nat.two_pow_pos n⟩
theorem okOrder_iff {n : Nat} {l : List Nat} : Kv403.okOrder n l = true ↔ OrderOk n l := by
  unfold Kv403.okOrder OrderOk
  simp
theorem NowOk.sent {a : Now} (h : NowOk a) (u v : Nat) : NowOk (a.sent_ u v) := by
  unfold Now.sent_
  split
  · exact ⟨h.n1, h.n8, h.g, h.then_n, h.th, h.base_n, h.base, h.t1, h.t9, h.o, h.s⟩
  · exact ⟨h.n1, h.n8, h.g, h.then_n, h.th, h.base_n, h.base, h.t1, h.t9, h.o, h.s⟩
end Nk
/-! The calls as one list of numbers: how the list is read, call by call. -/
namespace Nk
open Kv406

/-- a call as the list has it: its number, its numbers (order: its row), and what it is -/
inductive Req : Nat → List Nat → Kv406.Call → Prop
  | begin_ (n : Nat) : n ≤ 4294967295 → Req 0 [n] (.begin_ n)
  | line (a b w : Nat) : a ≤ 4294967295 → b ≤ 4294967295 → w ≤ 4294967295 → Req 1 [a, b, w] (.line a b w)
  | cut (i : Nat) : i ≤ 4294967295 → Req 2 [i] (.cut i)
  | times (t : Nat) : t ≤ 4294967295 → Req 3 [t] (.times t)
  | order (l : List Nat) : l.length ≤ 12 → (∀ x ∈ l, x ≤ 65535) → Req 4 l (.order l)
  | choose (s : Nat) : s ≤ 4294967295 → Req 5 [s] (.choose s)
  | greedy (k : Nat) : k ≤ 4294967295 → Req 6 [k] (.greedy k)
  | make : Req 7 [] .make
  | send (u v : Nat) : u ≤ 4294967295 → v ≤ 4294967295 → Req 8 [u, v] (.send u v)
  | all : Req 9 [] .all
  | lines : Req 10 [] .lines
  | base : Req 11 [] .base
  | fresh : Req 12 [] .fresh
  | dist (u v : Nat) : u ≤ 4294967295 → v ≤ 4294967295 → Req 13 [u, v] (.dist u v)
  | kept (u v : Nat) : u ≤ 4294967295 → v ≤ 4294967295 → Req 14 [u, v] (.kept u v)
  | marks (v : Nat) : v ≤ 4294967295 → Req 15 [v] (.marks v)
  | bymarks (u v : Nat) : u ≤ 4294967295 → v ≤ 4294967295 → Req 16 [u, v] (.bymarks u v)
  | chosen : Req 17 [] .chosen
  | bychosen (u v : Nat) : u ≤ 4294967295 → v ≤ 4294967295 → Req 18 [u, v] (.bychosen u v)
  | route (u v : Nat) : u ≤ 4294967295 → v ≤ 4294967295 → Req 19 [u, v] (.route u v)
  | comes (u v : Nat) : u ≤ 4294967295 → v ≤ 4294967295 → Req 20 [u, v] (.comes u v)
  | length (u v : Nat) : u ≤ 4294967295 → v ≤ 4294967295 → Req 21 [u, v] (.length u v)
  | sizes : Req 22 [] .sizes
  | compare (u v : Nat) : u ≤ 4294967295 → v ≤ 4294967295 → Req 23 [u, v] (.compare u v)
  | count : Req 24 [] .count
  | back : Req 25 [] .back
  | state : Req 26 [] .state

def toInts (l : List Nat) : List Int := l.map fun n => ((n : Nat) : Int)
/-- how a call stands in the list -/
def spell (p : Nat) (nums : List Nat) : List Int := if p = 4 then 4 :: ((nums.length : Nat) : Int) :: toInts nums else ((p : Nat) : Int) :: toInts nums
def rowsOf (p : Nat) (nums : List Nat) : List (List Int) := if p = 4 then [[4], toInts nums] else [((p : Nat) : Int) :: toInts nums]

theorem nat_of {z : Int} (h : PyInside.within 0 4294967295 z = true) : ∃ n : Nat, z = (n : Nat) ∧ n ≤ 4294967295 := by
  unfold PyInside.within at h
  simp at h
  exact ⟨z.toNat, by omega, by omega⟩
theorem nat16_of {z : Int} (h : PyInside.within 0 65535 z = true) : ∃ n : Nat, z = (n : Nat) ∧ n ≤ 65535 := by
  unfold PyInside.within at h
  simp at h
  exact ⟨z.toNat, by omega, by omega⟩
theorem nats_of : ∀ {l : List Int}, l.all (PyInside.within 0 65535) = true → ∃ r : List Nat, l = toInts r ∧ ∀ x ∈ r, x ≤ 65535
  | [], _ => ⟨[], rfl, by simp⟩
  | z :: l, h => by
    rw [List.all_cons, Bool.and_eq_true] at h
    obtain ⟨n, rfl, hn⟩ := nat16_of h.1
    obtain ⟨r, rfl, hr⟩ := nats_of h.2
    exact ⟨n :: r, rfl, fun x hx => by rcases List.mem_cons.1 hx with rfl | hx; exact hn; exact hr x hx⟩

theorem callOf_req {p : Nat} {nums : List Nat} {c : Kv406.Call} (h : Req p nums c) : Kv406Neutral.callOf (rowsOf p nums) = some c := by
  cases h with
  | order l h1 h2 =>
    show some (Kv406.Call.order (Kv406Neutral.nats (toInts nums))) = _
    congr 2
    unfold Kv406Neutral.nats toInts
    rw [List.map_map]
    exact List.map_id'' (fun x => Int.toNat_natCast x) nums
  | _ => rfl
theorem whole_id (c : List (List Int)) : PyKv406.whole c = c := by
  unfold PyKv406.whole
  split <;> rfl

theorem take0 {k : Nat} {r : List Int} (h : ¬ r.length < k) (e : k = 0) : r.take k = [] ∧ r.drop k = r := by subst e; simp
theorem take1 {r : List Int} (h : ¬ r.length < 1) : ∃ x t, r = x :: t := by
  cases r with
  | nil => exact absurd (by simp) h
  | cons x t => exact ⟨x, t, rfl⟩
theorem take2 {r : List Int} (h : ¬ r.length < 2) : ∃ x y t, r = x :: y :: t := by
  rcases r with _ | ⟨x, _ | ⟨y, t⟩⟩
  · exact absurd (by simp) h
  · exact absurd (by simp) h
  · exact ⟨x, y, t, rfl⟩
theorem take3 {r : List Int} (h : ¬ r.length < 3) : ∃ x y z t, r = x :: y :: z :: t := by
  rcases r with _ | ⟨x, _ | ⟨y, _ | ⟨z, t⟩⟩⟩
  · exact absurd (by simp) h
  · exact absurd (by simp) h
  · exact absurd (by simp) h
  · exact ⟨x, y, z, t, rfl⟩

/-- a call of k whole numbers and no row -/
theorem call_plain {p : Int} {r : List Int} {k : Nat} {c : List (List Int)} {t : List Int} (hs : PyKv406.shape p = some (k, 0)) (h : PyFlat.call PyKv406.shape (p :: r) = some (c, t)) :
    ¬ r.length < k ∧ c = [p :: r.take k] ∧ t = r.drop k := by
  unfold PyFlat.call at h
  dsimp only at h
  rw [hs] at h
  dsimp only at h
  split at h
  · cases h
  · rename_i hl
    have e : PyFlat.rows 0 (r.drop k) = some ([], r.drop k) := rfl
    rw [e] at h
    cases h
    exact ⟨hl, rfl, rfl⟩
theorem call_row {r : List Int} {c : List (List Int)} {t : List Int} (h : PyFlat.call PyKv406.shape (4 :: r) = some (c, t)) :
    ∃ m s, r = m :: s ∧ 0 ≤ m ∧ m.toNat ≤ s.length ∧ c = [[4], s.take m.toNat] ∧ t = s.drop m.toNat := by
  unfold PyFlat.call at h
  have hs : PyKv406.shape 4 = some (0, 1) := rfl
  dsimp only at h
  rw [hs] at h
  dsimp only at h
  rw [if_neg (Nat.not_lt_zero _)] at h
  rw [List.take_zero, List.drop_zero] at h
  unfold PyFlat.rows at h
  cases hr : PyFlat.row r with
  | none => rw [hr] at h; cases h
  | some q =>
    rw [hr] at h
    obtain ⟨x, s'⟩ := q
    have e : PyFlat.rows 0 s' = some ([], s') := rfl
    dsimp only at h
    rw [e] at h
    cases h
    unfold PyFlat.row at hr
    cases r with
    | nil => cases hr
    | cons m s =>
      dsimp only at hr
      split at hr
      · rename_i hc
        cases hr
        exact ⟨m, s, rfl, hc.1, hc.2, rfl, rfl⟩
      · cases hr

theorem each1 {b : Int × Int} {x : Int} (h : PyInside.each [b] [x] = true) : PyInside.within b.1 b.2 x = true := by
  obtain ⟨lo, hi⟩ := b
  unfold PyInside.each at h
  simp only [Bool.and_eq_true] at h
  exact h.1
theorem each2 {b c : Int × Int} {x y : Int} (h : PyInside.each [b, c] [x, y] = true) : PyInside.within b.1 b.2 x = true ∧ PyInside.within c.1 c.2 y = true := by
  obtain ⟨lo, hi⟩ := b
  unfold PyInside.each at h
  simp only [Bool.and_eq_true] at h
  exact ⟨h.1, each1 h.2⟩
theorem each3 {b c d : Int × Int} {x y z : Int} (h : PyInside.each [b, c, d] [x, y, z] = true) : PyInside.within b.1 b.2 x = true ∧ PyInside.within c.1 c.2 y = true ∧ PyInside.within d.1 d.2 z = true := by
  obtain ⟨lo, hi⟩ := b
  unfold PyInside.each at h
  simp only [Bool.and_eq_true] at h
  exact ⟨h.1, each2 h.2⟩

theorem req0 {p : Nat} {r : List Int} {c : List (List Int)} {t : List Int} {z : Kv406.Call} (hp : p ≠ 4) (hs : PyKv406.shape p = some (0, 0)) (h : PyFlat.call PyKv406.shape ((p : Int) :: r) = some (c, t)) (hz : Req p [] z) :
    ∃ p' nums z', Req p' nums z' ∧ ((p : Nat) : Int) :: r = spell p' nums ++ t ∧ c = rowsOf p' nums := by
  obtain ⟨_, rfl, rfl⟩ := call_plain hs h
  exact ⟨p, [], z, hz, by simp [spell, hp, toInts], by simp [rowsOf, hp, toInts]⟩
theorem req1 {p : Nat} {r : List Int} {c : List (List Int)} {t : List Int} {z : Nat → Kv406.Call} (hp : p ≠ 4) (hs : PyKv406.shape p = some (1, 0)) (hb : PyKv406.bound p = ([(0, 4294967295)], [])) (h : PyFlat.call PyKv406.shape ((p : Int) :: r) = some (c, t))
    (hin : PyInside.call PyKv406.bound c = true) (hz : ∀ n, n ≤ 4294967295 → Req p [n] (z n)) :
    ∃ p' nums z', Req p' nums z' ∧ ((p : Nat) : Int) :: r = spell p' nums ++ t ∧ c = rowsOf p' nums := by
  obtain ⟨hl, rfl, rfl⟩ := call_plain hs h
  obtain ⟨x, t, rfl⟩ := take1 hl
  unfold PyInside.call at hin
  dsimp only at hin
  rw [hb] at hin
  simp only [Bool.and_eq_true] at hin
  obtain ⟨n, rfl, hn⟩ := nat_of (each1 hin.1)
  exact ⟨p, [n], z n, hz n hn, by simp [spell, hp, toInts], by simp [rowsOf, hp, toInts]⟩
theorem req2 {p : Nat} {r : List Int} {c : List (List Int)} {t : List Int} {z : Nat → Nat → Kv406.Call} (hp : p ≠ 4) (hs : PyKv406.shape p = some (2, 0)) (hb : PyKv406.bound p = ([(0, 4294967295), (0, 4294967295)], [])) (h : PyFlat.call PyKv406.shape ((p : Int) :: r) = some (c, t))
    (hin : PyInside.call PyKv406.bound c = true) (hz : ∀ n m, n ≤ 4294967295 → m ≤ 4294967295 → Req p [n, m] (z n m)) :
    ∃ p' nums z', Req p' nums z' ∧ ((p : Nat) : Int) :: r = spell p' nums ++ t ∧ c = rowsOf p' nums := by
  obtain ⟨hl, rfl, rfl⟩ := call_plain hs h
  obtain ⟨x, y, t, rfl⟩ := take2 hl
  unfold PyInside.call at hin
  dsimp only at hin
  rw [hb] at hin
  simp only [Bool.and_eq_true] at hin
  obtain ⟨h1, h2⟩ := each2 hin.1
  obtain ⟨n, rfl, hn⟩ := nat_of h1
  obtain ⟨m, rfl, hm⟩ := nat_of h2
  exact ⟨p, [n, m], z n m, hz n m hn hm, by simp [spell, hp, toInts], by simp [rowsOf, hp, toInts]⟩

/-- a call that the document lets be handed in -/
theorem call_req {p : Int} {r : List Int} {c : List (List Int)} {t : List Int} (h : PyFlat.call PyKv406.shape (p :: r) = some (c, t)) (hin : PyInside.call PyKv406.bound c = true) :
    ∃ p' nums z, Req p' nums z ∧ p :: r = spell p' nums ++ t ∧ c = rowsOf p' nums := by
  have hp : ∃ n : Nat, n ≤ 26 ∧ p = (n : Nat) := by
    by_cases hr : 0 ≤ p ∧ p ≤ 26
    · exact ⟨p.toNat, by omega, by omega⟩
    · exfalso
      have hs : PyKv406.shape p = none := by
        unfold PyKv406.shape
        repeat rw [if_neg (by omega)]
      unfold PyFlat.call at h
      dsimp only at h
      rw [hs] at h; cases h
  obtain ⟨n, hn, rfl⟩ := hp
  match n, hn with
  | 0, _ => exact req1 (by decide) rfl rfl h hin Req.begin_
  | 1, _ =>
    obtain ⟨hl, rfl, rfl⟩ := call_plain (k := 3) rfl h
    obtain ⟨x, y, z, t, rfl⟩ := take3 hl
    have hin' : (PyInside.each [(0, 4294967295), (0, 4294967295), (0, 4294967295)] [x, y, z] && true) = true := hin
    rw [Bool.and_true] at hin'
    obtain ⟨h1, h2, h3⟩ := each3 hin'
    obtain ⟨a, rfl, ha⟩ := nat_of h1
    obtain ⟨b, rfl, hb⟩ := nat_of h2
    obtain ⟨d, rfl, hd⟩ := nat_of h3
    exact ⟨1, [a, b, d], _, .line a b d ha hb hd, rfl, rfl⟩
  | 2, _ => exact req1 (by decide) rfl rfl h hin Req.cut
  | 3, _ => exact req1 (by decide) rfl rfl h hin Req.times
  | 4, _ =>
    obtain ⟨m, s, rfl, h0, hle, rfl, rfl⟩ := call_row h
    have hin' : (decide (0 ≤ (s.take m.toNat).length) && decide ((s.take m.toNat).length ≤ 12) && (s.take m.toNat).all (PyInside.within 0 65535) && true) = true := hin
    simp only [Bool.and_eq_true, decide_eq_true_eq] at hin'
    obtain ⟨⟨⟨_, h12⟩, hall⟩, _⟩ := hin'
    obtain ⟨row, erow, hrow⟩ := nats_of hall
    have el : row.length = m.toNat := by
      have := congrArg List.length erow
      unfold toInts at this
      rw [List.length_take, List.length_map] at this; omega
    refine ⟨4, row, _, .order row (by rw [el]; rw [List.length_take] at h12; omega) hrow, ?_, ?_⟩
    · show ((4 : Nat) : Int) :: m :: s = (4 :: ((row.length : Nat) : Int) :: toInts row) ++ s.drop m.toNat
      rw [← erow, el]
      have : ((m.toNat : Nat) : Int) = m := by omega
      rw [this, List.cons_append, List.cons_append, List.take_append_drop]; rfl
    · show [[4], s.take m.toNat] = [[4], toInts row]
      rw [erow]
  | 5, _ => exact req1 (by decide) rfl rfl h hin Req.choose
  | 6, _ => exact req1 (by decide) rfl rfl h hin Req.greedy
  | 7, _ => exact req0 (by decide) rfl h .make
  | 8, _ => exact req2 (by decide) rfl rfl h hin Req.send
  | 9, _ => exact req0 (by decide) rfl h .all
  | 10, _ => exact req0 (by decide) rfl h .lines
  | 11, _ => exact req0 (by decide) rfl h .base
  | 12, _ => exact req0 (by decide) rfl h .fresh
  | 13, _ => exact req2 (by decide) rfl rfl h hin Req.dist
  | 14, _ => exact req2 (by decide) rfl rfl h hin Req.kept
  | 15, _ => exact req1 (by decide) rfl rfl h hin Req.marks
  | 16, _ => exact req2 (by decide) rfl rfl h hin Req.bymarks
  | 17, _ => exact req0 (by decide) rfl h .chosen
  | 18, _ => exact req2 (by decide) rfl rfl h hin Req.bychosen
  | 19, _ => exact req2 (by decide) rfl rfl h hin Req.route
  | 20, _ => exact req2 (by decide) rfl rfl h hin Req.comes
  | 21, _ => exact req2 (by decide) rfl rfl h hin Req.length
  | 22, _ => exact req0 (by decide) rfl h .sizes
  | 23, _ => exact req2 (by decide) rfl rfl h hin Req.compare
  | 24, _ => exact req0 (by decide) rfl h .count
  | 25, _ => exact req0 (by decide) rfl h .back
  | 26, _ => exact req0 (by decide) rfl h .state
  | n + 27, hn => omega

/-- the list is such calls, one behind another -/
inductive Reads : List Int → List (List (List Int)) → Prop
  | nil : Reads [] []
  | cons {p nums z t cs} : Req p nums z → Reads t cs → Reads (spell p nums ++ t) (rowsOf p nums :: cs)
theorem reads_of : ∀ (f : Nat) (l : List Int) (cs : List (List (List Int))), PyFlat.calls PyKv406.shape f l = some cs → PyInside.calls PyKv406.bound cs = true → Reads l cs := by
  intro f
  induction f with
  | zero =>
    intro l cs h _
    cases l with
    | nil => cases h; exact .nil
    | cons p r => cases h
  | succ f ih =>
    intro l cs h hin
    cases l with
    | nil => cases h; exact .nil
    | cons p r =>
      unfold PyFlat.calls at h
      cases hc : PyFlat.call PyKv406.shape (p :: r) with
      | none => rw [hc] at h; cases h
      | some q =>
        obtain ⟨c, t⟩ := q
        rw [hc] at h
        dsimp only at h
        cases ht : PyFlat.calls PyKv406.shape f t with
        | none => rw [ht] at h; cases h
        | some cs' =>
          rw [ht] at h
          cases h
          unfold PyInside.calls at hin
          rw [List.all_cons, Bool.and_eq_true] at hin
          obtain ⟨p', nums, z, hz, e1, e2⟩ := call_req hc hin.1
          rw [e1, e2]
          exact .cons hz (ih t cs' ht hin.2)

/-- what is due, from a state on -/
def due (s : State) (cs : List (List (List Int))) : List Int := PyFlat.told (PyFlat.played Kv406Neutral.step s cs)
theorem due_nil (s : State) : due s [] = [] := rfl
theorem due_cons {p nums z} (h : Req p nums z) (s : State) (cs : List (List (List Int))) :
    due s (rowsOf p nums :: cs) = (((Kv406Neutral.row (act s z).2).length : Nat) : Int) :: Kv406Neutral.row (act s z).2 ++ due (act s z).1 cs := by
  have e : Kv406Neutral.step s (rowsOf p nums) = ((act s z).1, Kv406Neutral.row (act s z).2) := by
    unfold Kv406Neutral.step
    rw [callOf_req h]
  show PyFlat.told ((Kv406Neutral.step s (rowsOf p nums)).2 :: PyFlat.played Kv406Neutral.step (Kv406Neutral.step s (rowsOf p nums)).1 cs) = _
  rw [e]
  unfold PyFlat.told
  rw [List.flatMap_cons]
  rfl
theorem answers_due {l : List Int} (h : PyKv406.answers_asked l = true) : ∃ cs, Reads l cs ∧ cs.length ≤ 256 ∧ PyKv406.answers l = due none cs ∧ (due none cs).length ≤ 10000000 := by
  unfold PyKv406.answers_asked at h
  cases hc : PyFlat.calls PyKv406.shape l.length l with
  | none => rw [hc] at h; cases h
  | some raw =>
    rw [hc] at h
    simp only [Bool.and_eq_true] at h
    obtain ⟨⟨⟨⟨_, h2⟩, h3⟩, _⟩, h5⟩ := h
    have hd : PyKv406.answers l = due none raw := by
      unfold PyKv406.answers PyKv406.calls
      rw [hc]
      have e : raw.map PyKv406.whole = raw := by
        rw [show PyKv406.whole = id from funext whole_id, List.map_id]
      show PyFlat.told (PyFlat.played Kv406Neutral.step Kv406Neutral.start (raw.map PyKv406.whole)) = _
      rw [e]; rfl
    refine ⟨raw, reads_of _ _ _ hc h3, by unfold PyFlat.atMost at h2; simpa using h2, hd, ?_⟩
    rw [hd] at h5
    unfold PyFlat.short at h5
    simpa using h5
end Nk
set_option Elab.async false
set_option maxRecDepth 100000
set_option maxHeartbeats 4000000
/-! The program's defs by their places; of each its names by slot. -/
namespace Nk
open PySem L2
def top (i : Nat) : Stmt := PySem.Challenge.pw_nearkeptdesk_s01_answers.main.body.getD i (.Pass ⟨0, 0, 0, 0⟩)
/-- lesser: one 0, other 1 -/
abbrev s_lesser : Stmt := top 1
abbrev n_lesser : List Str := ["one", "other"]
theorem sc_lesser : FnScope n_lesser ["one", "other"] (defScope s_lesser) := ⟨rfl, rfl, rfl, by decide +kernel, rfl, by decide +kernel, by decide +kernel⟩
/-- joined: ahead 0, length 1, behind 2 -/
abbrev s_joined : Stmt := top 2
abbrev n_joined : List Str := ["ahead", "length", "behind"]
theorem sc_joined : FnScope n_joined ["ahead", "length", "behind"] (defScope s_joined) := ⟨rfl, rfl, rfl, by decide +kernel, rfl, by decide +kernel, by decide +kernel⟩
/-- no_ways: places 0, far 1, place 2, row 3, other 4 -/
abbrev s_no_ways : Stmt := top 3
abbrev n_no_ways : List Str := ["places", "far", "place", "row", "other"]
theorem sc_no_ways : FnScope n_no_ways ["places"] (defScope s_no_ways) := ⟨rfl, rfl, rfl, by decide +kernel, rfl, by decide +kernel, by decide +kernel⟩
/-- with_line: far 0, line 1, rows 2, start 3, row 4, end 5, forth 6, back 7 -/
abbrev s_with_line : Stmt := top 4
abbrev n_with_line : List Str := ["far", "line", "rows", "start", "row", "end", "forth", "back"]
theorem sc_with_line : FnScope n_with_line ["far", "line"] (defScope s_with_line) := ⟨rfl, rfl, rfl, by decide +kernel, rfl, by decide +kernel, by decide +kernel⟩
/-- distances: places 0, lines 1, far 2, line 3 -/
abbrev s_distances : Stmt := top 5
abbrev n_distances : List Str := ["places", "lines", "far", "line"]
theorem sc_distances : FnScope n_distances ["places", "lines"] (defScope s_distances) := ⟨rfl, rfl, rfl, by decide +kernel, rfl, by decide +kernel, by decide +kernel⟩
/-- joins: line 0, a 1, b 2 -/
abbrev s_joins : Stmt := top 6
abbrev n_joins : List Str := ["line", "a", "b"]
theorem sc_joins : FnScope n_joins ["line", "a", "b"] (defScope s_joins) := ⟨rfl, rfl, rfl, by decide +kernel, rfl, by decide +kernel, by decide +kernel⟩
/-- length_between: lines 0, a 1, b 2, line 3 -/
abbrev s_length_between : Stmt := top 7
abbrev n_length_between : List Str := ["lines", "a", "b", "line"]
theorem sc_length_between : FnScope n_length_between ["lines", "a", "b"] (defScope s_length_between) := ⟨rfl, rfl, rfl, by decide +kernel, rfl, by decide +kernel, by decide +kernel⟩
/-- kept_lines: places 0, lines 1, times 2, far 3, kept 4, line 5, known 6 -/
abbrev s_kept_lines : Stmt := top 8
abbrev n_kept_lines : List Str := ["places", "lines", "times", "far", "kept", "line", "known"]
theorem sc_kept_lines : FnScope n_kept_lines ["places", "lines", "times"] (defScope s_kept_lines) := ⟨rfl, rfl, rfl, by decide +kernel, rfl, by decide +kernel, by decide +kernel⟩
/-- is_chosen: choice 0, place 1 -/
abbrev s_is_chosen : Stmt := top 10
abbrev n_is_chosen : List Str := ["choice", "place"]
theorem sc_is_chosen : FnScope n_is_chosen ["choice", "place"] (defScope s_is_chosen) := ⟨rfl, rfl, rfl, by decide +kernel, rfl, by decide +kernel, by decide +kernel⟩
/-- chosen_places: choice 0, places 1, place 2; cells: choice -/
abbrev s_chosen_places : Stmt := top 11
abbrev n_chosen_places : List Str := ["choice", "places", "place"]
theorem sc_chosen_places : FnScope n_chosen_places ["choice", "places"] (defScope s_chosen_places) := ⟨rfl, rfl, rfl, by decide +kernel, rfl, by decide +kernel, by decide +kernel⟩
/-- nearest_chosen: far 0, choice 1, place 2, best 3, other 4, distance 5 -/
abbrev s_nearest_chosen : Stmt := top 12
abbrev n_nearest_chosen : List Str := ["far", "choice", "place", "best", "other", "distance"]
theorem sc_nearest_chosen : FnScope n_nearest_chosen ["far", "choice", "place"] (defScope s_nearest_chosen) := ⟨rfl, rfl, rfl, by decide +kernel, rfl, by decide +kernel, by decide +kernel⟩
/-- is_near: far 0, nearest 1, place 2, other 3 -/
abbrev s_is_near : Stmt := top 13
abbrev n_is_near : List Str := ["far", "nearest", "place", "other"]
theorem sc_is_near : FnScope n_is_near ["far", "nearest", "place", "other"] (defScope s_is_near) := ⟨rfl, rfl, rfl, by decide +kernel, rfl, by decide +kernel, by decide +kernel⟩
/-- near_places: far 0, nearest 1, place 2, other 3; cells: far, nearest, place -/
abbrev s_near_places : Stmt := top 14
abbrev n_near_places : List Str := ["far", "nearest", "place", "other"]
theorem sc_near_places : FnScope n_near_places ["far", "nearest", "place"] (defScope s_near_places) := ⟨rfl, rfl, rfl, by decide +kernel, rfl, by decide +kernel, by decide +kernel⟩
/-- round_by: far 0, chosen 1, u 2, v 3 -/
abbrev s_round_by : Stmt := top 15
abbrev n_round_by : List Str := ["far", "chosen", "u", "v"]
theorem sc_round_by : FnScope n_round_by ["far", "chosen", "u", "v"] (defScope s_round_by) := ⟨rfl, rfl, rfl, by decide +kernel, rfl, by decide +kernel, by decide +kernel⟩
/-- told_by_chosen: far 0, nearest 1, u 2, v 3 -/
abbrev s_told_by_chosen : Stmt := top 16
abbrev n_told_by_chosen : List Str := ["far", "nearest", "u", "v"]
theorem sc_told_by_chosen : FnScope n_told_by_chosen ["far", "nearest", "u", "v"] (defScope s_told_by_chosen) := ⟨rfl, rfl, rfl, by decide +kernel, rfl, by decide +kernel, by decide +kernel⟩
/-- k_nearest: far 0, k 1, place 2, row 3, reached 4, other 5, pair 6; cells: row -/
abbrev s_k_nearest : Stmt := top 17
abbrev n_k_nearest : List Str := ["far", "k", "place", "row", "reached", "other", "pair"]
theorem sc_k_nearest : FnScope n_k_nearest ["far", "k", "place"] (defScope s_k_nearest) := ⟨rfl, rfl, rfl, by decide +kernel, rfl, by decide +kernel, by decide +kernel⟩
/-- in_most_rows: places 0, rows 1, counts 2, place 3, row 4; cells: rows -/
abbrev s_in_most_rows : Stmt := top 18
abbrev n_in_most_rows : List Str := ["places", "rows", "counts", "place", "row"]
theorem sc_in_most_rows : FnScope n_in_most_rows ["places", "rows"] (defScope s_in_most_rows) := ⟨rfl, rfl, rfl, by decide +kernel, rfl, by decide +kernel, by decide +kernel⟩
/-- chosen_by_greed: far 0, k 1, lacking 2, choice 3, best 4, place 5, row 6; cells: far, k, best -/
abbrev s_chosen_by_greed : Stmt := top 19
abbrev n_chosen_by_greed : List Str := ["far", "k", "lacking", "choice", "best", "place", "row"]
theorem sc_chosen_by_greed : FnScope n_chosen_by_greed ["far", "k"] (defScope s_chosen_by_greed) := ⟨rfl, rfl, rfl, by decide +kernel, rfl, by decide +kernel, by decide +kernel⟩
/-- made_anew: desk 0, after 1 -/
abbrev s_made_anew : Stmt := top 28
abbrev n_made_anew : List Str := ["desk", "after"]
theorem sc_made_anew : FnScope n_made_anew ["desk"] (defScope s_made_anew) := ⟨rfl, rfl, rfl, by decide +kernel, rfl, by decide +kernel, by decide +kernel⟩
/-- put_line: desk 0, numbers 1, a 2, b 3, length 4, others 5, after 6, line 7; cells: a, b -/
abbrev s_put_line : Stmt := top 29
abbrev n_put_line : List Str := ["desk", "numbers", "a", "b", "length", "others", "after", "line"]
theorem sc_put_line : FnScope n_put_line ["desk", "numbers"] (defScope s_put_line) := ⟨rfl, rfl, rfl, by decide +kernel, rfl, by decide +kernel, by decide +kernel⟩
/-- cut_line: desk 0, numbers 1, number 2, after 3 -/
abbrev s_cut_line : Stmt := top 30
abbrev n_cut_line : List Str := ["desk", "numbers", "number", "after"]
theorem sc_cut_line : FnScope n_cut_line ["desk", "numbers"] (defScope s_cut_line) := ⟨rfl, rfl, rfl, by decide +kernel, rfl, by decide +kernel, by decide +kernel⟩
/-- set_times: desk 0, numbers 1, after 2 -/
abbrev s_set_times : Stmt := top 31
abbrev n_set_times : List Str := ["desk", "numbers", "after"]
theorem sc_set_times : FnScope n_set_times ["desk", "numbers"] (defScope s_set_times) := ⟨rfl, rfl, rfl, by decide +kernel, rfl, by decide +kernel, by decide +kernel⟩
/-- set_order: desk 0, row 1, after 2 -/
abbrev s_set_order : Stmt := top 32
abbrev n_set_order : List Str := ["desk", "row", "after"]
theorem sc_set_order : FnScope n_set_order ["desk", "row"] (defScope s_set_order) := ⟨rfl, rfl, rfl, by decide +kernel, rfl, by decide +kernel, by decide +kernel⟩
/-- set_choice: desk 0, numbers 1, after 2 -/
abbrev s_set_choice : Stmt := top 33
abbrev n_set_choice : List Str := ["desk", "numbers", "after"]
theorem sc_set_choice : FnScope n_set_choice ["desk", "numbers"] (defScope s_set_choice) := ⟨rfl, rfl, rfl, by decide +kernel, rfl, by decide +kernel, by decide +kernel⟩
/-- choose_by_greed: desk 0, numbers 1, after 2 -/
abbrev s_choose_by_greed : Stmt := top 34
abbrev n_choose_by_greed : List Str := ["desk", "numbers", "after"]
theorem sc_choose_by_greed : FnScope n_choose_by_greed ["desk", "numbers"] (defScope s_choose_by_greed) := ⟨rfl, rfl, rfl, by decide +kernel, rfl, by decide +kernel, by decide +kernel⟩
/-- make_all: desk 0, numbers 1, after 2 -/
abbrev s_make_all : Stmt := top 35
abbrev n_make_all : List Str := ["desk", "numbers", "after"]
theorem sc_make_all : FnScope n_make_all ["desk", "numbers"] (defScope s_make_all) := ⟨rfl, rfl, rfl, by decide +kernel, rfl, by decide +kernel, by decide +kernel⟩
/-- send_one: desk 0, numbers 1, u 2, v 3, after 4, comes 5 -/
abbrev s_send_one : Stmt := top 36
abbrev n_send_one : List Str := ["desk", "numbers", "u", "v", "after", "comes"]
theorem sc_send_one : FnScope n_send_one ["desk", "numbers"] (defScope s_send_one) := ⟨rfl, rfl, rfl, by decide +kernel, rfl, by decide +kernel, by decide +kernel⟩
/-- send_all: desk 0, numbers 1, after 2, u 3, v 4 -/
abbrev s_send_all : Stmt := top 37
abbrev n_send_all : List Str := ["desk", "numbers", "after", "u", "v"]
theorem sc_send_all : FnScope n_send_all ["desk", "numbers"] (defScope s_send_all) := ⟨rfl, rfl, rfl, by decide +kernel, rfl, by decide +kernel, by decide +kernel⟩
/-- is_change: call 0 -/
abbrev s_is_change : Stmt := top 39
abbrev n_is_change : List Str := ["call"]
theorem sc_is_change : FnScope n_is_change ["call"] (defScope s_is_change) := ⟨rfl, rfl, rfl, by decide +kernel, rfl, by decide +kernel, by decide +kernel⟩
/-- change: desk 0, call 1, numbers 2, act 3 -/
abbrev s_change : Stmt := top 40
abbrev n_change : List Str := ["desk", "call", "numbers", "act"]
theorem sc_change : FnScope n_change ["desk", "call", "numbers"] (defScope s_change) := ⟨rfl, rfl, rfl, by decide +kernel, rfl, by decide +kernel, by decide +kernel⟩
/-- told_by_marks: marks 0, u 1, v 2, least 3, mark 4, other 5 -/
abbrev s_told_by_marks : Stmt := top 42
abbrev n_told_by_marks : List Str := ["marks", "u", "v", "least", "mark", "other"]
theorem sc_told_by_marks : FnScope n_told_by_marks ["marks", "u", "v"] (defScope s_told_by_marks) := ⟨rfl, rfl, rfl, by decide +kernel, rfl, by decide +kernel, by decide +kernel⟩
/-- places_to_mark: far 0, marks 1, marker 2, row 3, reached 4, place 5; cells: marks, marker, row -/
abbrev s_places_to_mark : Stmt := top 43
abbrev n_places_to_mark : List Str := ["far", "marks", "marker", "row", "reached", "place"]
theorem sc_places_to_mark : FnScope n_places_to_mark ["far", "marks", "marker"] (defScope s_places_to_mark) := ⟨rfl, rfl, rfl, by decide +kernel, rfl, by decide +kernel, by decide +kernel⟩
/-- marks_in_order: far 0, order 1, place 2, marks 3, marker 4 -/
abbrev s_marks_in_order : Stmt := top 44
abbrev n_marks_in_order : List Str := ["far", "order", "place", "marks", "marker"]
theorem sc_marks_in_order : FnScope n_marks_in_order ["far", "order"] (defScope s_marks_in_order) := ⟨rfl, rfl, rfl, by decide +kernel, rfl, by decide +kernel, by decide +kernel⟩
/-- onward: far 0, base 1, start 2, end 3, beside 4, length 5 -/
abbrev s_onward : Stmt := top 46
abbrev n_onward : List Str := ["far", "base", "start", "end", "beside", "length"]
theorem sc_onward : FnScope n_onward ["far", "base", "start", "end"] (defScope s_onward) := ⟨rfl, rfl, rfl, by decide +kernel, rfl, by decide +kernel, by decide +kernel⟩
/-- table_of: far 0, base 1, choice 2, nearest 3, place 4, table 5, other 6 -/
abbrev s_table_of : Stmt := top 47
abbrev n_table_of : List Str := ["far", "base", "choice", "nearest", "place", "table", "other"]
theorem sc_table_of : FnScope n_table_of ["far", "base", "choice", "nearest", "place"] (defScope s_table_of) := ⟨rfl, rfl, rfl, by decide +kernel, rfl, by decide +kernel, by decide +kernel⟩
/-- address_of: far 0, base 1, nearest 2, place 3, chosen 4 -/
abbrev s_address_of : Stmt := top 48
abbrev n_address_of : List Str := ["far", "base", "nearest", "place", "chosen"]
theorem sc_address_of : FnScope n_address_of ["far", "base", "nearest", "place"] (defScope s_address_of) := ⟨rfl, rfl, rfl, by decide +kernel, rfl, by decide +kernel, by decide +kernel⟩
/-- sent_on: tables 0, address 1, here 2, table 3 -/
abbrev s_sent_on : Stmt := top 49
abbrev n_sent_on : List Str := ["tables", "address", "here", "table"]
theorem sc_sent_on : FnScope n_sent_on ["tables", "address", "here"] (defScope s_sent_on) := ⟨rfl, rfl, rfl, by decide +kernel, rfl, by decide +kernel, by decide +kernel⟩
/-- way_of: tables 0, address 1, start 2, way 3, here 4 -/
abbrev s_way_of : Stmt := top 50
abbrev n_way_of : List Str := ["tables", "address", "start", "way", "here"]
theorem sc_way_of : FnScope n_way_of ["tables", "address", "start"] (defScope s_way_of) := ⟨rfl, rfl, rfl, by decide +kernel, rfl, by decide +kernel, by decide +kernel⟩
/-- how_far: lines 0, way 1, goal 2, total 3, step 4, length 5 -/
abbrev s_how_far : Stmt := top 51
abbrev n_how_far : List Str := ["lines", "way", "goal", "total", "step", "length"]
theorem sc_how_far : FnScope n_how_far ["lines", "way", "goal"] (defScope s_how_far) := ⟨rfl, rfl, rfl, by decide +kernel, rfl, by decide +kernel, by decide +kernel⟩
/-- Made_init: self 0, desk 1, count 2, base 3, far 4, nearest 5, place 6; cells: desk, base, far, nearest -/
abbrev s_Made_init : Stmt := inClass (top 53) 0
abbrev n_Made_init : List Str := ["self", "desk", "count", "base", "far", "nearest", "place"]
theorem sc_Made_init : FnScope n_Made_init ["self", "desk"] (defScope s_Made_init) := ⟨rfl, rfl, rfl, by decide +kernel, rfl, by decide +kernel, by decide +kernel⟩
/-- Made_count_marks: self 0, marks 1 -/
abbrev s_Made_count_marks : Stmt := inClass (top 53) 1
abbrev n_Made_count_marks : List Str := ["self", "marks"]
theorem sc_Made_count_marks : FnScope n_Made_count_marks ["self"] (defScope s_Made_count_marks) := ⟨rfl, rfl, rfl, by decide +kernel, rfl, by decide +kernel, by decide +kernel⟩
/-- Made_count_near: self 0, place 1; cells: self -/
abbrev s_Made_count_near : Stmt := inClass (top 53) 2
abbrev n_Made_count_near : List Str := ["self", "place"]
theorem sc_Made_count_near : FnScope n_Made_count_near ["self"] (defScope s_Made_count_near) := ⟨rfl, rfl, rfl, by decide +kernel, rfl, by decide +kernel, by decide +kernel⟩
/-- Made_count_entries: self 0, table 1 -/
abbrev s_Made_count_entries : Stmt := inClass (top 53) 3
abbrev n_Made_count_entries : List Str := ["self", "table"]
theorem sc_Made_count_entries : FnScope n_Made_count_entries ["self"] (defScope s_Made_count_entries) := ⟨rfl, rfl, rfl, by decide +kernel, rfl, by decide +kernel, by decide +kernel⟩
/-- Desk_init: self 0, places 1 -/
abbrev s_Desk_init : Stmt := inClass (top 54) 0
abbrev n_Desk_init : List Str := ["self", "places"]
theorem sc_Desk_init : FnScope n_Desk_init ["self", "places"] (defScope s_Desk_init) := ⟨rfl, rfl, rfl, by decide +kernel, rfl, by decide +kernel, by decide +kernel⟩
/-- Desk_make: self 0 -/
abbrev s_Desk_make : Stmt := inClass (top 54) 1
abbrev n_Desk_make : List Str := ["self"]
theorem sc_Desk_make : FnScope n_Desk_make ["self"] (defScope s_Desk_make) := ⟨rfl, rfl, rfl, by decide +kernel, rfl, by decide +kernel, by decide +kernel⟩
/-- Desk_twin: self 0, other 1 -/
abbrev s_Desk_twin : Stmt := inClass (top 54) 2
abbrev n_Desk_twin : List Str := ["self", "other"]
theorem sc_Desk_twin : FnScope n_Desk_twin ["self"] (defScope s_Desk_twin) := ⟨rfl, rfl, rfl, by decide +kernel, rfl, by decide +kernel, by decide +kernel⟩
/-- Desk_has_places: self 0, numbers 1, number 2; cells: self -/
abbrev s_Desk_has_places : Stmt := inClass (top 54) 3
abbrev n_Desk_has_places : List Str := ["self", "numbers", "number"]
theorem sc_Desk_has_places : FnScope n_Desk_has_places ["self", "numbers"] (defScope s_Desk_has_places) := ⟨rfl, rfl, rfl, by decide +kernel, rfl, by decide +kernel, by decide +kernel⟩
/-- Desk_chosen: self 0 -/
abbrev s_Desk_chosen : Stmt := inClass (top 54) 4
abbrev n_Desk_chosen : List Str := ["self"]
theorem sc_Desk_chosen : FnScope n_Desk_chosen ["self"] (defScope s_Desk_chosen) := ⟨rfl, rfl, rfl, by decide +kernel, rfl, by decide +kernel, by decide +kernel⟩
/-- Desk_message_way: self 0, u 1, v 2 -/
abbrev s_Desk_message_way : Stmt := inClass (top 54) 5
abbrev n_Desk_message_way : List Str := ["self", "u", "v"]
theorem sc_Desk_message_way : FnScope n_Desk_message_way ["self", "u", "v"] (defScope s_Desk_message_way) := ⟨rfl, rfl, rfl, by decide +kernel, rfl, by decide +kernel, by decide +kernel⟩
/-- Desk_message_goes: self 0, u 1, v 2 -/
abbrev s_Desk_message_goes : Stmt := inClass (top 54) 6
abbrev n_Desk_message_goes : List Str := ["self", "u", "v"]
theorem sc_Desk_message_goes : FnScope n_Desk_message_goes ["self", "u", "v"] (defScope s_Desk_message_goes) := ⟨rfl, rfl, rfl, by decide +kernel, rfl, by decide +kernel, by decide +kernel⟩
/-- Desk_post: self 0, u 1, v 2, distance 3 -/
abbrev s_Desk_post : Stmt := inClass (top 54) 7
abbrev n_Desk_post : List Str := ["self", "u", "v", "distance"]
theorem sc_Desk_post : FnScope n_Desk_post ["self", "u", "v"] (defScope s_Desk_post) := ⟨rfl, rfl, rfl, by decide +kernel, rfl, by decide +kernel, by decide +kernel⟩
/-- new_desk: places 0, desk 1 -/
abbrev s_new_desk : Stmt := top 55
abbrev n_new_desk : List Str := ["places", "desk"]
theorem sc_new_desk : FnScope n_new_desk ["places"] (defScope s_new_desk) := ⟨rfl, rfl, rfl, by decide +kernel, rfl, by decide +kernel, by decide +kernel⟩
/-- told_lines: lines 0, told 1, line 2 -/
abbrev s_told_lines : Stmt := top 58
abbrev n_told_lines : List Str := ["lines", "told", "line"]
theorem sc_told_lines : FnScope n_told_lines ["lines"] (defScope s_told_lines) := ⟨rfl, rfl, rfl, by decide +kernel, rfl, by decide +kernel, by decide +kernel⟩
/-- look_lines: desk 0, numbers 1 -/
abbrev s_look_lines : Stmt := top 59
abbrev n_look_lines : List Str := ["desk", "numbers"]
theorem sc_look_lines : FnScope n_look_lines ["desk", "numbers"] (defScope s_look_lines) := ⟨rfl, rfl, rfl, by decide +kernel, rfl, by decide +kernel, by decide +kernel⟩
/-- look_base: desk 0, numbers 1 -/
abbrev s_look_base : Stmt := top 60
abbrev n_look_base : List Str := ["desk", "numbers"]
theorem sc_look_base : FnScope n_look_base ["desk", "numbers"] (defScope s_look_base) := ⟨rfl, rfl, rfl, by decide +kernel, rfl, by decide +kernel, by decide +kernel⟩
/-- look_fresh: desk 0, numbers 1 -/
abbrev s_look_fresh : Stmt := top 61
abbrev n_look_fresh : List Str := ["desk", "numbers"]
theorem sc_look_fresh : FnScope n_look_fresh ["desk", "numbers"] (defScope s_look_fresh) := ⟨rfl, rfl, rfl, by decide +kernel, rfl, by decide +kernel, by decide +kernel⟩
/-- look_marks: desk 0, numbers 1, marks 2, told 3, mark 4 -/
abbrev s_look_marks : Stmt := top 62
abbrev n_look_marks : List Str := ["desk", "numbers", "marks", "told", "mark"]
theorem sc_look_marks : FnScope n_look_marks ["desk", "numbers"] (defScope s_look_marks) := ⟨rfl, rfl, rfl, by decide +kernel, rfl, by decide +kernel, by decide +kernel⟩
/-- look_chosen: desk 0, numbers 1, chosen 2 -/
abbrev s_look_chosen : Stmt := top 63
abbrev n_look_chosen : List Str := ["desk", "numbers", "chosen"]
theorem sc_look_chosen : FnScope n_look_chosen ["desk", "numbers"] (defScope s_look_chosen) := ⟨rfl, rfl, rfl, by decide +kernel, rfl, by decide +kernel, by decide +kernel⟩
/-- look_route: desk 0, numbers 1, way 2 -/
abbrev s_look_route : Stmt := top 64
abbrev n_look_route : List Str := ["desk", "numbers", "way"]
theorem sc_look_route : FnScope n_look_route ["desk", "numbers"] (defScope s_look_route) := ⟨rfl, rfl, rfl, by decide +kernel, rfl, by decide +kernel, by decide +kernel⟩
/-- look_comes: desk 0, numbers 1 -/
abbrev s_look_comes : Stmt := top 65
abbrev n_look_comes : List Str := ["desk", "numbers"]
theorem sc_look_comes : FnScope n_look_comes ["desk", "numbers"] (defScope s_look_comes) := ⟨rfl, rfl, rfl, by decide +kernel, rfl, by decide +kernel, by decide +kernel⟩
/-- look_sizes: desk 0, numbers 1, made 2, near 3 -/
abbrev s_look_sizes : Stmt := top 66
abbrev n_look_sizes : List Str := ["desk", "numbers", "made", "near"]
theorem sc_look_sizes : FnScope n_look_sizes ["desk", "numbers"] (defScope s_look_sizes) := ⟨rfl, rfl, rfl, by decide +kernel, rfl, by decide +kernel, by decide +kernel⟩
/-- look_count: desk 0, numbers 1 -/
abbrev s_look_count : Stmt := top 67
abbrev n_look_count : List Str := ["desk", "numbers"]
theorem sc_look_count : FnScope n_look_count ["desk", "numbers"] (defScope s_look_count) := ⟨rfl, rfl, rfl, by decide +kernel, rfl, by decide +kernel, by decide +kernel⟩
/-- far_in_land: desk 0, u 1, v 2 -/
abbrev s_far_in_land : Stmt := top 68
abbrev n_far_in_land : List Str := ["desk", "u", "v"]
theorem sc_far_in_land : FnScope n_far_in_land ["desk", "u", "v"] (defScope s_far_in_land) := ⟨rfl, rfl, rfl, by decide +kernel, rfl, by decide +kernel, by decide +kernel⟩
/-- far_in_base: desk 0, u 1, v 2 -/
abbrev s_far_in_base : Stmt := top 69
abbrev n_far_in_base : List Str := ["desk", "u", "v"]
theorem sc_far_in_base : FnScope n_far_in_base ["desk", "u", "v"] (defScope s_far_in_base) := ⟨rfl, rfl, rfl, by decide +kernel, rfl, by decide +kernel, by decide +kernel⟩
/-- far_by_marks: desk 0, u 1, v 2 -/
abbrev s_far_by_marks : Stmt := top 70
abbrev n_far_by_marks : List Str := ["desk", "u", "v"]
theorem sc_far_by_marks : FnScope n_far_by_marks ["desk", "u", "v"] (defScope s_far_by_marks) := ⟨rfl, rfl, rfl, by decide +kernel, rfl, by decide +kernel, by decide +kernel⟩
/-- far_by_chosen: desk 0, u 1, v 2 -/
abbrev s_far_by_chosen : Stmt := top 71
abbrev n_far_by_chosen : List Str := ["desk", "u", "v"]
theorem sc_far_by_chosen : FnScope n_far_by_chosen ["desk", "u", "v"] (defScope s_far_by_chosen) := ⟨rfl, rfl, rfl, by decide +kernel, rfl, by decide +kernel, by decide +kernel⟩
/-- far_by_message: desk 0, u 1, v 2 -/
abbrev s_far_by_message : Stmt := top 72
abbrev n_far_by_message : List Str := ["desk", "u", "v"]
theorem sc_far_by_message : FnScope n_far_by_message ["desk", "u", "v"] (defScope s_far_by_message) := ⟨rfl, rfl, rfl, by decide +kernel, rfl, by decide +kernel, by decide +kernel⟩
/-- look_compare: desk 0, numbers 1, answer 2, tell 3, told 4 -/
abbrev s_look_compare : Stmt := top 74
abbrev n_look_compare : List Str := ["desk", "numbers", "answer", "tell", "told"]
theorem sc_look_compare : FnScope n_look_compare ["desk", "numbers"] (defScope s_look_compare) := ⟨rfl, rfl, rfl, by decide +kernel, rfl, by decide +kernel, by decide +kernel⟩
/-- look: desk 0, call 1, numbers 2, tell 3, told 4, act 5 -/
abbrev s_look : Stmt := top 77
abbrev n_look : List Str := ["desk", "call", "numbers", "tell", "told", "act"]
theorem sc_look : FnScope n_look ["desk", "call", "numbers"] (defScope s_look) := ⟨rfl, rfl, rfl, by decide +kernel, rfl, by decide +kernel, by decide +kernel⟩
/-- Office_init: self 0 -/
abbrev s_Office_init : Stmt := inClass (top 86) 0
abbrev n_Office_init : List Str := ["self"]
theorem sc_Office_init : FnScope n_Office_init ["self"] (defScope s_Office_init) := ⟨rfl, rfl, rfl, by decide +kernel, rfl, by decide +kernel, by decide +kernel⟩
/-- Office_answer: self 0, call 1, numbers 2 -/
abbrev s_Office_answer : Stmt := inClass (top 86) 1
abbrev n_Office_answer : List Str := ["self", "call", "numbers"]
theorem sc_Office_answer : FnScope n_Office_answer ["self", "call", "numbers"] (defScope s_Office_answer) := ⟨rfl, rfl, rfl, by decide +kernel, rfl, by decide +kernel, by decide +kernel⟩
/-- Office_begin: self 0, places 1 -/
abbrev s_Office_begin : Stmt := inClass (top 86) 2
abbrev n_Office_begin : List Str := ["self", "places"]
theorem sc_Office_begin : FnScope n_Office_begin ["self", "places"] (defScope s_Office_begin) := ⟨rfl, rfl, rfl, by decide +kernel, rfl, by decide +kernel, by decide +kernel⟩
/-- Office_take_on: self 0, outcome 1 -/
abbrev s_Office_take_on : Stmt := inClass (top 86) 3
abbrev n_Office_take_on : List Str := ["self", "outcome"]
theorem sc_Office_take_on : FnScope n_Office_take_on ["self", "outcome"] (defScope s_Office_take_on) := ⟨rfl, rfl, rfl, by decide +kernel, rfl, by decide +kernel, by decide +kernel⟩
/-- Office_take_back: self 0 -/
abbrev s_Office_take_back : Stmt := inClass (top 86) 4
abbrev n_Office_take_back : List Str := ["self"]
theorem sc_Office_take_back : FnScope n_Office_take_back ["self"] (defScope s_Office_take_back) := ⟨rfl, rfl, rfl, by decide +kernel, rfl, by decide +kernel, by decide +kernel⟩
/-- Office_tell_state: self 0, desk 1 -/
abbrev s_Office_tell_state : Stmt := inClass (top 86) 5
abbrev n_Office_tell_state : List Str := ["self", "desk"]
theorem sc_Office_tell_state : FnScope n_Office_tell_state ["self"] (defScope s_Office_tell_state) := ⟨rfl, rfl, rfl, by decide +kernel, rfl, by decide +kernel, by decide +kernel⟩
/-- answers: calls 0, office 1, told 2, at 3, call 4, start 5, size 6, answer 7 -/
abbrev s_answers : Stmt := top 87
abbrev n_answers : List Str := ["calls", "office", "told", "at", "call", "start", "size", "answer"]
theorem sc_answers : FnScope n_answers ["calls"] (defScope s_answers) := ⟨rfl, rfl, rfl, by decide +kernel, rfl, by decide +kernel, by decide +kernel⟩
end Nk
set_option Elab.async false
set_option maxRecDepth 100000
set_option maxHeartbeats 4000000
/-! How the program's values lie in the heap; calls of the program's own defs by their promises. -/
namespace Nk
open PySem PySem.Spec PyProof.Rows L2

/-! ## values -/
/-- how a value tells x, over a heap -/
abbrev Rep (α : Type) := Hp → V → α → Prop
def oV : Option Nat → V
  | none => .non
  | some d => .int (d : Nat)
def nV (n : Nat) : V := .int (n : Nat)
def rN : Rep Nat := fun _ v n => v = nV n
def rO : Rep (Option Nat) := fun _ v x => v = oV x
/-- a list of things, each told by F -/
def LOf {α : Type} (F : Rep α) : Rep (List α) := fun H v xs => ∃ a vs, v = .ref a ∧ H a = some (.lst vs) ∧ Paired (F H) vs xs
def rLine : Rep Kv402.Line := fun H v l => ∃ a, v = .ref a ∧ H a = some (.tup [nV l.w, nV l.a, nV l.b])
def rMark : Rep (Nat × Nat) := fun H v m => ∃ a, v = .ref a ∧ H a = some (.tup [nV m.1, nV m.2])
abbrev rRow : Rep (List (Option Nat)) := LOf rO
abbrev rTab : Rep Kv402.Table := LOf rRow
abbrev rLines : Rep (List Kv402.Line) := LOf rLine
abbrev rMarks : Rep Kv403.Marks := LOf (LOf rMark)

/-- what is told stays told, where nothing tracked changes -/
def Stays {α : Type} (F : Rep α) : Prop := ∀ H H' v x, Same H H' → F H v x → F H' v x
theorem Paired.mono {α β : Type} {F G : α → β → Prop} (h : ∀ a b, F a b → G a b) : ∀ {l : List α} {m : List β}, Paired F l m → Paired G l m
  | _, _, .nil => .nil
  | _, _, .cons a b => .cons (h _ _ a) (Paired.mono h b)
theorem Paired.get {α β : Type} {F : α → β → Prop} : ∀ {l : List α} {m : List β} {i : Nat} {y : β}, Paired F l m → m[i]? = some y → ∃ x, l[i]? = some x ∧ F x y
  | _, _, _, _, .nil, e => by simp at e
  | _, _, 0, _, .cons r _, e => by simp at e; subst e; exact ⟨_, rfl, r⟩
  | _, _, i + 1, y, .cons _ t, e => by
    obtain ⟨u, h1, h2⟩ := Paired.get (i := i) (y := y) t (by simpa using e)
    exact ⟨u, by simpa using h1, h2⟩
theorem Paired.getL {α β : Type} {F : α → β → Prop} : ∀ {l : List α} {m : List β} {i : Nat} {x : α}, Paired F l m → l[i]? = some x → ∃ y, m[i]? = some y ∧ F x y
  | _, _, _, _, .nil, e => by simp at e
  | _, _, 0, _, .cons r _, e => by simp at e; subst e; exact ⟨_, rfl, r⟩
  | _, _, i + 1, y, .cons _ t, e => by
    obtain ⟨u, h1, h2⟩ := Paired.getL (i := i) (x := y) t (by simpa using e)
    exact ⟨u, by simpa using h1, h2⟩
theorem Paired.len {α β : Type} {F : α → β → Prop} : ∀ {l : List α} {m : List β}, Paired F l m → l.length = m.length
  | _, _, .nil => rfl
  | _, _, .cons _ t => congrArg (· + 1) (Paired.len t)
theorem stays_N : Stays rN := fun _ _ _ _ _ h => h
theorem stays_O : Stays rO := fun _ _ _ _ _ h => h
theorem stays_line : Stays rLine := fun _ _ _ _ s ⟨a, e, h⟩ => ⟨a, e, s _ _ h⟩
theorem stays_mark : Stays rMark := fun _ _ _ _ s ⟨a, e, h⟩ => ⟨a, e, s _ _ h⟩
theorem stays_L {α : Type} {F : Rep α} (hF : Stays F) : Stays (LOf F) := fun _ _ _ _ s ⟨a, vs, e, h, p⟩ => ⟨a, vs, e, s _ _ h, Paired.mono (fun _ _ q => hF _ _ _ _ s q) p⟩
theorem stays_row : Stays rRow := stays_L stays_O
theorem stays_tab : Stays rTab := stays_L stays_row
theorem stays_lines : Stays rLines := stays_L stays_line
theorem stays_marks : Stays rMarks := stays_L (stays_L stays_mark)
theorem pairedO : ∀ {vs : List V} {H : Hp} {xs : List (Option Nat)}, Paired (rO H) vs xs ↔ vs = xs.map oV
  | vs, H, [] => ⟨fun h => by cases h; rfl, fun h => by cases h; exact .nil⟩
  | vs, H, x :: xs => ⟨fun h => by
      cases h with
      | cons a b => have := pairedO.1 b; subst this; rw [show _ = oV x from a]; rfl, fun h => by
      subst h; exact .cons rfl (pairedO.2 rfl)⟩
theorem pairedN : ∀ {vs : List V} {H : Hp} {xs : List Nat}, Paired (rN H) vs xs ↔ vs = xs.map nV
  | vs, H, [] => ⟨fun h => by cases h; rfl, fun h => by cases h; exact .nil⟩
  | vs, H, x :: xs => ⟨fun h => by
      cases h with
      | cons a b => have := pairedN.1 b; subst this; rw [show _ = nV x from a]; rfl, fun h => by
      subst h; exact .cons rfl (pairedN.2 rfl)⟩

/-! ## heaps -/
/-- a new object leaves what was there -/
theorem same_upd {H H' : Hp} {p : Addr} {o : HO} (s : Same H H') (np : H p = none) : Same H (upd H' p o) := fun b u e => by
  rw [upd_ne (ne_of_none e np)]; exact s _ _ e
theorem same_new {H : Hp} {p : Addr} {o : HO} (np : H p = none) : Same H (upd H p o) := same_upd (Same.refl H) np

/-! ## calls -/
section
variable {P : Program} {w : World} {K : PySem.W.Frag} {mg : Str → Option Value} {base : Heap}
/-- a def of the text stands under its name, and takes these parameters -/
structure Here (K : PySem.W.Frag) (mg : Str → Option Value) (x : Str) (st : Stmt) (ps : List Str) : Prop where
  ex : ∃ (f : Addr) (fd : FuncData), Fun K x x st f fd ∧ mg x = some (.ref f) ∧ Binds K fd ps []
/-- a def that keeps its promise, under its name -/
structure Kept (P : Program) (w : World) (K : PySem.W.Frag) (mg : Str → Option Value) (base : Heap) (k : Nat) (x : Str) (sp : Sp) : Prop where
  ex : ∃ (f : Addr) (fd : FuncData) (ps : List Str), FnOk P w K mg base CX0 k f fd ps sp ∧ mg x = some (.ref f) ∧ PySem.W.keepIn K (.ref f) = true ∧ Binds K fd ps []
theorem kept_of {x : Str} {st : Stmt} {N ps : List Str} {k : Nat} {sp : Sp} (D : Here K mg x st ps) (S : FnScope N ps (defScope st)) (len : ∀ vs H Q E, sp vs H Q E → vs.length = ps.length)
    (body : ∀ (f : Addr) (cdv : Value) (A : Around) (outer : List Env) (s : Shared) (H : Hp) (vs : List V) (Q : VK) (E : XK), Room k (A.deeper (envOfC x (defScope st) s.heap.objs.size f cdv)) → sp vs H Q E →
      ∃ t, PSs (cxOf CX0 P w K mg base N x (defScope st) f cdv A outer s H E).nox (defBody st) t ∧ t { nx := fun _ H' => Q .non H', rt := Q } (start N vs) H) : Kept P w K mg base (k + 1) x sp := by
  obtain ⟨f, fd, F, m, b⟩ := D.ex
  exact ⟨f, fd, ps, F.ok S len (body f), m, F.kp, b⟩
end
section
variable {X : Cx} {k j : Nat} {x : Str} {sp : Sp} {p pos : Pos} {e : Expr} {es : List Expr} {t : TA}
/-- a call of such a def -/
theorem pgo (c : Kept X.prog X.w X.K X.mg X.base k x sp) (hr : Room j X.A) (ha : PA X (e :: es) t) (hk : k ≤ j := by decide) (hg : Gl X x := by rfl)
    (hdb : (x == ("__debug__" : Str)) = false := by decide) (he : starEach (e :: es) X.env = (false, eval e X.env) :: starEach es X.env := by rfl) (hpl : (backTo pos (starEach es X.env)).any (·.1) = false := by rfl) :
    PE X (.Call (.Name x p) (e :: es) [] pos) (tCall sp [] E0 t) := by
  obtain ⟨f, fd, ps, F, hm, kp, b⟩ := c.ex
  exact pe_call F (hr.mono hk) hg hm kp b .nil pass0 ha hdb he hpl
end

/-- the built-in names that the program's text leaves alone -/
structure Plain (mg : Str → Option Value) : Prop where
  len : mg "len" = none
  range : mg "range" = none
  min : mg "min" = none
  max : mg "max" = none
  sum : mg "sum" = none
  sorted : mg "sorted" = none
  list : mg "list" = none
  all : mg "all" = none
end Nk
namespace Nk
open PySem PySem.Spec PyProof.Rows L2
/-! ## a heap without one object -/
def wo (H : Hp) (a : Addr) : Hp := fun b => if b = a then none else H b
theorem wo_at {H : Hp} {a : Addr} : wo H a a = none := by unfold wo; rw [if_pos rfl]
theorem wo_ne {H : Hp} {a b : Addr} (h : b ≠ a) : wo H a b = H b := by unfold wo; rw [if_neg h]
theorem wo_same (H : Hp) (a : Addr) : Same (wo H a) H := fun b o e => by
  by_cases h : b = a
  · subst h; rw [wo_at] at e; cases e
  · rw [wo_ne h] at e; exact e
theorem wo_upd {H : Hp} {a : Addr} {o : HO} : wo (upd H a o) a = wo H a := by
  funext b
  by_cases h : b = a
  · subst h; rw [wo_at, wo_at]
  · rw [wo_ne h, wo_ne h, upd_ne h]
theorem wo_upd_ne {H : Hp} {a p : Addr} {o : HO} (h : p ≠ a) : wo (upd H p o) a = upd (wo H a) p o := by
  funext b
  by_cases hb : b = a
  · subst hb; rw [wo_at, upd_ne (fun e => h e.symm), wo_at]
  · rw [wo_ne hb]
    by_cases hp : b = p
    · subst hp; rw [upd_same, upd_same]
    · rw [upd_ne hp, upd_ne hp, wo_ne hb]
theorem wo_mono {H H' : Hp} {a : Addr} (s : Same H H') : Same (wo H a) (wo H' a) := fun b o e => by
  by_cases h : b = a
  · subst h; rw [wo_at] at e; cases e
  · rw [wo_ne h] at e ⊢; exact s _ _ e
theorem same_wo {H H' : Hp} {a : Addr} (s : Same H H') (n : H a = none) : Same H (wo H' a) := fun b o e => by
  rw [wo_ne (ne_of_none e n)]; exact s _ _ e
theorem wo_none {H : Hp} {a p : Addr} (n : H p = none) : wo H a p = none := by
  by_cases h : p = a
  · subst h; exact wo_at
  · rw [wo_ne h]; exact n

/-- at r a new list grows, whose items tell xs; all else stays -/
structure Grow {α : Type} (F : Rep α) (H0 H : Hp) (r : Addr) (xs : List α) : Prop where
  new : H0 r = none
  same : Same H0 (wo H r)
  items : ∃ vs, H r = some (.lst vs) ∧ Paired (F (wo H r)) vs xs
theorem Grow.start {α : Type} {F : Rep α} {H : Hp} {r : Addr} (n : H r = none) : Grow F H (upd H r (.lst [])) r [] :=
  ⟨n, by rw [wo_upd]; exact same_wo (Same.refl H) n, [], upd_same, .nil⟩
theorem Grow.len {α : Type} {F : Rep α} {H0 H : Hp} {r : Addr} {xs : List α} (g : Grow F H0 H r xs) {vs : List V} (h : H r = some (.lst vs)) : vs.length = xs.length := by
  obtain ⟨us, e, p⟩ := g.items
  rw [h] at e; cases e; exact Paired.len p
/-- other things are made meanwhile -/
theorem Grow.on {α : Type} {F : Rep α} (hF : Stays F) {H0 H H' : Hp} {r : Addr} {xs : List α} (g : Grow F H0 H r xs) (s : Same H H') : Grow F H0 H' r xs := by
  obtain ⟨vs, e, p⟩ := g.items
  exact ⟨g.new, g.same.trans (wo_mono s), vs, s _ _ e, Paired.mono (fun _ _ q => hF _ _ _ _ (wo_mono s) q) p⟩
theorem Grow.push {α : Type} {F : Rep α} {H0 H : Hp} {r : Addr} {xs : List α} (g : Grow F H0 H r xs) {vs : List V} (e : H r = some (.lst vs)) {v : V} {x : α} (h : F (wo H r) v x) :
    Grow F H0 (upd H r (.lst (vs ++ [v]))) r (xs ++ [x]) := by
  obtain ⟨us, e', p⟩ := g.items
  rw [e] at e'; cases e'
  exact ⟨g.new, by rw [wo_upd]; exact g.same, _, upd_same, by rw [wo_upd]; exact Paired.snoc p h⟩
theorem Grow.all {α : Type} {F : Rep α} {H0 H : Hp} {r : Addr} {xs : List α} (g : Grow F H0 H r xs) : Same H0 H := g.same.trans (wo_same H r)
theorem Grow.done {α : Type} {F : Rep α} (hF : Stays F) {H0 H : Hp} {r : Addr} {xs : List α} (g : Grow F H0 H r xs) : LOf F H (.ref r) xs := by
  obtain ⟨vs, e, p⟩ := g.items
  exact ⟨r, vs, rfl, e, Paired.mono (fun _ _ q => hF _ _ _ _ (wo_same H r) q) p⟩
/-- what was made besides, told without the growing list -/
theorem take_snoc {α : Type} {l : List α} {i : Nat} {x : α} (h : l[i]? = some x) : l.take (i + 1) = l.take i ++ [x] := by
  rw [List.take_add_one, h]; rfl
theorem size100 {n : Nat} (h : n ≤ 100) : n < sizeLine := small1000 (by omega)
end Nk
namespace Nk
open PySem PySem.Spec PyProof.Rows L2
/-! ## what is new -/
def newOnly (H0 H : Hp) : Hp := fun b => match H0 b with
  | none => H b
  | some _ => none
theorem new_at {H0 H : Hp} {b : Addr} (n : H0 b = none) : newOnly H0 H b = H b := by unfold newOnly; rw [n]
theorem new_no {H0 H : Hp} {b : Addr} {o : HO} (n : H0 b = some o) : newOnly H0 H b = none := by unfold newOnly; rw [n]
theorem new_sub (H0 H : Hp) : Same (newOnly H0 H) H := fun b o e => by
  cases q : H0 b with
  | none => rw [new_at q] at e; exact e
  | some u => rw [new_no q] at e; cases e
theorem new_mono {H0 H H' : Hp} (s : Same H H') : Same (newOnly H0 H) (newOnly H0 H') := fun b o e => by
  cases q : H0 b with
  | none => rw [new_at q] at e ⊢; exact s _ _ e
  | some u => rw [new_no q] at e; cases e
/-- what is new does not touch what was there -/
theorem new_wo {H0 H : Hp} {r : Addr} {o : HO} (h : H0 r = some o) : Same (newOnly H0 H) (wo H r) := fun b u e => by
  have : b ≠ r := by
    intro z; subst z; rw [new_no h] at e; cases e
  rw [wo_ne this]; exact new_sub _ _ _ _ e
/-- told by new objects alone -/
def rNew {α : Type} (H0 : Hp) (F : Rep α) : Rep α := fun H v x => F (newOnly H0 H) v x
theorem stays_new {α : Type} {H0 : Hp} {F : Rep α} (hF : Stays F) : Stays (rNew H0 F) := fun _ _ _ _ s h => hF _ _ _ _ (new_mono s) h
theorem new_list {α : Type} {H0 H : Hp} {F : Rep α} {r : Addr} {xs : List α} (n : H0 r = none) (h : LOf (rNew H0 F) H (.ref r) xs) : LOf F (newOnly H0 H) (.ref r) xs := by
  obtain ⟨a, vs, e, ha, p⟩ := h
  cases e
  exact ⟨r, vs, rfl, (new_at n).trans ha, p⟩
end Nk
set_option Elab.async false
set_option maxRecDepth 100000
set_option maxHeartbeats 4000000
namespace Nk
open PySem PySem.Spec PyProof.Rows L2
/-- an if whose test is decided -/
theorem ifT {c : Bool} {A B : Prop} (hc : c = true) (h : A) : if c = true then A else B := by rw [if_pos hc]; exact h
theorem ifF {c : Bool} {A B : Prop} (hc : c = false) (h : B) : if c = true then A else B := by rw [if_neg (by rw [hc]; exact Bool.false_ne_true)]; exact h
theorem if2 {c : Bool} {A B : Prop} (h : c = true → A) (h' : c = false → B) : if c = true then A else B := by
  cases c with
  | true => exact ifT rfl (h rfl)
  | false => exact ifF rfl (h' rfl)
section
variable {P : Program} {w : World} {K : PySem.W.Frag} {mg : Str → Option Value} {base : Heap}

def sp_lesser : Sp := fun vs H Q _ => ∃ x y, vs = [oV x, oV y] ∧ Q (oV (Kv402.less x y)) H
theorem k_lesser (B : Plain mg) (D : Here K mg "lesser" s_lesser ["one", "other"]) : Kept P w K mg base 1 "lesser" sp_lesser := by
  refine kept_of D sc_lesser (fun vs H Q E h => ?_) (fun f cdv A outer s H vs Q E hr h => ?_)
  · obtain ⟨x, y, rfl, _⟩ := h; rfl
  · obtain ⟨x, y, rfl, q⟩ := h
    refine ⟨_, pss_cons (ps_if (pt_cmpR op_isN (pv 0) pe_non (nomark _)) (pss_one (ps_ret (pv 1))) pss_nil)
      (pss_cons (ps_if (pt_cmpR op_isN (pv 1) pe_non (nomark _)) (pss_one (ps_ret (pv 0))) pss_nil)
      (pss_one (ps_ret (pe_callB (call_min2 rfl) (by rfl) B.min (by decide +kernel) (pa_cons (pv 0) (pa_cons (pv 1) pa_nil)))))), ?_⟩
    cases x with
    | none => exact ⟨_, rfl, rfl, _, rfl, iteT ⟨_, rfl, q⟩⟩
    | some x =>
      refine ⟨_, rfl, rfl, _, rfl, iteF ?_⟩
      cases y with
      | none => exact ⟨_, rfl, rfl, _, rfl, iteT ⟨_, rfl, q⟩⟩
      | some y =>
        refine ⟨_, rfl, rfl, _, rfl, iteF ⟨_, rfl, _, rfl, _, _, rfl, ?_⟩⟩
        have e : (if ((y : Nat) : Int) < (x : Nat) then ((y : Nat) : Int) else (x : Nat)) = ((min x y : Nat) : Int) := by
          split <;> omega
        rw [e]; exact q

def sp_joined : Sp := fun vs H Q _ => ∃ x w y, vs = [oV x, nV w, oV y] ∧ Q (oV (join3 x w y)) H
theorem k_joined (D : Here K mg "joined" s_joined ["ahead", "length", "behind"]) : Kept P w K mg base 1 "joined" sp_joined := by
  refine kept_of D sc_joined (fun vs H Q E h => ?_) (fun f cdv A outer s H vs Q E hr h => ?_)
  · obtain ⟨x, w, y, rfl, _⟩ := h; rfl
  · obtain ⟨x, w, y, rfl, q⟩ := h
    refine ⟨_, pss_cons (ps_if (PW.pt (pw_or (pt_cmpR op_isN (pv 0) pe_non (nomark _)) (pw_or1 (pt_cmpR op_isN (pv 2) pe_non (nomark _))))) (pss_one (ps_ret pe_non)) pss_nil)
      (pss_one (ps_ret (pe_op op_add (pe_op op_add (pv 0) (pv 1)) (pv 2)))), ?_⟩
    cases x with
    | none => exact ⟨_, rfl, rfl, _, rfl, iteT (iteT q)⟩
    | some x =>
      refine ⟨_, rfl, rfl, _, rfl, iteF ?_⟩
      cases y with
      | none => exact ⟨_, rfl, rfl, _, rfl, iteT q⟩
      | some y =>
        exact ⟨_, rfl, rfl, _, rfl, iteF ⟨_, rfl, _, rfl, _, _, rfl, rfl, _, rfl, _, _, rfl, rfl, q⟩⟩
end
end Nk
set_option Elab.async false
set_option maxRecDepth 100000
set_option maxHeartbeats 4000000
namespace Nk
open PySem PySem.Spec PyProof.Rows L2
section
variable {P : Program} {w : World} {K : PySem.W.Frag} {mg : Str → Option Value} {base : Heap}

def sp_no_ways : Sp := fun vs H Q _ => ∃ n, vs = [nV n] ∧ n ≤ 100 ∧ ∀ H' v, Same H H' → rTab H' v (noWays n) → Q v H'
theorem k_no_ways (B : Plain mg) (D : Here K mg "no_ways" s_no_ways ["places"]) : Kept P w K mg base 1 "no_ways" sp_no_ways := by
  refine kept_of D sc_no_ways (fun vs H Q E h => ?_) (fun f cdv A outer s H vs Q E hr h => ?_)
  · obtain ⟨x, rfl, _⟩ := h; rfl
  · obtain ⟨n, rfl, hn, q⟩ := h
    refine ⟨_, pss_cons (ps_set (i := 1) sc_no_ways.nd rfl (.inl rfl) (pe_lst pa_nil))
      (pss_cons (ps_for PassesOwn.never rfl (pi_range1 rfl B.range (pa_cons (pv 0) pa_nil)) (pg_name (i := 2) sc_no_ways.nd rfl (.inl rfl))
        (pss_cons (ps_setLc (i := 3) (own := [("other", 4)]) (g := gName 4) (tt := tYes) rfl sc_no_ways.nd rfl rfl (sw_true rfl rfl rfl (by decide +kernel)) (pi_range1 rfl B.range (pa_cons (pv 0) pa_nil))
            (blkOk_by (N := n_no_ways) (sc := defScope s_no_ways) (by decide +kernel)) (fun _ _ _ _ _ => pg_name (i := 4) sc_no_ways.nd rfl (.inl rfl)) (fun _ _ _ _ _ => pts_nil) (fun _ _ _ _ _ => pe_non))
        (pss_cons (ps_asg pe_int (pg_sub (pv 3) (pv 2) set_list))
        (pss_one (ps_expr (pe_bm PySem.F.plainAttrs_list PySem.F.slot_list_append PySem.F.type_list_append mt_append (pv 1) (pa_cons (pv 3) pa_nil)))))))
      (pss_one (ps_ret (pv 1)))), ?_⟩
    refine ⟨Nat.zero_le _, fun r nr => ?_⟩
    refine ⟨_, rfl, (n : Nat), rfl, by omega, by omega, for_range (lo := 0) (n := ((n : Nat) : Int).toNat) (fun i σ H' => ∃ c d e, σ = [some (nV n), some (.ref r), c, d, e] ∧ Grow rRow H H' r ((noWays n).take i))
      ⟨none, none, none, rfl, Grow.start nr⟩ ?_ ?_⟩
    · rintro i σ H1 hi ⟨c, d, e, rfl, g⟩
      have hi : i < n := by simpa using hi
      refine ⟨_, rfl, (n : Nat), rfl, by omega, by omega, fun p np => lc_range (lo := 0) (n := ((n : Nat) : Int).toNat) (fun j H' => H' = upd H1 p (.lst (List.replicate j .non))) rfl ?_ ?_⟩
      · rintro j H' hj rfl
        refine ⟨rfl, _, upd_same, by rw [List.length_replicate]; exact size100 (by simp at hj; omega), ?_⟩
        rw [upd_upd, List.replicate_succ']
      · rintro H' rfl
        obtain ⟨vs, e1, pr⟩ := g.items
        have nrp : r ≠ p := ne_of_none e1 np
        refine ⟨_, rfl, _, rfl, p, _, _, i, rfl, rfl, upd_same, ?_, ?_⟩
        · unfold ixN
          rw [if_pos (by omega), if_pos (by rw [List.length_replicate]; omega)]; simp
        rw [upd_upd]
        refine ⟨_, rfl, .inl ⟨rfl, _, SqL.of ((upd_ne nrp).trans e1)⟩, _, rfl, r, vs, _, rfl, rfl, (upd_ne nrp).trans e1, ?_, ?_⟩
        · rw [g.len e1]; exact size100 (by rw [List.length_take]; omega)
        have row : (noWays n)[i]? = some ((List.range n).map fun v => if i = v then some 0 else none) := by
          unfold noWays mk
          rw [List.getElem?_map, List.getElem?_range hi]; rfl
        refine ⟨_, _, _, rfl, ?_⟩
        rw [take_snoc row]
        refine Grow.push (g.on stays_row (same_new np)) ((upd_ne nrp).trans e1) ⟨p, _, rfl, by rw [wo_ne nrp.symm]; exact upd_same, pairedO.2 ?_⟩
        apply List.ext_getElem
        · simp
        · intro j h1 h2
          simp only [List.length_map, List.length_range] at h2
          simp only [List.getElem_map, List.getElem_range, List.getElem_set, List.getElem_replicate]
          by_cases e : i = j
          · rw [if_pos e, if_pos e]; rfl
          · rw [if_neg e, if_neg e]; rfl
    · rintro σ H1 ⟨c, d, e, rfl, g⟩
      refine ⟨_, rfl, q _ _ g.all ?_⟩
      have := g.done stays_row
      rw [List.take_of_length_le (by rw [show (noWays n).length = n from mk_len n _]; simp)] at this
      exact this
end
end Nk
set_option Elab.async false
set_option maxRecDepth 100000
set_option maxHeartbeats 4000000
namespace Nk
open PySem PySem.Spec PyProof.Rows L2
/-- n rows of n -/
structure Sq (n : Nat) (t : Kv402.Table) : Prop where
  len : t.length = n
  rows : ∀ r ∈ t, r.length = n
theorem sq_mk (n f) : Sq n (mk n f) := ⟨mk_len n f, fun r hr => by
  unfold mk at hr
  obtain ⟨u, _, rfl⟩ := List.mem_map.1 hr
  simp⟩
theorem getD_some {α : Type} {l : List α} {i : Nat} (z : α) (h : i < l.length) : l[i]? = some (l.getD i z) := by
  rw [List.getD_eq_getElem?_getD, List.getElem?_eq_getElem h]; rfl
theorem Sq.row {n t} (h : Sq n t) {u : Nat} (hu : u < n) : t[u]? = some (t.getD u []) := getD_some [] (by rw [h.len]; exact hu)
theorem Sq.rlen {n t} (h : Sq n t) {u : Nat} (hu : u < n) : (t.getD u []).length = n := h.rows _ (by
  rw [List.getD_eq_getElem?_getD, List.getElem?_eq_getElem (by rw [h.len]; exact hu)]; exact List.getElem_mem _)
theorem Sq.cell {n t} (h : Sq n t) {u v : Nat} (hu : u < n) (hv : v < n) : (t.getD u [])[v]? = some (Kv402.at_ t u v) := getD_some none (by rw [h.rlen hu]; exact hv)
/-- a row of a table, and a cell of a row -/
theorem tab_row {H : Hp} {v : V} {n : Nat} {t : Kv402.Table} (h : rTab H v t) (q : Sq n t) {u : Nat} (hu : u < n) :
    ∃ a vs r, v = .ref a ∧ H a = some (.lst vs) ∧ vs[u]? = some (.ref r) ∧ H r = some (.lst ((t.getD u []).map oV)) := by
  obtain ⟨a, vs, rfl, ha, p⟩ := h
  obtain ⟨x, hx, r, us, rfl, hr, pr⟩ := Paired.get p (q.row hu)
  rw [pairedO.1 pr] at hr
  exact ⟨a, vs, r, rfl, ha, hx, hr⟩
theorem sq_with {n t} (h : Sq n t) (l : Kv402.Line) : Sq n (withLine t l) := ⟨by unfold withLine; rw [List.length_map]; exact h.len, fun r hr => by
  unfold withLine at hr
  obtain ⟨u, _, rfl⟩ := List.mem_map.1 hr
  rw [List.length_map, List.length_range]; exact h.len⟩
theorem sq_fold {n : Nat} : ∀ (s : List Kv402.Line) (t : Kv402.Table), Sq n t → Sq n (s.foldl withLine t)
  | [], _, h => h
  | l :: s, _, h => sq_fold s _ (sq_with h l)
theorem map_cell {r : List (Option Nat)} {v : Nat} {x : Option Nat} (h : r[v]? = some x) : (r.map oV)[v]? = some (oV x) := by rw [List.getElem?_map, h]; rfl
theorem atI_z {α : Type} {xs : List α} {j : Nat} {v : α} (h : xs[j]? = some v) : atI xs (0 + (j : Int)) = some v := by rw [Int.zero_add]; exact atI_nat h
section
variable {P : Program} {w : World} {K : PySem.W.Frag} {mg : Str → Option Value} {base : Heap}

def sp_with_line : Sp := fun vs H Q _ => ∃ n t l x y, vs = [x, y] ∧ rTab H x t ∧ rLine H y l ∧ Sq n t ∧ n ≤ 100 ∧ l.a < n ∧ l.b < n ∧ ∀ H' v, Same H H' → rTab (newOnly H H') v (withLine t l) → Q v H'
theorem k_with_line (B : Plain mg) (kl : Kept P w K mg base 1 "lesser" sp_lesser) (kj : Kept P w K mg base 1 "joined" sp_joined) (D : Here K mg "with_line" s_with_line ["far", "line"]) : Kept P w K mg base 2 "with_line" sp_with_line := by
  refine kept_of D sc_with_line (fun vs H Q E h => ?_) (fun f cdv A outer s H vs Q E hr h => ?_)
  · obtain ⟨n, t, l, x, y, rfl, _⟩ := h; rfl
  · obtain ⟨n, t, l, x, y, rfl, hx, hy, hq, hn, la, lb, q⟩ := h
    refine ⟨_, pss_cons (ps_set (i := 2) sc_with_line.nd rfl (.inl rfl) (pe_lst pa_nil))
      (pss_cons (ps_for PassesOwn.never rfl (pi_list (pv 0)) (pg_name (i := 3) sc_with_line.nd rfl (.inl rfl))
        (pss_cons (ps_set (i := 4) sc_with_line.nd rfl (.inl rfl) (pe_lst pa_nil))
        (pss_cons (ps_for PassesOwn.never rfl (pi_range1 rfl B.range (pa_cons (pe_callB call_len_seq (by rfl) B.len PySem.boot_len (pa_cons (pv 0) pa_nil)) pa_nil)) (pg_name (i := 5) sc_with_line.nd rfl (.inl rfl))
          (pss_cons (ps_set (i := 6) sc_with_line.nd rfl (.inl rfl) (pgo kj hr (pa_cons (pe_ix ix_list (pv 3) (pe_ix ix_tup (pv 1) pe_int (fun _ _ => rfl)) (fun _ _ => rfl))
              (pa_cons (pe_ix ix_tup (pv 1) pe_int (fun _ _ => rfl)) (pa_cons (pe_ix ix_list (pe_ix ix_list (pv 0) (pe_ix ix_tup (pv 1) pe_int (fun _ _ => rfl)) (fun _ _ => rfl)) (pv 5) (fun _ _ => rfl)) pa_nil)))))
          (pss_cons (ps_set (i := 7) sc_with_line.nd rfl (.inl rfl) (pgo kj hr (pa_cons (pe_ix ix_list (pv 3) (pe_ix ix_tup (pv 1) pe_int (fun _ _ => rfl)) (fun _ _ => rfl))
              (pa_cons (pe_ix ix_tup (pv 1) pe_int (fun _ _ => rfl)) (pa_cons (pe_ix ix_list (pe_ix ix_list (pv 0) (pe_ix ix_tup (pv 1) pe_int (fun _ _ => rfl)) (fun _ _ => rfl)) (pv 5) (fun _ _ => rfl)) pa_nil)))))
          (pss_one (ps_expr (pe_bm PySem.F.plainAttrs_list PySem.F.slot_list_append PySem.F.type_list_append mt_append (pv 4)
              (pa_cons (pgo kl hr (pa_cons (pe_ix ix_list (pv 3) (pv 5) (fun _ _ => rfl)) (pa_cons (pgo kl hr (pa_cons (pv 6) (pa_cons (pv 7) pa_nil))) pa_nil))) pa_nil)))))))
        (pss_one (ps_expr (pe_bm PySem.F.plainAttrs_list PySem.F.slot_list_append PySem.F.type_list_append mt_append (pv 2) (pa_cons (pv 4) pa_nil)))))))
      (pss_one (ps_ret (pv 2)))), ?_⟩
    obtain ⟨fa, fvs, rfl, hf, fp⟩ := id hx
    obtain ⟨la', rfl, hl⟩ := id hy
    refine ⟨Nat.zero_le _, fun r nr => ?_⟩
    have s1 : Same H (upd H r (.lst [])) := same_new nr
    have el : fvs.length = n := (Paired.len fp).trans hq.len
    have ewl : (withLine t l).length = n := by unfold withLine; rw [List.length_map]; exact hq.len
    refine ⟨_, rfl, fa, rfl, ⟨_, SqL.of (s1 _ _ hf)⟩, for_list (K := K) (a := fa) (xs := fvs) (fun i σ H' => ∃ c d e g h, σ = [some (.ref fa), some (.ref la'), some (.ref r), c, d, e, g, h] ∧ Grow (rNew H rRow) H H' r ((withLine t l).take i))
      ⟨none, none, none, none, none, rfl, Grow.start nr⟩ (fun i σ H' _ ⟨_, _, _, _, _, _, g⟩ => SqL.of (g.all _ _ hf)) ?_ ?_⟩
    · rintro i z σ H1 hi ⟨c, d, e, gg, hh, rfl, g⟩
      have hi' : i < n := by rw [← el]; exact (List.getElem?_eq_some_iff.mp hi).1
      obtain ⟨_, hz, ra, us, rfl, hra, pra⟩ := Paired.getL fp hi
      rw [hq.row hi'] at hz; cases hz
      rw [pairedO.1 pra] at hra
      refine ⟨Nat.zero_le _, fun p np => ?_⟩
      obtain ⟨row, erow⟩ : ∃ row, (withLine t l)[i]? = some row := ⟨_, getD_some [] (by omega)⟩
      have hrow : row = (List.range n).map fun e => Kv402.less ((t.getD i []).getD e none) (Kv402.less (join3 ((t.getD i []).getD l.a none) l.w (Kv402.at_ t l.b e)) (join3 ((t.getD i []).getD l.b none) l.w (Kv402.at_ t l.a e))) := by
        unfold withLine at erow
        rw [List.getElem?_map, hq.row hi', hq.len] at erow
        exact (Option.some.inj erow).symm
      have rlen : row.length = n := by rw [hrow]; simp
      have sj : ∀ xs, Same H (upd H1 p (.lst xs)) := fun xs => g.all.trans (same_new np)
      obtain ⟨_, _, ba, e1, e2, e3, e4⟩ := tab_row hx hq lb
      cases e1; rw [hf] at e2; cases e2
      obtain ⟨_, _, aa, e1, e2, e5, e6⟩ := tab_row hx hq la
      cases e1; rw [hf] at e2; cases e2
      refine ⟨_, rfl, fa, fvs, rfl, .inl (SqL.of (sj _ _ _ hf)), (fvs.length : Nat), rfl, by omega, by omega,
        for_range (lo := 0) (n := ((fvs.length : Nat) : Int).toNat) (fun j σ H' => (∃ e g h, σ = [some (.ref fa), some (.ref la'), some (.ref r), some (.ref ra), some (.ref p), e, g, h]) ∧ H' = upd H1 p (.lst ((row.take j).map oV))) ?_ ?_ ?_⟩
      · exact ⟨⟨_, _, _, rfl⟩, rfl⟩
      · rintro j σ H' hj ⟨⟨e, gg, hh, rfl⟩, rfl⟩
        have hj' : j < n := by rw [el] at hj; simpa using hj
        refine ⟨_, rfl, _, rfl, la', _, _, _, rfl, rfl, SqT.of (sj _ _ _ hl), rfl, ra, _, _, _, rfl, rfl, SqL.of (sj _ _ _ hra), atI_nat (map_cell (hq.cell hi' la)),
          _, rfl, la', _, _, _, rfl, rfl, SqT.of (sj _ _ _ hl), rfl,
          _, rfl, _, rfl, la', _, _, _, rfl, rfl, SqT.of (sj _ _ _ hl), rfl, fa, fvs, _, _, rfl, rfl, SqL.of (sj _ _ _ hf), atI_nat e3, _, rfl, ba, _, _, _, rfl, rfl, SqL.of (sj _ _ _ e4), atI_z (map_cell (hq.cell lb hj')),
          _, _, _, rfl, ?_⟩
        refine ⟨_, rfl, _, rfl, la', _, _, _, rfl, rfl, SqT.of (sj _ _ _ hl), rfl, ra, _, _, _, rfl, rfl, SqL.of (sj _ _ _ hra), atI_nat (map_cell (hq.cell hi' lb)),
          _, rfl, la', _, _, _, rfl, rfl, SqT.of (sj _ _ _ hl), rfl,
          _, rfl, _, rfl, la', _, _, _, rfl, rfl, SqT.of (sj _ _ _ hl), rfl, fa, fvs, _, _, rfl, rfl, SqL.of (sj _ _ _ hf), atI_nat e5, _, rfl, aa, _, _, _, rfl, rfl, SqL.of (sj _ _ _ e6), atI_z (map_cell (hq.cell la hj')),
          _, _, _, rfl, ?_⟩
        refine ⟨_, rfl, .inl ⟨rfl, _, SqL.of upd_same⟩, _, rfl, _, rfl, ra, _, _, _, rfl, rfl, SqL.of (sj _ _ _ hra), atI_z (map_cell (hq.cell hi' hj')), _, rfl, _, rfl, _, _, rfl, _, _, rfl,
          p, _, _, rfl, rfl, upd_same, ?_, ⟨_, _, _, rfl⟩, ?_⟩
        · rw [List.length_map]; exact size100 (by rw [List.length_take]; omega)
        · have ej : row[j]? = some (Kv402.less ((t.getD i []).getD j none) (Kv402.less (join3 ((t.getD i []).getD l.a none) l.w (Kv402.at_ t l.b j)) (join3 ((t.getD i []).getD l.b none) l.w (Kv402.at_ t l.a j)))) := by
            rw [hrow, List.getElem?_map, List.getElem?_range hj']; rfl
          rw [upd_upd, take_snoc ej, List.map_append]; rfl
      · rintro σ H' ⟨⟨e, gg, hh, rfl⟩, rfl⟩
        obtain ⟨vs, ev, _⟩ := g.items
        have nrp : r ≠ p := ne_of_none ev np
        refine ⟨_, rfl, .inl ⟨rfl, _, SqL.of ((upd_ne nrp).trans ev)⟩, _, rfl, r, vs, _, rfl, rfl, (upd_ne nrp).trans ev, ?_, ?_⟩
        · rw [g.len ev]; exact size100 (by rw [List.length_take]; omega)
        refine ⟨_, _, _, _, _, rfl, ?_⟩
        rw [take_snoc erow]
        refine Grow.push (g.on (stays_new stays_row) (same_new np)) ((upd_ne nrp).trans ev) ⟨p, _, rfl, by rw [new_at (g.all.free np), wo_ne nrp.symm]; exact upd_same, pairedO.2 ?_⟩
        rw [List.take_of_length_le (by rw [el]; simp; omega)]
    · rintro σ H1 ⟨c, d, e, _, _, rfl, g⟩
      refine ⟨_, rfl, q _ _ g.all ?_⟩
      have := new_list g.new (g.done (stays_new stays_row))
      rw [List.take_of_length_le (by omega)] at this
      exact this
end
end Nk
set_option Elab.async false
set_option maxRecDepth 100000
set_option maxHeartbeats 4000000
namespace Nk
open PySem PySem.Spec PyProof.Rows L2
section
variable {P : Program} {w : World} {K : PySem.W.Frag} {mg : Str → Option Value} {base : Heap}

def sp_distances : Sp := fun vs H Q _ => ∃ n s x, vs = [nV n, x] ∧ rLines H x s ∧ n ≤ 100 ∧ (∀ l ∈ s, l.a < n ∧ l.b < n) ∧ ∀ H' v, Same H H' → rTab H' v (distances n s) → Q v H'
theorem k_distances (kn : Kept P w K mg base 1 "no_ways" sp_no_ways) (kw : Kept P w K mg base 2 "with_line" sp_with_line) (D : Here K mg "distances" s_distances ["places", "lines"]) : Kept P w K mg base 3 "distances" sp_distances := by
  refine kept_of D sc_distances (fun vs H Q E h => ?_) (fun f cdv A outer s H vs Q E hr h => ?_)
  · obtain ⟨n, t, x, rfl, _⟩ := h; rfl
  · obtain ⟨n, ls, x, rfl, hx, hn, hb, q⟩ := h
    refine ⟨_, pss_cons (ps_set (i := 2) sc_distances.nd rfl (.inl rfl) (pgo kn hr (pa_cons (pv 0) pa_nil)))
      (pss_cons (ps_for PassesOwn.never rfl (pi_list (pv 1)) (pg_name (i := 3) sc_distances.nd rfl (.inl rfl))
        (pss_one (ps_set (i := 2) sc_distances.nd rfl (.inl rfl) (pgo kw hr (pa_cons (pv 2) (pa_cons (pv 3) pa_nil))))))
      (pss_one (ps_ret (pv 2)))), ?_⟩
    obtain ⟨a, us, rfl, ha, p⟩ := id hx
    refine ⟨_, rfl, n, rfl, hn, fun H1 v1 s1 t1 => ?_⟩
    refine ⟨_, rfl, a, rfl, ⟨_, SqL.of (s1 _ _ ha)⟩, for_list (K := K) (a := a) (xs := us) (fun i σ H' => ∃ v c, σ = [some (nV n), some (.ref a), some v, c] ∧ Same H H' ∧ rTab H' v ((ls.take i).foldl withLine (noWays n)))
      ⟨v1, none, rfl, s1, t1⟩ (fun i σ H' _ ⟨_, _, _, g, _⟩ => SqL.of (g _ _ ha)) ?_ ?_⟩
    · rintro i z σ H2 hi ⟨v, c, rfl, s2, t2⟩
      obtain ⟨l, el, rl⟩ := Paired.getL p hi
      have hl : l ∈ ls := List.mem_of_getElem? el
      refine ⟨_, rfl, _, rfl, n, _, l, _, _, rfl, t2, stays_line _ _ _ _ s2 rl, sq_fold _ _ (sq_mk n _), hn, (hb l hl).1, (hb l hl).2, fun H3 v3 s3 t3 => ?_⟩
      refine ⟨_, _, rfl, s2.trans s3, ?_⟩
      rw [take_snoc el, List.foldl_append]
      exact stays_tab _ _ _ _ (new_sub _ _) t3
    · rintro σ H2 ⟨v, c, rfl, s2, t2⟩
      refine ⟨_, rfl, q _ _ s2 ?_⟩
      rw [Paired.len p, List.take_of_length_le (Nat.le_refl _)] at t2
      exact t2

theorem joins_ends {l : Kv402.Line} {a b : Nat} (h : l.a < l.b) : (decide (l.a = min a b) && decide (l.b = max a b)) = Kv402.ends l a b := by
  unfold Kv402.ends
  rw [Bool.eq_iff_iff]; simp; omega
theorem nV_dec (a b : Nat) : decide (nV a = nV b) = decide (a = b) := by
  unfold nV
  by_cases h : a = b
  · subst h; simp
  · rw [decide_eq_false h, decide_eq_false]
    intro e; cases e; exact h rfl
def sp_joins : Sp := fun vs H Q _ => ∃ l x a b, vs = [x, nV a, nV b] ∧ rLine H x l ∧ l.a < l.b ∧ Q (.bl (Kv402.ends l a b)) H
theorem k_joins (B : Plain mg) (D : Here K mg "joins" s_joins ["line", "a", "b"]) : Kept P w K mg base 1 "joins" sp_joins := by
  refine kept_of D sc_joins (fun vs H Q E h => ?_) (fun f cdv A outer s H vs Q E hr h => ?_)
  · obtain ⟨n, t, x, y, rfl, _⟩ := h; rfl
  · obtain ⟨l, x, a, b, rfl, ⟨p, rfl, hp⟩, hl, q⟩ := h
    refine ⟨_, pss_one (ps_ret (pe_and (pe_cmpR op_eq (pe_ix ix_tup (pv 0) pe_int (fun _ _ => rfl)) (pe_callB (call_min2 rfl) (by rfl) B.min (by decide +kernel) (pa_cons (pv 1) (pa_cons (pv 2) pa_nil))) (nomark _))
      (pe_one (pe_cmpR op_eq (pe_ix ix_tup (pv 0) pe_int (fun _ _ => rfl)) (pe_callB (call_max2 rfl) (by rfl) B.max (by decide +kernel) (pa_cons (pv 1) (pa_cons (pv 2) pa_nil))) (nomark _))))), ?_⟩
    rw [← joins_ends hl] at q
    have e1 : (if ((b : Nat) : Int) < (a : Nat) then ((b : Nat) : Int) else (a : Nat)) = ((min a b : Nat) : Int) := by split <;> omega
    have e2 : (if ((b : Nat) : Int) > (a : Nat) then ((b : Nat) : Int) else (a : Nat)) = ((max a b : Nat) : Int) := by split <;> omega
    refine ⟨_, rfl, p, _, _, _, rfl, rfl, SqT.of hp, rfl, _, rfl, _, rfl, _, _, rfl, ?_⟩
    rw [e1]
    refine ⟨rfl, _, rfl, if2 (fun c => ?_) (fun c => ?_)⟩
    · refine ⟨_, rfl, p, _, _, _, rfl, rfl, SqT.of hp, rfl, _, rfl, _, rfl, _, _, rfl, ?_⟩
      rw [e2]
      refine ⟨rfl, ?_⟩
      have c1 : decide (l.a = min a b) = true := (nV_dec _ _).symm.trans c
      rw [c1, Bool.true_and, ← nV_dec] at q
      exact q
    · have c1 : decide (l.a = min a b) = false := (nV_dec _ _).symm.trans c
      rw [c1, Bool.false_and] at q
      exact q

def sp_length_between : Sp := fun vs H Q _ => ∃ s x a b, vs = [x, nV a, nV b] ∧ rLines H x s ∧ (∀ l ∈ s, l.a < l.b) ∧ Q (oV (lenOf s a b)) H
theorem k_length_between (kj : Kept P w K mg base 1 "joins" sp_joins) (D : Here K mg "length_between" s_length_between ["lines", "a", "b"]) : Kept P w K mg base 2 "length_between" sp_length_between := by
  refine kept_of D sc_length_between (fun vs H Q E h => ?_) (fun f cdv A outer s H vs Q E hr h => ?_)
  · obtain ⟨n, t, x, y, rfl, _⟩ := h; rfl
  · obtain ⟨ls, x, a, b, rfl, ⟨p, us, rfl, hp, pr⟩, hl, q⟩ := h
    refine ⟨_, pss_cons (ps_for PassesOwn.never rfl (pi_list (pv 0)) (pg_name (i := 3) sc_length_between.nd rfl (.inl rfl))
        (pss_one (ps_if (pt_val (pgo kj hr (pa_cons (pv 3) (pa_cons (pv 1) (pa_cons (pv 2) pa_nil))))) (pss_one (ps_ret (pe_ix ix_tup (pv 3) pe_int (fun _ _ => rfl)))) pss_nil)))
      (pss_one (ps_ret pe_non)), ?_⟩
    refine ⟨_, rfl, p, rfl, ⟨_, SqL.of hp⟩, for_list (K := K) (a := p) (xs := us) (fun i σ H' => (∃ c, σ = [some (.ref p), some (nV a), some (nV b), c]) ∧ H' = H ∧ ∀ l ∈ ls.take i, Kv402.ends l a b = false)
      ⟨⟨none, rfl⟩, rfl, by simp⟩ (fun i σ H' _ ⟨_, e, _⟩ => by rw [e]; exact SqL.of hp) ?_ ?_⟩
    · rintro i z σ H2 hi ⟨⟨c, rfl⟩, rfl, hno⟩
      obtain ⟨l, el, rl⟩ := Paired.getL pr hi
      have hm : l ∈ ls := List.mem_of_getElem? el
      refine ⟨_, rfl, _, rfl, _, rfl, l, _, a, b, rfl, rl, hl l hm, _, rfl, if2 (fun c => ?_) (fun c => ?_)⟩
      · obtain ⟨ra, rfl, hra⟩ := rl
        refine ⟨_, rfl, ra, _, _, _, rfl, rfl, SqT.of hra, rfl, ?_⟩
        have e : lenOf ls a b = some l.w := by
          unfold lenOf
          have hs : ls = ls.take i ++ l :: ls.drop (i + 1) := by
            have h1 := (List.getElem?_eq_some_iff.mp el)
            obtain ⟨hlt, e1⟩ := h1
            rw [← e1, ← List.drop_eq_getElem_cons hlt, List.take_append_drop]
          rw [hs, List.find?_append, List.find?_eq_none.2 (fun m hm' => by rw [hno m hm']; exact Bool.false_ne_true), List.find?_cons_of_pos (p := fun l => Kv402.ends l a b) c]
          rfl
        rw [e] at q
        exact q
      · refine ⟨⟨_, rfl⟩, rfl, fun m hm' => ?_⟩
        rw [take_snoc el] at hm'
        rcases List.mem_append.1 hm' with h | h
        · exact hno m h
        · rw [List.mem_singleton.1 h]; exact c
    · rintro σ H2 ⟨⟨c, rfl⟩, rfl, hno⟩
      rw [Paired.len pr, List.take_of_length_le (Nat.le_refl _)] at hno
      have e : lenOf ls a b = none := by
        unfold lenOf
        rw [List.find?_eq_none.2 (fun m hm' => by rw [hno m hm']; exact Bool.false_ne_true)]; rfl
      rw [e] at q
      exact q
end
end Nk
set_option Elab.async false
set_option maxRecDepth 100000
set_option maxHeartbeats 4000000
namespace Nk
open PySem PySem.Spec PyProof.Rows L2
theorem Grow.under {α : Type} {F : Rep α} (hF : Stays F) {H0 H H' : Hp} {r : Addr} {xs : List α} (g : Grow F H0 H r xs) (s : Same H H') : Grow F H0 H' r xs := g.on hF s
/-- the rest is shown later -/
theorem later {T G : Prop} (f : T → G) (b : T) : G := f b
theorem keep_sq {n t : Nat} : ∀ (r : List Kv402.Line) (q : Kv402.Table × List Kv402.Line), Sq n q.1 → Sq n (r.foldl (keepStep t) q).1
  | [], _, h => h
  | l :: r, q, h => keep_sq r _ (by
    unfold keepStep
    split
    · exact sq_with h l
    · split
      · exact sq_with h l
      · exact h)
theorem keep_len {t : Nat} : ∀ (r : List Kv402.Line) (q : Kv402.Table × List Kv402.Line), (r.foldl (keepStep t) q).2.length ≤ q.2.length + r.length
  | [], _ => Nat.le_refl _
  | l :: r, q => by
    have ih := keep_len (t := t) r (keepStep t q l)
    have e : (keepStep t q l).2.length ≤ q.2.length + 1 := by
      unfold keepStep
      split
      · simp
      · split <;> simp
    rw [List.foldl_cons, List.length_cons]; omega
section
variable {P : Program} {w : World} {K : PySem.W.Frag} {mg : Str → Option Value} {base : Heap}

def sp_kept_lines : Sp := fun vs H Q _ => ∃ n s t x, vs = [nV n, x, nV t] ∧ rLines H x s ∧ n ≤ 100 ∧ s.length ≤ 100 ∧ t ≤ 100 ∧ (∀ l ∈ s, l.a < n ∧ l.b < n) ∧ ∀ H' v, Same H H' → rLines H' v (keptLines n s t) → Q v H'
theorem k_kept_lines (kn : Kept P w K mg base 1 "no_ways" sp_no_ways) (kw : Kept P w K mg base 2 "with_line" sp_with_line) (D : Here K mg "kept_lines" s_kept_lines ["places", "lines", "times"]) : Kept P w K mg base 3 "kept_lines" sp_kept_lines := by
  refine kept_of D sc_kept_lines (fun vs H Q E h => ?_) (fun f cdv A outer s H vs Q E hr h => ?_)
  · obtain ⟨n, s, t, x, rfl, _⟩ := h; rfl
  · obtain ⟨n, ls, t, x, rfl, hx, hn, hs, ht, hb, q⟩ := h
    -- places 0, lines 1, times 2, far 3, kept 4, line 5, known 6
    refine ⟨_, pss_cons (ps_set (i := 3) sc_kept_lines.nd rfl (.inl rfl) (pgo kn hr (pa_cons (pv 0) pa_nil)))
      (pss_cons (ps_set (i := 4) sc_kept_lines.nd rfl (.inl rfl) (pe_lst pa_nil))
      (pss_cons (ps_for PassesOwn.never rfl (pi_list (pv 1)) (pg_name (i := 5) sc_kept_lines.nd rfl (.inl rfl))
        (pss_cons (ps_set (i := 6) sc_kept_lines.nd rfl (.inl rfl) (pe_ix ix_list (pe_ix ix_list (pv 3) (pe_ix ix_tup (pv 5) pe_int (fun _ _ => rfl)) (fun _ _ => rfl)) (pe_ix ix_tup (pv 5) pe_int (fun _ _ => rfl)) (fun _ _ => rfl)))
        (pss_one (ps_if (PW.pt (pw_or (pt_cmpR op_isN (pv 6) pe_non (nomark _)) (pw_or1 (pt_cmpR op_gt (pv 6) (pe_op op_mul (pv 2) (pe_ix ix_tup (pv 5) pe_int (fun _ _ => rfl))) (nomark _)))))
          (pss_cons (ps_expr (pe_bm PySem.F.plainAttrs_list PySem.F.slot_list_append PySem.F.type_list_append mt_append (pv 4) (pa_cons (pv 5) pa_nil)))
          (pss_one (ps_set (i := 3) sc_kept_lines.nd rfl (.inl rfl) (pgo kw hr (pa_cons (pv 3) (pa_cons (pv 5) pa_nil)))))) pss_nil))))
      (pss_one (ps_ret (pv 4))))), ?_⟩
    obtain ⟨a, us, rfl, ha, p⟩ := id hx
    refine ⟨_, rfl, n, rfl, hn, fun H1 v1 s1 t1 => ?_⟩
    refine ⟨Nat.zero_le _, fun r nr => ?_⟩
    have nr0 : H r = none := s1.free nr
    refine ⟨_, rfl, a, rfl, ⟨_, SqL.of ((same_new nr) _ _ (s1 _ _ ha))⟩, for_list (K := K) (a := a) (xs := us)
      (fun i σ H' => ∃ v c d, σ = [some (nV n), some (.ref a), some (nV t), some v, some (.ref r), c, d] ∧ Grow rLine H H' r ((ls.take i).foldl (keepStep t) (noWays n, [])).2 ∧ rTab (wo H' r) v ((ls.take i).foldl (keepStep t) (noWays n, [])).1)
      ⟨v1, none, none, rfl, ⟨nr0, by rw [wo_upd]; exact same_wo s1 nr0, [], upd_same, .nil⟩, by rw [wo_upd]; exact stays_tab _ _ _ _ (same_wo (Same.refl _) nr) t1⟩ (fun i σ H' _ ⟨_, _, _, _, g, _⟩ => SqL.of (g.all _ _ ha)) ?_ ?_⟩
    · rintro i z σ H2 hi ⟨v, c, d, rfl, g, t2⟩
      obtain ⟨l, el, rl⟩ := Paired.getL p hi
      have hl : l ∈ ls := List.mem_of_getElem? el
      obtain ⟨hla, hlb⟩ := hb l hl
      have hsq : Sq n ((ls.take i).foldl (keepStep t) (noWays n, [])).1 := keep_sq _ _ (sq_mk n _)
      have hlen : ((ls.take i).foldl (keepStep t) (noWays n, [])).2.length ≤ 99 := by
        have h1 := keep_len (t := t) (ls.take i) (noWays n, [])
        have h2 : i < ls.length := (List.getElem?_eq_some_iff.mp el).1
        rw [List.length_take] at h1
        have : (List.length ([] : List Kv402.Line)) = 0 := rfl
        simp only [List.length_nil] at h1; omega
      have estep : (ls.take (i + 1)).foldl (keepStep t) (noWays n, []) = keepStep t ((ls.take i).foldl (keepStep t) (noWays n, [])) l := by rw [take_snoc el, List.foldl_append]; rfl
      rw [estep]
      generalize (ls.take i).foldl (keepStep t) (noWays n, []) = S at *
      obtain ⟨la, rfl, hla'⟩ := id rl
      have hL2 := g.all _ _ hla'
      obtain ⟨fa, fvs, ra, rfl, hf, hfr, hra⟩ := tab_row (stays_tab _ _ _ _ (wo_same H2 r) t2) hsq hla
      have hcell := hsq.cell hla hlb
      refine ⟨_, rfl, _, rfl, la, _, _, _, rfl, rfl, SqT.of hL2, rfl, fa, fvs, _, _, rfl, rfl, SqL.of hf, atI_nat hfr, _, rfl, la, _, _, _, rfl, rfl, SqT.of hL2, rfl, ra, _, _, _, rfl, rfl, SqL.of hra, atI_nat (map_cell hcell), ?_⟩
      have keeps : Kv402.at_ S.1 l.a l.b = none ∨ (∃ d, Kv402.at_ S.1 l.a l.b = some d ∧ d > t * l.w) → keepStep t S l = (withLine S.1 l, S.2 ++ [l]) := by
        rintro (e | ⟨d, e, hd⟩)
        · show (match Kv402.at_ S.1 l.a l.b with | none => _ | some d => _) = _
          rw [e]
        · show (match Kv402.at_ S.1 l.a l.b with | none => _ | some d => _) = _
          rw [e]; exact if_pos hd
      have drops : (∃ d, Kv402.at_ S.1 l.a l.b = some d ∧ ¬ d > t * l.w) → keepStep t S l = S := by
        rintro ⟨d, e, hd⟩
        show (match Kv402.at_ S.1 l.a l.b with | none => _ | some d => _) = _
        rw [e]; exact if_neg hd
      obtain ⟨vs, ev, _⟩ := g.items
      by_cases hk : Kv402.at_ S.1 l.a l.b = none ∨ (∃ d, Kv402.at_ S.1 l.a l.b = some d ∧ d > t * l.w)
      · rw [keeps hk]
        refine' later ?main ?blk
        case main =>
          intro blk
          rcases id hk with e | ⟨d, e, hd⟩
          · exact ⟨_, rfl, rfl, _, rfl, ifT (by rw [e]; rfl) (iteT blk)⟩
          · refine ⟨_, rfl, rfl, _, rfl, ifF (by rw [e]; rfl) ?_⟩
            refine ⟨_, rfl, _, rfl, _, rfl, la, _, _, _, rfl, rfl, SqT.of hL2, rfl, _, _, rfl, rfl, .inl ⟨?_, ?_⟩, _, _, by rw [e]; rfl, rfl, _, rfl, ifT ?_ blk⟩
            · omega
            · omega
            · exact decide_eq_true (by rw [← Int.natCast_mul]; exact Int.ofNat_lt.2 hd)
        case blk =>
          refine ⟨_, rfl, .inl ⟨rfl, _, SqL.of ev⟩, _, rfl, r, vs, _, rfl, rfl, ev, ?_, ?_⟩
          · rw [g.len ev]; exact size100 (by omega)
          have g3 := g.push ev (x := l) (v := .ref la) ⟨la, rfl, g.same _ _ hla'⟩
          have t3 : rTab (wo (upd H2 r (.lst (vs ++ [.ref la]))) r) (.ref fa) S.1 := by rw [wo_upd]; exact t2
          refine ⟨_, rfl, _, rfl, n, S.1, l, _, _, rfl, stays_tab _ _ _ _ (wo_same _ r) t3, ⟨la, rfl, g3.all _ _ hla'⟩, hsq, hn, hla, hlb, fun H4 v4 s4 t4 => ?_⟩
          exact ⟨v4, _, _, rfl, g3.on stays_line s4, stays_tab _ _ _ _ (new_wo upd_same) t4⟩
      · have hd : ∃ d, Kv402.at_ S.1 l.a l.b = some d ∧ ¬ d > t * l.w := by
          cases e : Kv402.at_ S.1 l.a l.b with
          | none => exact absurd (.inl e) hk
          | some d => exact ⟨d, rfl, fun h => hk (.inr ⟨d, e, h⟩)⟩
        rw [drops hd]
        obtain ⟨d, e, hd⟩ := hd
        refine ⟨_, rfl, rfl, _, rfl, ifF (by rw [e]; rfl) ?_⟩
        refine ⟨_, rfl, _, rfl, _, rfl, la, _, _, _, rfl, rfl, SqT.of hL2, rfl, _, _, rfl, rfl, .inl ⟨?_, ?_⟩, _, _, by rw [e]; rfl, rfl, _, rfl, ifF ?_ ?_⟩
        · omega
        · omega
        · exact decide_eq_false (by rw [← Int.natCast_mul]; exact fun h => hd (Int.ofNat_lt.1 h))
        · exact ⟨_, _, _, rfl, g, t2⟩
    · rintro σ H2 ⟨v, c, d, rfl, g, t2⟩
      refine ⟨_, rfl, q _ _ g.all ?_⟩
      have := g.done stays_line
      rw [Paired.len p, List.take_of_length_le (Nat.le_refl _)] at this
      exact this
end
end Nk
set_option Elab.async false
set_option maxRecDepth 100000
set_option maxHeartbeats 4000000
namespace Nk
open PySem PySem.Spec PyProof.Rows L2
section
variable {P : Program} {w : World} {K : PySem.W.Frag} {mg : Str → Option Value} {base : Heap}

def sp_is_chosen : Sp := fun vs H Q _ => ∃ ch v, vs = [nV ch, nV v] ∧ Q (.bl (Kv404.in_ ch v)) H
theorem k_is_chosen (D : Here K mg "is_chosen" s_is_chosen ["choice", "place"]) : Kept P w K mg base 1 "is_chosen" sp_is_chosen := by
  refine kept_of D sc_is_chosen (fun vs H Q E h => ?_) (fun f cdv A outer s H vs Q E hr h => ?_)
  · obtain ⟨x, y, rfl, _⟩ := h; rfl
  · obtain ⟨ch, v, rfl, q⟩ := h
    refine ⟨_, pss_one (ps_ret (pe_cmpR op_eq (pe_op op_and (pe_op op_shr (pv 0) (pv 1)) pe_int) pe_int (nomark _))), ?_⟩
    refine ⟨_, rfl, _, rfl, _, _, rfl, rfl, by omega, _, _, rfl, rfl, rfl, ?_⟩
    have e : decide (V.int (Builtin.bitAnd ((ch : Int) / 2 ^ ((v : Nat) : Int).toNat) 1) = V.int 1) = Kv404.in_ ch v := by
      rw [bitAnd_m1, Int.toNat_natCast]
      have e1 : ((ch : Int) / 2 ^ v % 2) = ((ch / 2 ^ v % 2 : Nat) : Int) := by
        rw [Int.natCast_emod, Int.natCast_ediv, Int.natCast_pow]; rfl
      rw [e1]
      unfold Kv404.in_
      rw [Bool.eq_iff_iff]
      simp only [decide_eq_true_eq, beq_iff_eq, V.int.injEq]
      omega
    show Q (V.bl (decide (V.int (Builtin.bitAnd ((ch : Int) / 2 ^ ((v : Nat) : Int).toNat) 1) = V.int 1))) H
    rw [e]; exact q

def sp_nearest_chosen : Sp := fun vs H Q _ => ∃ n t ch v x, vs = [x, nV ch, nV v] ∧ rTab H x t ∧ Sq n t ∧ n ≤ 100 ∧ v < n ∧ Q (oV (nearestOf t ch v)) H
theorem nearest_lt {row : List (Option Nat)} {ch n : Nat} : ∀ (l : List Nat) (b : Option Nat), (∀ x ∈ l, x < n) → (∀ c, b = some c → c < n ∧ (row.getD c none).isSome = true) → ∀ c, l.foldl (nearestStep row ch) b = some c → c < n ∧ (row.getD c none).isSome = true := by
  intro l
  induction l with
  | nil => intro b _ hb; exact hb
  | cons x l ih =>
    intro b hl hb
    rw [List.foldl_cons]
    refine ih _ (fun y hy => hl y (List.mem_cons_of_mem _ hy)) ?_
    intro c hc
    unfold nearestStep at hc
    cases e : row.getD x none with
    | none => rw [e] at hc; exact hb c hc
    | some d =>
      rw [e] at hc
      dsimp only at hc
      have hx : x < n ∧ (row.getD x none).isSome = true := ⟨hl x (List.mem_cons_self ..), by rw [e]; rfl⟩
      split at hc
      · cases hbb : b with
        | none => rw [hbb] at hc; cases hc; exact hx
        | some b0 =>
          rw [hbb] at hc
          dsimp only at hc
          split at hc
          · exact hb c (hbb.trans hc)
          · split at hc
            · cases hc; exact hx
            · exact hb c (hbb.trans hc)
      · exact hb c hc
theorem nearest_un (t : Kv402.Table) (ch v : Nat) (Bst : Option Nat) (i : Nat) : nearestStep (t.getD v []) ch Bst i = (match Kv402.at_ t v i with
        | none => Bst
        | some d => if Kv404.in_ ch i then (match Bst with
          | none => some i
          | some b => match Kv402.at_ t v b with
            | none => Bst
            | some e => if d < e then some i else Bst) else Bst) := rfl
theorem k_nearest_chosen (B : Plain mg) (kc : Kept P w K mg base 1 "is_chosen" sp_is_chosen) (D : Here K mg "nearest_chosen" s_nearest_chosen ["far", "choice", "place"]) : Kept P w K mg base 2 "nearest_chosen" sp_nearest_chosen := by
  refine kept_of D sc_nearest_chosen (fun vs H Q E h => ?_) (fun f cdv A outer s H vs Q E hr h => ?_)
  · obtain ⟨n, t, ch, v, x, rfl, _⟩ := h; rfl
  · obtain ⟨n, t, ch, v, x, rfl, hx, hq, hn, hv, q⟩ := h
    -- far 0, choice 1, place 2, best 3, other 4, distance 5
    refine ⟨_, pss_cons (ps_set (i := 3) sc_nearest_chosen.nd rfl (.inl rfl) pe_non)
      (pss_cons (ps_for PassesOwn.never rfl (pi_range1 rfl B.range (pa_cons (pe_callB call_len_seq (by rfl) B.len PySem.boot_len (pa_cons (pv 0) pa_nil)) pa_nil)) (pg_name (i := 4) sc_nearest_chosen.nd rfl (.inl rfl))
        (pss_cons (ps_set (i := 5) sc_nearest_chosen.nd rfl (.inl rfl) (pe_ix ix_list (pe_ix ix_list (pv 0) (pv 2) (fun _ _ => rfl)) (pv 4) (fun _ _ => rfl)))
        (pss_one (ps_if (PW.pt (pw_and (pt_val (pgo kc hr (pa_cons (pv 1) (pa_cons (pv 4) pa_nil)))) (pw_and1 (pt_cmpR op_notN (pv 5) pe_non (nomark _)))))
          (pss_one (ps_if (PW.pt (pw_or (pt_cmpR op_isN (pv 3) pe_non (nomark _)) (pw_or1 (pt_cmpR op_lt (pv 5) (pe_ix ix_list (pe_ix ix_list (pv 0) (pv 2) (fun _ _ => rfl)) (pv 3) (fun _ _ => rfl)) (nomark _)))))
            (pss_one (ps_set (i := 3) sc_nearest_chosen.nd rfl (.inl rfl) (pv 4))) pss_nil)) pss_nil))))
      (pss_one (ps_ret (pv 3)))), ?_⟩
    obtain ⟨fa, fvs, ra, rfl, hf, hfr, hra⟩ := tab_row hx hq hv
    have el : fvs.length = n := by
      obtain ⟨a, vs, e, ha, p⟩ := hx
      cases e; rw [hf] at ha; cases ha
      exact (Paired.len p).trans hq.len
    refine ⟨_, rfl, fa, fvs, rfl, .inl (SqL.of hf), (fvs.length : Nat), rfl, by omega, by omega,
      for_range (lo := 0) (n := ((fvs.length : Nat) : Int).toNat) (fun i σ H' => (∃ c d, σ = [some (.ref fa), some (nV ch), some (nV v), some (oV ((List.range i).foldl (nearestStep (t.getD v []) ch) none)), c, d]) ∧ H' = H) ?_ ?_ ?_⟩
    · exact ⟨⟨_, _, rfl⟩, rfl⟩
    · rintro i σ H' hi ⟨⟨c, d, rfl⟩, rfl⟩
      have hi' : i < n := by rw [el] at hi; simpa using hi
      have hB := nearest_lt (row := t.getD v []) (ch := ch) (n := n) (List.range i) none (fun x hx => by have := List.mem_range.1 hx; omega) (by simp)
      rw [List.range_succ, List.foldl_append, List.foldl_cons, List.foldl_nil, Int.zero_add]
      generalize (List.range i).foldl (nearestStep (t.getD v []) ch) none = Bst at hB ⊢
      have hcell := hq.cell hv hi'
      refine ⟨_, rfl, _, rfl, fa, fvs, _, _, rfl, rfl, SqL.of hf, atI_nat hfr, _, rfl, ra, _, _, _, rfl, rfl, SqL.of hra, atI_nat (map_cell hcell), ?_⟩
      have un := nearest_un t ch v Bst i
      refine ⟨_, rfl, _, rfl, ch, i, rfl, _, rfl, if2 (fun hc => ?_) (fun hc => ?_)⟩
      · refine ⟨_, rfl, rfl, _, rfl, ?_⟩
        cases hd : Kv402.at_ t v i with
        | none =>
          rw [hd] at un
          rw [un]
          exact iteF ⟨⟨_, _, rfl⟩, rfl⟩
        | some d =>
          rw [hd, hc] at un
          refine iteT ?_
          cases hb : Bst with
          | none =>
            subst hb
            rw [show nearestStep (t.getD v []) ch none i = some i from un]
            exact ⟨_, rfl, rfl, _, rfl, iteT (iteT ⟨_, rfl, ⟨_, _, rfl⟩, rfl⟩)⟩
          | some b =>
            obtain ⟨hbn, hbs⟩ := hB b hb
            obtain ⟨e, he⟩ := Option.isSome_iff_exists.1 hbs
            have he' : Kv402.at_ t v b = some e := he
            subst hb
            rw [show nearestStep (t.getD v []) ch (some b) i = if d < e then some i else some b from by rw [un]; simp only [he']; rfl]
            have hcb := hq.cell hv hbn
            rw [he'] at hcb
            refine ⟨_, rfl, rfl, _, rfl, iteF ?_⟩
            refine ⟨_, rfl, _, rfl, _, rfl, fa, fvs, _, _, rfl, rfl, SqL.of hf, atI_nat hfr, _, rfl, ra, _, _, _, rfl, rfl, SqL.of hra, atI_nat (map_cell hcb), _, _, rfl, rfl, _, rfl, if2 (fun h => ?_) (fun h => ?_)⟩
            · rw [if_pos (Int.ofNat_lt.1 (of_decide_eq_true h))]
              exact ⟨_, rfl, ⟨_, _, rfl⟩, rfl⟩
            · rw [if_neg (fun z => of_decide_eq_false h (Int.ofNat_lt.2 z))]
              exact ⟨⟨_, _, rfl⟩, rfl⟩
      · have e : nearestStep (t.getD v []) ch Bst i = Bst := by
          rw [un]
          cases Kv402.at_ t v i with
          | none => rfl
          | some d => rw [hc]; rfl
        rw [e]
        exact iteF ⟨⟨_, _, rfl⟩, rfl⟩
    · rintro σ H' ⟨⟨c, d, rfl⟩, rfl⟩
      have e : ((fvs.length : Nat) : Int).toNat = t.length := by rw [el, hq.len]; simp
      rw [e]
      exact ⟨_, rfl, q⟩
end
end Nk
set_option Elab.async false
set_option maxRecDepth 100000
set_option maxHeartbeats 4000000
namespace Nk
open PySem PySem.Spec PyProof.Rows L2
theorem row_cell {H : Hp} {v : V} {r : List (Option Nat)} (h : rRow H v r) : ∃ a, v = .ref a ∧ H a = some (.lst (r.map oV)) := by
  obtain ⟨a, vs, e, ha, p⟩ := h
  rw [pairedO.1 p] at ha
  exact ⟨a, e, ha⟩
theorem tab_len {H : Hp} {a : Addr} {n : Nat} {t : Kv402.Table} (h : rTab H (.ref a) t) (q : Sq n t) {vs : List V} (ha : H a = some (.lst vs)) : vs.length = n := by
  obtain ⟨b, us, e, hb, p⟩ := h
  cases e; rw [ha] at hb; cases hb
  exact (Paired.len p).trans q.len
section
variable {P : Program} {w : World} {K : PySem.W.Frag} {mg : Str → Option Value} {base : Heap}

def sp_is_near : Sp := fun vs H Q _ => ∃ n t near p o x y, vs = [x, y, nV p, nV o] ∧ rTab H x t ∧ rRow H y near ∧ Sq n t ∧ near.length = n ∧ p < n ∧ o < n ∧ (∀ c, near.getD p none = some c → c < n ∧ (Kv402.at_ t p c).isSome = true) ∧ Q (.bl (isNear t near p o)) H
theorem k_is_near (D : Here K mg "is_near" s_is_near ["far", "nearest", "place", "other"]) : Kept P w K mg base 1 "is_near" sp_is_near := by
  refine kept_of D sc_is_near (fun vs H Q E h => ?_) (fun f cdv A outer s H vs Q E hr h => ?_)
  · obtain ⟨n, t, near, p, o, x, y, rfl, _⟩ := h; rfl
  · obtain ⟨n, t, near, p, o, x, y, rfl, hx, hy, hq, hn, hp, ho, hc, q⟩ := h
    refine ⟨_, pss_cons (ps_if (pt_cmpR op_isN (pe_ix ix_list (pe_ix ix_list (pv 0) (pv 2) (fun _ _ => rfl)) (pv 3) (fun _ _ => rfl)) pe_non (nomark _)) (pss_one (ps_ret pe_bl)) pss_nil)
      (pss_cons (ps_if (pt_cmpR op_isN (pe_ix ix_list (pv 1) (pv 2) (fun _ _ => rfl)) pe_non (nomark _)) (pss_one (ps_ret pe_bl)) pss_nil)
      (pss_one (ps_ret (pe_cmpR op_lt (pe_ix ix_list (pe_ix ix_list (pv 0) (pv 2) (fun _ _ => rfl)) (pv 3) (fun _ _ => rfl))
        (pe_ix ix_list (pe_ix ix_list (pv 0) (pv 2) (fun _ _ => rfl)) (pe_ix ix_list (pv 1) (pv 2) (fun _ _ => rfl)) (fun _ _ => rfl)) (nomark _))))), ?_⟩
    obtain ⟨fa, fvs, ra, rfl, hf, hfr, hra⟩ := tab_row hx hq hp
    obtain ⟨ya, rfl, hya⟩ := row_cell hy
    have hcell := hq.cell hp ho
    have hnear : near[p]? = some (near.getD p none) := getD_some none (by omega)
    unfold isNear at q
    refine ⟨_, rfl, _, rfl, fa, fvs, _, _, rfl, rfl, SqL.of hf, atI_nat hfr, _, rfl, ra, _, _, _, rfl, rfl, SqL.of hra, atI_nat (map_cell hcell), rfl, _, rfl, ?_⟩
    cases hd : Kv402.at_ t p o with
    | none => rw [hd] at q; exact iteT q
    | some d =>
      rw [hd] at q hcell
      refine iteF ⟨_, rfl, _, rfl, ya, _, _, _, rfl, rfl, SqL.of hya, atI_nat (map_cell hnear), rfl, _, rfl, ?_⟩
      cases hm : near.getD p none with
      | none => rw [hm] at q; exact iteT q
      | some c =>
        rw [hm] at q hnear
        obtain ⟨hcn, hcs⟩ := hc c hm
        obtain ⟨e, he⟩ := Option.isSome_iff_exists.1 hcs
        have hcc := hq.cell hp hcn
        rw [he] at hcc
        dsimp only at q
        rw [he] at q
        refine iteF ⟨_, rfl, _, rfl, fa, fvs, _, _, rfl, rfl, SqL.of hf, atI_nat hfr, _, rfl, ra, _, _, _, rfl, rfl, SqL.of hra, atI_nat (map_cell hcell),
          _, rfl, _, rfl, fa, fvs, _, _, rfl, rfl, SqL.of hf, atI_nat hfr, _, rfl, _, rfl, ya, _, _, _, rfl, rfl, SqL.of hya, atI_nat (map_cell hnear), ra, _, _, _, rfl, rfl, SqL.of hra, atI_nat (map_cell hcc), _, _, rfl, rfl, ?_⟩
        have e1 : decide (((d : Nat) : Int) < ((e : Nat) : Int)) = decide (d < e) := by
          by_cases h : d < e
          · rw [decide_eq_true h, decide_eq_true (Int.ofNat_lt.2 h)]
          · rw [decide_eq_false h, decide_eq_false (fun z => h (Int.ofNat_lt.1 z))]
        show Q (V.bl (decide (((d : Nat) : Int) < ((e : Nat) : Int)))) H
        rw [e1]; exact q
end
end Nk
set_option Elab.async false
set_option maxRecDepth 100000
set_option maxHeartbeats 4000000
namespace Nk
open PySem PySem.Spec PyProof.Rows L2
abbrev rInts : Rep (List Nat) := LOf rN
theorem stays_ints : Stays rInts := stays_L stays_N
theorem cut_take (xs : List V) (k : Nat) : cutV xs none (some (k : Int)) = xs.take k := by
  unfold cutV
  rw [HT.sIx_none, HT.sIx_nat, List.drop_zero, Nat.sub_zero]
  rcases Nat.le_total k xs.length with h | h
  · rw [Nat.min_eq_left h]
  · rw [Nat.min_eq_right h, List.take_of_length_le (Nat.le_refl _), List.take_of_length_le h]
/-- a is not None -/
def rNotNo : R2 := fun a b H Q => b = V.non ∧ Q (.bl (!decide (a = V.non))) H
/-- the pair that a value stands for -/
def pairOf (H : Hp) (v : V) : Int × Int := match v with
  | .ref t => match H t with
    | some (.tup [.int i, .int j]) => (i, j)
    | _ => (0, 0)
  | _ => (0, 0)
theorem pairOf_mark {H : Hp} {v : V} {m : Nat × Nat} (h : rMark H v m) : pairOf H v = ((m.1 : Int), (m.2 : Int)) := by
  obtain ⟨a, rfl, ha⟩ := h
  show (match H a with | some (.tup [.int i, .int j]) => (i, j) | _ => (0, 0)) = _
  rw [ha]; rfl
theorem Paired.mem {α β : Type} {F : α → β → Prop} : ∀ {l : List α} {m : List β} {x : α}, Paired F l m → x ∈ l → ∃ y ∈ m, F x y
  | _, _, _, .cons r t, h => by
    rcases List.mem_cons.1 h with rfl | h
    · exact ⟨_, List.mem_cons_self .., r⟩
    · obtain ⟨y, hy, z⟩ := Paired.mem t h
      exact ⟨y, List.mem_cons_of_mem _ hy, z⟩
theorem Paired.map_eq {α β γ : Type} {F : α → β → Prop} {f : α → γ} {g : β → γ} (h : ∀ a b, F a b → f a = g b) : ∀ {l : List α} {m : List β}, Paired F l m → l.map f = m.map g
  | _, _, .nil => rfl
  | _, _, .cons r t => by rw [List.map_cons, List.map_cons, h _ _ r, Paired.map_eq h t]
section
variable {P : Program} {w : World} {K : PySem.W.Frag} {mg : Str → Option Value} {base : Heap}

def sp_k_nearest : Sp := fun vs H Q _ => ∃ n t k v x, vs = [x, nV k, nV v] ∧ rTab H x t ∧ Sq n t ∧ n ≤ 100 ∧ v < n ∧ ∀ H' y, Same H H' → rInts (newOnly H H') y (Kv404.first n t k v) → Q y H'
theorem k_k_nearest (B : Plain mg) (D : Here K mg "k_nearest" s_k_nearest ["far", "k", "place"]) : Kept P w K mg base 1 "k_nearest" sp_k_nearest := by
  refine kept_of D sc_k_nearest (fun vs H Q E h => ?_) (fun f cdv A outer s H vs Q E hr h => ?_)
  · obtain ⟨n, t, k, v, x, rfl, _⟩ := h; rfl
  · obtain ⟨n, t, k, v, x, rfl, hx, hq, hn, hv, q⟩ := h
    -- far 0, k 1, place 2, row 3 (cell), reached 4, other 5, pair 6
    refine ⟨_, pss_cons (ps_set (i := 3) sc_k_nearest.nd rfl (.inr rfl) (pe_ix ix_list (pv 0) (pv 2) (fun _ _ => rfl)))
      (pss_cons (ps_setLc (i := 4) (own := [("other", 5)]) (g := gName 5) (tt := tTest (tOp rNotNo (tOp (rIxL K) (tVar 3) (tVar 5)) (tC .non))) (te := tTup (tCons (tOp (rIxL K) (tVar 3) (tVar 5)) (tCons (tVar 5) tNil))) rfl sc_k_nearest.nd rfl rfl (sw_true rfl rfl rfl (by decide +kernel)) (pi_range1 rfl B.range (pa_cons (pe_callB call_len_seq (by rfl) B.len PySem.boot_len (pa_cons (pv 0) pa_nil)) pa_nil))
          (blkOk_by (N := n_k_nearest) (sc := defScope s_k_nearest) (by decide +kernel)) (fun _ _ _ _ _ => pg_name (i := 5) sc_k_nearest.nd rfl (.inl rfl))
          (fun _ _ _ _ _ => pts_one (pt_cmpR op_notN (pe_ix ix_list (pv 3) (pv 5) (fun _ _ => rfl)) pe_non (nomark _)))
          (fun _ _ _ _ _ => pe_tup (pa_cons (pe_ix ix_list (pv 3) (pv 5) (fun _ _ => rfl)) (pa_cons (pv 5) pa_nil))))
      (pss_one (ps_ret (pe_lc (own := [("pair", 6)]) (g := gName 6) (tt := tYes) (te := tOp (rIxT K) (tVar 6) (tC (.int 1))) rfl sc_k_nearest.nd (pi_list (pe_slice sl_list (pe_callB cr_sortedPO (by rfl) B.sorted (by decide +kernel) (pa_cons (pv 4) pa_nil)) po_none (po_some (pv 1))))
          (blkOk_by (N := n_k_nearest) (sc := defScope s_k_nearest) (by decide +kernel)) (fun _ _ _ _ _ => pg_name (i := 6) sc_k_nearest.nd rfl (.inl rfl)) (fun _ _ _ _ _ => pts_nil)
          (fun _ _ _ _ _ => pe_ix ix_tup (pv 6) pe_int (fun _ _ => rfl)))))), ?_⟩
    obtain ⟨fa, fvs, ra, rfl, hf, hfr, hra⟩ := tab_row hx hq hv
    have el : fvs.length = n := tab_len hx hq hf
    refine ⟨_, rfl, _, rfl, fa, fvs, _, _, rfl, rfl, SqL.of hf, atI_nat hfr, ?_⟩
    refine ⟨_, rfl, fa, fvs, rfl, .inl (SqL.of hf), (fvs.length : Nat), rfl, by omega, by omega, fun D1 n1 => lc_range (lo := 0) (n := ((fvs.length : Nat) : Int).toNat)
      (fun i H' => Grow rMark H H' D1 (((List.range i).filter fun p => (Kv402.at_ t v p).isSome).map fun p => (dOf t v p, p))) (Grow.start n1) ?_ ?_⟩
    · intro i H1 hi g
      have hi' : i < n := by rw [el] at hi; simpa using hi
      rw [Int.zero_add]
      have hcell := hq.cell hv hi'
      refine ⟨rfl, ?_⟩
      refine ⟨_, rfl, _, rfl, ra, _, _, _, rfl, rfl, SqL.of (g.all _ _ hra), atI_nat (map_cell hcell), rfl, _, rfl, ?_⟩
      rw [List.range_succ, List.filter_append, List.map_append]
      cases hd : Kv402.at_ t v i with
      | none =>
        refine iteF ?_
        rw [show ([i].filter fun p => (Kv402.at_ t v p).isSome) = [] from by simp [hd], List.map_nil, List.append_nil]
        exact g
      | some d =>
        rw [hd] at hcell
        refine iteT ?_
        rw [show ([i].filter fun p => (Kv402.at_ t v p).isSome) = [i] from by simp [hd]]
        refine ⟨_, rfl, _, rfl, ra, _, _, _, rfl, rfl, SqL.of (g.all _ _ hra), atI_nat (map_cell hcell), _, rfl, (by show 2 ≤ sizeLine; decide), fun p np => ?_⟩
        obtain ⟨vs, ev, _⟩ := g.items
        have nD : D1 ≠ p := ne_of_none ev np
        refine ⟨vs, (upd_ne nD).trans ev, ?_, ?_⟩
        · rw [g.len ev, List.length_map]
          have := List.length_filter_le (fun p => (Kv402.at_ t v p).isSome) (List.range i)
          rw [List.length_range] at this
          exact size100 (by omega)
        · refine Grow.push (g.on stays_mark (same_new np)) ((upd_ne nD).trans ev) ⟨p, rfl, ?_⟩
          rw [wo_ne nD.symm, upd_same]
          have : dOf t v i = d := by unfold dOf; rw [hd]; rfl
          show some (HO.tup [oV (some d), V.int ↑i]) = some (HO.tup [nV (dOf t v i), nV i])
          rw [this]; rfl
    · intro H1 g
      rw [show ((fvs.length : Nat) : Int).toNat = n by rw [el]; simp] at g
      have hL := g.done stays_mark
      obtain ⟨_, xs, e, hD, hp⟩ := hL
      cases e
      have hk : ∀ x ∈ xs, ∃ p, p ∈ reached n t v ∧ rMark H1 x (dOf t v p, p) := by
        intro x hx
        obtain ⟨y, hy, z⟩ := Paired.mem hp hx
        obtain ⟨p, hp', rfl⟩ := List.mem_map.1 hy
        exact ⟨p, hp', z⟩
      refine ⟨_, rfl, D1, xs, pairOf H1, rfl, SqL.of hD, fun x hx => ?_, fun ys sp srt stb nsp => ?_⟩
      · obtain ⟨p, _, hm⟩ := hk x hx
        rw [pairOf_mark hm]
        obtain ⟨a, rfl, ha⟩ := hm
        exact ⟨a, rfl, ha⟩
      -- the places, arranged
      have hpl : ys.map (fun x => (pairOf H1 x).2.toNat) = Kv404.byDist n t v := by
        refine byDist_unique ?_ ?_
        · have e1 : xs.map (fun x => (pairOf H1 x).2.toNat) = reached n t v := by
            rw [Paired.map_eq (g := fun m : Nat × Nat => m.2) (fun a b h => by rw [pairOf_mark h]; simp) hp, List.map_map]
            exact List.map_id _
          rw [← e1]
          exact stb.perm.map _
        · rw [List.pairwise_map]
          refine List.Pairwise.imp_of_mem (fun {x y} hx hy h => ?_) srt
          obtain ⟨p, _, hm⟩ := hk x (stb.perm.mem_iff.1 hx)
          obtain ⟨p', _, hm'⟩ := hk y (stb.perm.mem_iff.1 hy)
          have h' := SrtO.lexB_no.1 h
          rw [pairOf_mark hm, pairOf_mark hm'] at h' ⊢
          simp only [Int.toNat_natCast]
          unfold Lex
          simp only at h'
          omega
      have hylen : ys.length ≤ 100 := by
        rw [stb.perm.length_eq, Paired.len hp, List.length_map]
        have := List.length_filter_le (fun p => (Kv402.at_ t v p).isSome) (List.range n)
        rw [List.length_range] at this
        omega
      refine ⟨_, rfl, (k : Nat), rfl, sp, ys, rfl, SqL.of upd_same, fun sl nsl => ?_⟩
      rw [cut_take]
      refine ⟨sl, rfl, ⟨_, SqL.of upd_same⟩, fun D2 n2 => ?_⟩
      have s2 : Same H1 (upd (upd H1 sp (.lst ys)) sl (.lst (ys.take k))) := (same_new nsp).trans (same_new nsl)
      generalize hH2 : upd (upd H1 sp (.lst ys)) sl (.lst (ys.take k)) = H2 at n2 s2
      have hsl : H2 sl = some (.lst (ys.take k)) := by rw [← hH2]; exact upd_same
      refine lc_list (K := K) (a := sl) (xs := ys.take k) (fun i H' => H' = upd H2 D2 (.lst (((ys.take k).take i).map fun x => nV (pairOf H1 x).2.toNat))) rfl ?_ ?_ ?_
      · rintro i H' _ rfl
        exact SqL.of ((same_new n2) _ _ hsl)
      · rintro i x H' hx rfl
        have hxm : x ∈ xs := stb.perm.mem_iff.1 (List.mem_of_mem_take (List.mem_of_getElem? hx))
        obtain ⟨p, _, hm⟩ := hk x hxm
        have epp := pairOf_mark hm
        obtain ⟨a, rfl, ha⟩ := id hm
        refine ⟨rfl, _, rfl, a, _, _, _, rfl, rfl, SqT.of ((same_new n2) _ _ (s2 _ _ ha)), rfl, _, upd_same, ?_, ?_⟩
        · rw [List.length_map]
          exact size100 (by rw [List.length_take, List.length_take]; omega)
        · rw [upd_upd, take_snoc hx, List.map_append]
          show upd H2 D2 _ = upd H2 D2 (.lst (_ ++ [nV (pairOf H1 (.ref a)).2.toNat]))
          rw [epp]; simp
      · rintro H' rfl
        refine q _ _ (g.all.trans (s2.trans (same_new n2))) ⟨D2, _, rfl, (new_at ((g.all.trans s2).free n2)).trans upd_same, pairedN.2 ?_⟩
        rw [List.take_of_length_le (Nat.le_refl _)]
        unfold Kv404.first
        rw [← hpl, ← List.map_take, List.map_map]; rfl
end
end Nk
set_option Elab.async false
set_option maxRecDepth 100000
set_option maxHeartbeats 4000000
namespace Nk
open PySem PySem.Spec PyProof.Rows L2
def lcScope : Expr → Scope
  | .ListComp _ _ sc _ => sc
  | _ => { kind := .function, names := [], isGenerator := false, isCoroutine := false }
def asgVal : Stmt → Expr
  | .Assign _ v _ => v
  | _ => .Name "" ⟨0, 0, 0, 0⟩
theorem flat_ints (xs : List Nat) : (xs.map nV).all flatV = true := by
  rw [List.all_eq_true]
  intro x hx
  obtain ⟨n, _, rfl⟩ := List.mem_map.1 hx
  rfl
theorem in_ints (x : Nat) (xs : List Nat) : inV (nV x) (xs.map nV) = xs.contains x := by
  unfold inV
  rw [List.any_map, Bool.eq_iff_iff, List.any_eq_true, List.contains_iff_mem]
  constructor
  · rintro ⟨y, hy, e⟩
    have e' : (((y : Nat) : Int) == ((x : Nat) : Int)) = true := e
    rw [beq_iff_eq] at e'
    have : y = x := by omega
    rw [← this]; exact hy
  · intro h
    exact ⟨x, h, by show (((x : Nat) : Int) == ((x : Nat) : Int)) = true; simp⟩
theorem ints_at {H : Hp} {v : V} {xs : List Nat} (h : rInts H v xs) : ∃ a, v = .ref a ∧ H a = some (.lst (xs.map nV)) := by
  obtain ⟨a, vs, e, ha, p⟩ := h
  rw [pairedN.1 p] at ha
  exact ⟨a, e, ha⟩
/-- the first place of a list's greatest number -/
theorem most_at {n : Nat} {rows : List (List Nat)} {m : Nat} (hm : m ∈ (List.range n).map (cnt rows)) (hle : ∀ y ∈ (List.range n).map (cnt rows), y ≤ m) :
    ∃ w, mostRow n rows = some w ∧ w < n ∧ cnt rows w = m ∧ ∀ j, j < w → cnt rows j ≠ m := by
  have e : ((List.range n).map (cnt rows)).foldl max 0 = m := by
    have h1 := (foldl_max_ge ((List.range n).map (cnt rows)) 0).2 m hm
    rcases foldl_max_mem ((List.range n).map (cnt rows)) 0 with h | h
    · have := hle m hm; omega
    · have := hle _ h; omega
  obtain ⟨w0, hw0, ew0⟩ := List.mem_map.1 hm
  cases hf : mostRow n rows with
  | none =>
    have := List.find?_eq_none.1 hf w0 hw0
    rw [e, ew0] at this; simp at this
  | some w =>
    have hw := List.mem_range.1 (List.mem_of_find?_eq_some hf)
    have ht := List.find?_some hf
    rw [e] at ht
    refine ⟨w, rfl, hw, by simpa using ht, fun j hj => ?_⟩
    unfold mostRow at hf
    rw [e] at hf
    obtain ⟨_, as, bs, h1, h2⟩ := List.find?_eq_some_iff_append.1 hf
    have hlen : as.length = w := by
      have h3 : (List.range n)[as.length]? = some w := by rw [h1, List.getElem?_append_right (Nat.le_refl _)]; simp
      rw [List.getElem?_range (by
        have := congrArg List.length h1
        simp at this; omega)] at h3
      exact Option.some.inj h3
    have hja : as[j]? = some j := by
      have h3 : (List.range n)[j]? = some j := List.getElem?_range (by omega)
      rw [h1, List.getElem?_append_left (by omega)] at h3
      exact h3
    have := h2 j (List.mem_of_getElem? hja)
    simpa using this
section
variable {P : Program} {w : World} {K : PySem.W.Frag} {mg : Str → Option Value} {base : Heap}

def sp_in_most_rows : Sp := fun vs H Q _ => ∃ n rows x, vs = [nV n, x] ∧ LOf rInts H x rows ∧ 1 ≤ n ∧ n ≤ 100 ∧ rows.length ≤ 100 ∧ ∀ w H', mostRow n rows = some w → Same H H' → Q (nV w) H'
theorem k_in_most_rows (B : Plain mg) (D : Here K mg "in_most_rows" s_in_most_rows ["places", "rows"]) : Kept P w K mg base 1 "in_most_rows" sp_in_most_rows := by
  refine kept_of D sc_in_most_rows (fun vs H Q E h => ?_) (fun f cdv A outer s H vs Q E hr h => ?_)
  · obtain ⟨n, rows, x, rfl, _⟩ := h; rfl
  · obtain ⟨n, rows, x, rfl, hx, h1, hn, hR, q⟩ := h
    -- places 0, rows 1 (cell), counts 2, place 3, row 4
    refine ⟨_, pss_cons (ps_setLc (i := 2) (own := [("place", 3)]) (g := gName 3) (tt := tYes)
          (te := tCB (fun xs H Q => ∃ p ys, xs = [.ref p] ∧ (SqL K H p ys ∨ SqT K H p ys) ∧ Q (.int ys.length) H) (tCons (tLc (iList K (tVar 1)) (gName 4) (tTest (tOp (rIn K false) (tVar 3) (tVar 4))) (tVar 4) [4]) tNil))
          rfl sc_in_most_rows.nd rfl rfl (sw_true rfl rfl rfl (by decide +kernel)) (pi_range1 rfl B.range (pa_cons (pv 0) pa_nil))
          (blkOk_by (N := n_in_most_rows) (sc := defScope s_in_most_rows) (by decide +kernel)) (fun _ _ _ _ _ => pg_name (i := 3) sc_in_most_rows.nd rfl (.inr rfl)) (fun _ _ _ _ _ => pts_nil)
          (fun _ _ _ _ _ => pe_callB call_len_seq (by rfl) B.len PySem.boot_len (pa_cons (pe_lc (own := [("row", 4)]) (g := gName 4) rfl sc_in_most_rows.nd (pi_list (pv 1))
            (blkOk_by (N := n_in_most_rows) (sc := { kind := .function, names := [(".0", .local), ("place", .cell), ("len", .globalImplicit), ("rows", .cell)], isGenerator := false, isCoroutine := false }) (by decide +kernel)) (fun _ _ _ _ _ => pg_name (i := 4) sc_in_most_rows.nd rfl (.inl rfl))
            (fun _ _ _ _ _ => pts_one (pt_cmpR op_in_seq (pv 3) (pv 4) (by rfl))) (fun _ _ _ _ _ => pv 4)) pa_nil)))
      (pss_one (ps_ret (pe_bm PySem.F.plainAttrs_list PySem.F.slot_list_index PySem.F.type_list_index mt_index (pv 2) (pa_cons (pe_callB (cr_max rfl) (by rfl) B.max (by decide +kernel) (pa_cons (pv 2) pa_nil)) pa_nil)))), ?_⟩
    obtain ⟨a, us, rfl, ha, hp⟩ := id hx
    refine ⟨_, rfl, (n : Nat), rfl, by omega, by omega, fun D1 n1 => lc_range (lo := 0) (n := ((n : Nat) : Int).toNat) (fun i H' => Grow rN H H' D1 ((List.range i).map (cnt rows))) (Grow.start n1) ?_ ?_⟩
    · intro i H1 hi g
      have hi' : i < n := by simpa using hi
      rw [Int.zero_add]
      refine ⟨rfl, ?_⟩
      have ha1 := g.all _ _ ha
      refine ⟨_, rfl, a, rfl, ⟨_, SqL.of ha1⟩, fun D2 n2 => lc_list (K := K) (a := a) (xs := us) (fun j H' => ∃ acc, H' = upd H1 D2 (.lst acc) ∧ acc.length = cnt (rows.take j) i) ⟨[], rfl, rfl⟩ ?_ ?_ ?_⟩
      · rintro j H' _ ⟨acc, rfl, _⟩
        exact SqL.of ((same_new n2) _ _ ha1)
      · rintro j y H' hy ⟨acc, rfl, hacc⟩
        obtain ⟨row, er, hrow⟩ := Paired.getL hp hy
        obtain ⟨ra, rfl, hra⟩ := ints_at hrow
        have hj : j < rows.length := (List.getElem?_eq_some_iff.mp er).1
        have hc : cnt (rows.take (j + 1)) i = cnt (rows.take j) i + (if row.contains i then 1 else 0) := by
          unfold cnt
          rw [take_snoc er, List.filter_append, List.length_append]
          congr 1
          by_cases h : row.contains i = true
          · rw [if_pos h, List.filter_cons_of_pos (p := fun r : List Nat => r.contains i) h]; rfl
          · rw [if_neg h, List.filter_cons_of_neg (p := fun r : List Nat => r.contains i) h]; rfl
        refine ⟨rfl, _, rfl, _, rfl, ra, _, rfl, .inl (SqL.of ((same_new n2) _ _ (g.all _ _ hra))), rfl, flat_ints _, _, rfl, ?_⟩
        have e : inV (V.int ((i : Nat) : Int)) (row.map nV) = row.contains i := in_ints i row
        show if inV (V.int ((i : Nat) : Int)) (row.map nV) = true then _ else _
        rw [e]
        refine if2 (fun h => ?_) (fun h => ?_)
        · refine ⟨_, rfl, acc, upd_same, ?_, ⟨_, by rw [upd_upd], ?_⟩⟩
          · rw [hacc]
            have := List.length_filter_le (fun r => r.contains i) (rows.take j)
            unfold cnt
            rw [List.length_take] at this
            exact size100 (by omega)
          · rw [hc, if_pos h, List.length_append, hacc]; rfl
        · refine ⟨acc, rfl, ?_⟩
          rw [hc, h, hacc]; rfl
      · rintro H' ⟨acc, rfl, hacc⟩
        rw [Paired.len hp, List.take_of_length_le (Nat.le_refl _)] at hacc
        obtain ⟨vs, ev, _⟩ := g.items
        have nD : D1 ≠ D2 := ne_of_none ev n2
        refine ⟨D2, acc, rfl, .inl (SqL.of upd_same), vs, (upd_ne nD).trans ev, ?_, ?_⟩
        · rw [g.len ev, List.length_map, List.length_range]; exact size100 (by omega)
        · rw [List.range_succ, List.map_append]
          exact Grow.push (g.on stays_N (same_new n2)) ((upd_ne nD).trans ev) (by rw [hacc]; rfl)
    · intro H1 g
      rw [show ((n : Nat) : Int).toNat = n by simp] at g
      obtain ⟨D1', vs, e, hD, hpD⟩ := g.done stays_N
      cases e
      have evs : vs = ((List.range n).map (cnt rows)).map nV := pairedN.1 hpD
      have evi : ((List.range n).map (cnt rows)).map nV = (((List.range n).map (cnt rows)).map Int.ofNat).map V.int := by rw [List.map_map (l := (List.range n).map (cnt rows))]; rfl
      subst evs
      refine ⟨_, rfl, .inl ⟨rfl, _, SqL.of hD⟩, _, rfl, D1, _, rfl, by rw [evi] at hD; exact SqL.of hD, by simp; omega, fun m hm hle => ?_⟩
      obtain ⟨m0, hm0, rfl⟩ := List.mem_map.1 hm
      obtain ⟨w0, ew, hw, hcw, hbefore⟩ := most_at hm0 (fun y hy => by
        have := hle (Int.ofNat y) (List.mem_map.2 ⟨y, hy, rfl⟩)
        exact Int.ofNat_le.1 this)
      refine ⟨D1, _, _, w0, nV m0, rfl, rfl, SqL.of hD, rfl, flat_ints _, ?_, ?_, ?_, q w0 _ ew g.all⟩
      · rw [List.getElem?_map, List.getElem?_map, List.getElem?_range hw]
        show some (nV (cnt rows w0)) = _
        rw [hcw]
      · show (Int.ofNat m0 == Int.ofNat m0) = true
        simp
      · intro j z hj hz
        rw [List.getElem?_map, List.getElem?_map, List.getElem?_range (by omega)] at hz
        have : nV (cnt rows j) = z := Option.some.inj hz
        subst this
        show (Int.ofNat (cnt rows j) == Int.ofNat m0) = false
        have := hbefore j hj
        rw [beq_eq_false_iff_ne]
        intro h
        exact this (Int.ofNat.inj h)
end
end Nk
set_option Elab.async false
set_option maxRecDepth 100000
set_option maxHeartbeats 4000000
namespace Nk
open PySem PySem.Spec PyProof.Rows L2
theorem sq_table (n : Nat) (s : List Kv402.Line) (h : Fine n s) : Sq n (Kv402.table n s) := by
  obtain ⟨g, e, _⟩ := table_least h
  rw [e]; exact sq_mk n g
/-- a value by another name -/
theorem as_V {x y : V} (e : x = y) {F : V → Hp → Prop} {H : Hp} (h : F y H) : F x H := by rw [e]; exact h
/-- the number that the fourth slot holds -/
def chOf (σ : L2.St) : Nat := match σ[3]? with
  | some (some (V.int c)) => c.toNat
  | _ => 0
theorem or_int (ch w : Nat) : Builtin.bitOr ((ch : Nat) : Int) (1 * 2 ^ ((w : Nat) : Int).toNat) = ((ch ||| 2 ^ w : Nat) : Int) := by
  have e : (1 : Int) * 2 ^ ((w : Nat) : Int).toNat = ((2 ^ w : Nat) : Int) := by
    rw [Int.one_mul, Int.toNat_natCast, Int.natCast_pow]; rfl
  rw [e, Bits.bitOr_pp (Int.natCast_nonneg _) (Int.natCast_nonneg _), Int.toNat_natCast, Int.toNat_natCast]
section
variable {P : Program} {w : World} {K : PySem.W.Frag} {mg : Str → Option Value} {base : Heap}

def sp_chosen_by_greed : Sp := fun vs H Q _ => ∃ n s k x, vs = [x, nV k] ∧ rTab H x (Kv402.table n s) ∧ Fine n s ∧ 1 ≤ n ∧ n ≤ 60 ∧ 1 ≤ k ∧ ∀ H', Same H H' → Q (nV (Kv404.greedy n (Kv402.table n s) k n 0)) H'
theorem k_chosen_by_greed (B : Plain mg) (kk : Kept P w K mg base 1 "k_nearest" sp_k_nearest) (km : Kept P w K mg base 1 "in_most_rows" sp_in_most_rows) (D : Here K mg "chosen_by_greed" s_chosen_by_greed ["far", "k"]) :
    Kept P w K mg base 2 "chosen_by_greed" sp_chosen_by_greed := by
  refine kept_of D sc_chosen_by_greed (fun vs H Q E h => ?_) (fun f cdv A outer s H vs Q E hr h => ?_)
  · obtain ⟨n, s, k, x, rfl, _⟩ := h; rfl
  · obtain ⟨n, ls, k, x, rfl, hx, hF, h1, hn, hk, q⟩ := h
    -- far 0 (cell), k 1 (cell), lacking 2, choice 3, best 4 (cell), place 5, row 6
    refine ⟨_, pss_cons (ps_setLc (i := 2) (own := [("place", 5)]) (g := gName 5) (tt := tYes) (te := tCall sp_k_nearest [] E0 (tCons (tVar 0) (tCons (tVar 1) (tCons (tVar 5) tNil))))
          rfl sc_chosen_by_greed.nd rfl rfl (sw_true rfl rfl rfl (by decide +kernel)) (pi_range1 rfl B.range (pa_cons (pe_callB call_len_seq (by rfl) B.len PySem.boot_len (pa_cons (pv 0) pa_nil)) pa_nil))
          (blkOk_by (N := n_chosen_by_greed) (sc := defScope s_chosen_by_greed) (by decide +kernel)) (fun _ _ _ _ _ => pg_name (i := 5) sc_chosen_by_greed.nd rfl (.inl rfl)) (fun _ _ _ _ _ => pts_nil)
          (fun _ _ _ _ _ => pgo kk hr (pa_cons (pv 0) (pa_cons (pv 1) (pa_cons (pv 5) pa_nil)))))
      (pss_cons (ps_set (i := 3) sc_chosen_by_greed.nd rfl (.inl rfl) pe_int)
      (pss_cons (ps_while PassesOwn.never (pt_cmpR op_gt (pe_callB call_len_seq (by rfl) B.len PySem.boot_len (pa_cons (pv 2) pa_nil)) pe_int (nomark _))
        (pss_cons (ps_set (i := 4) sc_chosen_by_greed.nd rfl (.inr rfl) (pgo km hr (pa_cons (pe_callB call_len_seq (by rfl) B.len PySem.boot_len (pa_cons (pv 0) pa_nil)) (pa_cons (pv 2) pa_nil))))
        (pss_cons (ps_set (i := 3) sc_chosen_by_greed.nd rfl (.inl rfl) (pe_op op_or (pv 3) (pe_op op_shl pe_int (pv 4))))
        (pss_one (ps_setLc (i := 2) (own := [("row", 6)]) (g := gName 6) (tt := tTest (tOp (rIn K true) (tVar 4) (tVar 6))) (te := tVar 6) rfl sc_chosen_by_greed.nd rfl rfl (sw_true rfl rfl rfl (by decide +kernel)) (pi_list (pv 2))
          (blkOk_by (N := n_chosen_by_greed) (sc := defScope s_chosen_by_greed) (by decide +kernel)) (fun _ _ _ _ _ => pg_name (i := 6) sc_chosen_by_greed.nd rfl (.inl rfl))
          (fun _ _ _ _ _ => pts_one (pt_cmpR op_notIn_seq (pv 4) (pv 6) (by rfl))) (fun _ _ _ _ _ => pv 6))))))
      (pss_one (ps_ret (pv 3))))), ?_⟩
    have hq : Sq n (Kv402.table n ls) := sq_table n ls hF
    generalize hT : Kv402.table n ls = T at hx hq q
    obtain ⟨fa, fvs, rfl, hf, fp⟩ := id hx
    have el : fvs.length = n := tab_len hx hq hf
    refine ⟨_, rfl, fa, fvs, rfl, .inl (SqL.of hf), (fvs.length : Nat), rfl, by omega, by omega, fun D1 n1 => lc_range (lo := 0) (n := ((fvs.length : Nat) : Int).toNat)
      (fun i H' => Grow rInts H H' D1 ((List.range i).map (Kv404.first n T k))) (Grow.start n1) ?_ ?_⟩
    · intro i H1 hi g
      have hi' : i < n := by rw [el] at hi; simpa using hi
      rw [Int.zero_add]
      obtain ⟨vs, ev, _⟩ := g.items
      -- the rows are made beside the list that grows
      refine ⟨rfl, _, rfl, _, rfl, _, rfl, n, T, k, i, _, rfl, stays_tab _ _ _ _ g.all hx, hq, by omega, hi', fun H2 y s2 hy => ?_⟩
      refine ⟨vs, s2 _ _ ev, ?_, ?_⟩
      · rw [g.len ev, List.length_map, List.length_range]; exact size100 (by omega)
      · rw [List.range_succ, List.map_append]
        exact Grow.push (g.on stays_ints s2) (s2 _ _ ev) (stays_ints _ _ _ _ (new_wo ev) hy)
    · intro H1 g
      rw [show ((fvs.length : Nat) : Int).toNat = n by rw [el]; simp] at g
      refine while_by (fun σ H' => ∃ lv ch f b c d, σ = [some (.ref fa), some (nV k), some lv, some (nV ch), b, c, d] ∧ Same H H' ∧ LOf rInts H' lv ((left n T k ch).map (Kv404.first n T k)) ∧ (left n T k ch).length ≤ f ∧ f ≤ n ∧ Kv404.greedy n T k n 0 = Kv404.greedy n T k f ch)
        (fun σ _ => (left n T k (chOf σ)).length) ?_ ?_ ?_
      · refine ⟨_, 0, n, _, _, _, rfl, g.all, ?_, ?_, Nat.le_refl _, rfl⟩
        · rw [left_zero]; exact g.done stays_ints
        · rw [left_zero]; simp
      · rintro σ H2 ⟨lv, ch, f, b, c, d, rfl, s2, hl, hlen, hfn, hg⟩
        obtain ⟨la, lvs, rfl, hla, lp⟩ := id hl
        have ell : lvs.length = (left n T k ch).length := by rw [Paired.len lp, List.length_map]
        refine ⟨_, rfl, la, lvs, rfl, .inl (SqL.of hla), _, _, rfl, rfl, _, rfl, if2 (fun h => ?_) (fun h => ?_)⟩
        · have hpos : 0 < lvs.length := Int.ofNat_lt.1 (of_decide_eq_true h)
          have hne : left n T k ch ≠ [] := by
            intro e; rw [e] at ell
            have : lvs.length = 0 := ell
            omega
          subst hT
          obtain ⟨w0, ew, hw, er, hl2, hg2⟩ := greed_turn hF hk hne hlen
          refine ⟨_, rfl, fa, fvs, rfl, .inl (SqL.of (s2 _ _ hf)), _, rfl, fvs.length, _, _, rfl, hl, by omega, by omega, ?_, fun w1 H3 ew1 s3 => ?_⟩
          · rw [List.length_map]; omega
          rw [el, ew] at ew1
          cases ew1
          refine ⟨_, rfl, _, rfl, _, _, rfl, rfl, ⟨by omega, by omega, by decide⟩, _, _, rfl, rfl, ?_⟩
          show gName 3 (V.int (Builtin.bitOr ((ch : Nat) : Int) (1 * 2 ^ ((w0 : Nat) : Int).toNat))) _ _ _
          rw [or_int]
          have hl3 := stays_L stays_ints _ _ _ _ s3 hl
          obtain ⟨_, _, e, hla3, lp3⟩ := id hl3
          cases e
          rw [s3 _ _ hla] at hla3; cases hla3
          refine ⟨_, rfl, la, rfl, ⟨_, SqL.of (s3 _ _ hla)⟩, fun D2 n2 => lc_list (K := K) (a := la) (xs := lvs)
            (fun j H' => Grow rInts H3 H' D2 ((((left n (Kv402.table n ls) k ch).map (Kv404.first n (Kv402.table n ls) k)).take j).filter fun r => !r.contains w0)) (Grow.start n2) ?_ ?_ ?_⟩
          · intro j H' _ g
            exact SqL.of (g.all _ _ (s3 _ _ hla))
          · intro j y H' hy g
            obtain ⟨row, erow, hrow⟩ := Paired.getL lp3 hy
            obtain ⟨ra, rfl, hra⟩ := ints_at hrow
            refine ⟨rfl, _, rfl, _, rfl, ra, _, rfl, .inl (SqL.of (g.all _ _ hra)), rfl, flat_ints _, _, rfl, ?_⟩
            have e : (!inV (nV w0) (row.map nV)) = !row.contains w0 := by rw [in_ints]
            show if (!inV (nV w0) (row.map nV)) = true then _ else _
            rw [e, take_snoc erow, List.filter_append]
            refine if2 (fun h => ?_) (fun h => ?_)
            · rw [List.filter_cons_of_pos (p := fun r : List Nat => !r.contains w0) h]
              obtain ⟨vs, ev, _⟩ := g.items
              refine ⟨_, rfl, vs, ev, ?_, ?_⟩
              · rw [g.len ev]
                have h1 := List.length_filter_le (fun r : List Nat => !r.contains w0) (((left n (Kv402.table n ls) k ch).map (Kv404.first n (Kv402.table n ls) k)).take j)
                rw [List.length_take, List.length_map] at h1
                exact size100 (by omega)
              · exact Grow.push g ev (stays_ints _ _ _ _ g.same hrow)
            · rw [List.filter_cons_of_neg (p := fun r : List Nat => !r.contains w0) (by rw [h]; exact Bool.false_ne_true)]
              rw [List.filter_nil, List.append_nil]
              exact g
          · intro H4 g4
            rw [Paired.len lp3, List.take_of_length_le (Nat.le_refl _), er] at g4
            refine ⟨⟨_, _, f - 1, _, _, _, rfl, s2.trans (s3.trans g4.all), g4.done stays_ints, hl2, by omega, hg.trans hg2⟩, ?_⟩
            show (left n (Kv402.table n ls) k (((ch ||| 2 ^ w0 : Nat) : Int)).toNat).length < (left n (Kv402.table n ls) k (((ch : Nat) : Int)).toNat).length
            rw [Int.toNat_natCast, Int.toNat_natCast]
            obtain ⟨w2, ew2, _, _, v, hv, hwv⟩ := most_some hF hk hne
            rw [ew] at ew2; cases ew2
            exact left_less hv hwv
        · have hz : lvs.length = 0 := by
            have := of_decide_eq_false h
            omega
          have hnil : left n T k ch = [] := List.length_eq_zero_iff.1 (by omega)
          rw [greedy_end n k f ch T hnil] at hg
          refine ⟨_, rfl, ?_⟩
          rw [← hg]
          exact q _ s2
      · rintro σ H2 Q1 Q2 hQ ⟨v, hv, p, ys, e, hs, i, j, e1, e2, b, e3, qq⟩
        exact ⟨v, hv, p, ys, e, hs, i, j, e1, e2, b, e3, hQ _ _ qq⟩
end
end Nk
set_option Elab.async false
set_option maxRecDepth 100000
set_option maxHeartbeats 4000000
namespace Nk
open PySem PySem.Spec PyProof.Rows L2
/-- what's told, mark by mark -/
def tellIn (x : Nat × Nat) (s : Option Nat) (y : Nat × Nat) : Option Nat := if x.1 = y.1 then Kv402.less s (some (x.2 + y.2)) else s
def tellOut (m : List (Nat × Nat)) (s : Option Nat) (x : Nat × Nat) : Option Nat := m.foldl (tellIn x) s
theorem told_un (l m : List (Nat × Nat)) : Kv403.told l m = l.foldl (tellOut m) none := rfl
theorem scal_o (x y : Option Nat) : scal (oV x) (oV y) = true := by cases x <;> cases y <;> rfl
theorem oV_dec (x y : Option Nat) : decide (oV x = oV y) = decide (x = y) := by
  cases x with
  | none => cases y with
    | none => rfl
    | some y => rfl
  | some x => cases y with
    | none => rfl
    | some y =>
      show decide (nV x = nV y) = _
      rw [nV_dec]
      by_cases h : x = y
      · subst h; simp
      · rw [decide_eq_false h, decide_eq_false (by simpa using h)]
/-- one item of a list -/
theorem l_item {α : Type} {F : Rep α} {H : Hp} {v : V} {xs : List α} (h : LOf F H v xs) {i : Nat} {x : α} (e : xs[i]? = some x) : ∃ a vs y, v = .ref a ∧ H a = some (.lst vs) ∧ vs[i]? = some y ∧ F H y x := by
  obtain ⟨a, vs, rfl, ha, p⟩ := h
  obtain ⟨y, hy, z⟩ := Paired.get p e
  exact ⟨a, vs, y, rfl, ha, hy, z⟩
section
variable {P : Program} {w : World} {K : PySem.W.Frag} {mg : Str → Option Value} {base : Heap}

def sp_told_by_marks : Sp := fun vs H Q _ => ∃ m u v x, vs = [x, nV u, nV v] ∧ rMarks H x m ∧ u < m.length ∧ v < m.length ∧ Q (oV (Kv403.told (m.getD u []) (m.getD v []))) H
theorem k_told_by_marks (kl : Kept P w K mg base 1 "lesser" sp_lesser) (D : Here K mg "told_by_marks" s_told_by_marks ["marks", "u", "v"]) : Kept P w K mg base 2 "told_by_marks" sp_told_by_marks := by
  refine kept_of D sc_told_by_marks (fun vs H Q E h => ?_) (fun f cdv A outer s H vs Q E hr h => ?_)
  · obtain ⟨m, u, v, x, rfl, _⟩ := h; rfl
  · obtain ⟨m, u, v, x, rfl, hx, hu, hv, q⟩ := h
    -- marks 0, u 1, v 2, least 3, mark 4, other 5
    refine ⟨_, pss_cons (ps_set (i := 3) sc_told_by_marks.nd rfl (.inl rfl) pe_non)
      (pss_cons (ps_for PassesOwn.never rfl (pi_list (pe_ix ix_list (pv 0) (pv 1) (fun _ _ => rfl))) (pg_name (i := 4) sc_told_by_marks.nd rfl (.inl rfl))
        (pss_one (ps_for PassesOwn.never rfl (pi_list (pe_ix ix_list (pv 0) (pv 2) (fun _ _ => rfl))) (pg_name (i := 5) sc_told_by_marks.nd rfl (.inl rfl))
          (pss_one (ps_if (pt_cmpR op_eq (pe_ix ix_tup (pv 4) pe_int (fun _ _ => rfl)) (pe_ix ix_tup (pv 5) pe_int (fun _ _ => rfl)) (nomark _))
            (pss_one (ps_set (i := 3) sc_told_by_marks.nd rfl (.inl rfl) (pgo kl hr (pa_cons (pv 3) (pa_cons (pe_op op_add (pe_ix ix_tup (pv 4) pe_int (fun _ _ => rfl)) (pe_ix ix_tup (pv 5) pe_int (fun _ _ => rfl))) pa_nil))))) pss_nil)))))
      (pss_one (ps_ret (pv 3)))), ?_⟩
    obtain ⟨a, vs, yu, rfl, ha, hyu, fu⟩ := l_item hx (getD_some [] hu)
    obtain ⟨_, _, yv, e, ha', hyv, fv⟩ := l_item hx (getD_some [] hv)
    cases e; rw [ha] at ha'; cases ha'
    obtain ⟨ua, us, rfl, hua, pu⟩ := fu
    obtain ⟨va, ws, rfl, hva, pw⟩ := fv
    rw [told_un] at q
    generalize m.getD u [] = mu at pu q
    generalize m.getD v [] = mv at pw q
    refine ⟨_, rfl, _, rfl, a, vs, _, _, rfl, rfl, SqL.of ha, atI_nat hyu, ua, rfl, ⟨_, SqL.of hua⟩, for_list (K := K) (a := ua) (xs := us)
      (fun i σ H' => (∃ c d, σ = [some (.ref a), some (nV u), some (nV v), some (oV ((mu.take i).foldl (tellOut mv) none)), c, d]) ∧ H' = H)
      ⟨⟨_, _, rfl⟩, rfl⟩ (fun i σ H' _ ⟨_, e⟩ => by rw [e]; exact SqL.of hua) ?_ ?_⟩
    · rintro i y σ H' hy ⟨⟨c, d, rfl⟩, rfl⟩
      obtain ⟨x1, e1, x1a, rfl, hx1⟩ := Paired.getL pu hy
      rw [take_snoc e1, List.foldl_append, List.foldl_cons, List.foldl_nil]
      generalize (mu.take i).foldl (tellOut mv) none = S
      unfold tellOut
      refine ⟨_, rfl, _, rfl, a, vs, _, _, rfl, rfl, SqL.of ha, atI_nat hyv, va, rfl, ⟨_, SqL.of hva⟩, for_list (K := K) (a := va) (xs := ws)
        (fun j σ H1 => (∃ d, σ = [some (.ref a), some (nV u), some (nV v), some (oV ((mv.take j).foldl (tellIn x1) S)), some (.ref x1a), d]) ∧ H1 = H')
        ⟨⟨_, rfl⟩, rfl⟩ (fun i σ H' _ ⟨_, e⟩ => by rw [e]; exact SqL.of hva) ?_ ?_⟩
      · rintro j y2 σ H1 hy2 ⟨⟨d, rfl⟩, rfl⟩
        obtain ⟨x2, e2, x2a, rfl, hx2⟩ := Paired.getL pw hy2
        rw [take_snoc e2, List.foldl_append, List.foldl_cons, List.foldl_nil]
        generalize (mv.take j).foldl (tellIn x1) S = S2
        unfold tellIn
        refine ⟨_, rfl, x1a, _, _, _, rfl, rfl, SqT.of hx1, rfl, _, rfl, x2a, _, _, _, rfl, rfl, SqT.of hx2, rfl, rfl, _, rfl, if2 (fun h => ?_) (fun h => ?_)⟩
        · have he : x1.1 = x2.1 := of_decide_eq_true ((nV_dec _ _).symm.trans h)
          rw [if_pos he]
          exact ⟨_, rfl, _, rfl, x1a, _, _, _, rfl, rfl, SqT.of hx1, rfl, _, rfl, x2a, _, _, _, rfl, rfl, SqT.of hx2, rfl, _, _, rfl, rfl, S2, some (x1.2 + x2.2), rfl, ⟨_, rfl⟩, rfl⟩
        · have he : ¬ x1.1 = x2.1 := of_decide_eq_false ((nV_dec _ _).symm.trans h)
          rw [if_neg he]
          exact ⟨⟨_, rfl⟩, rfl⟩
      · rintro σ H1 ⟨⟨d, rfl⟩, rfl⟩
        rw [Paired.len pw, List.take_of_length_le (Nat.le_refl _)]
        exact ⟨⟨_, _, rfl⟩, rfl⟩
    · rintro σ H' ⟨⟨c, d, rfl⟩, rfl⟩
      rw [Paired.len pu, List.take_of_length_le (Nat.le_refl _)]
      exact ⟨_, rfl, q⟩

def sp_places_to_mark : Sp := fun vs H Q _ => ∃ n t m k x y, vs = [x, y, nV k] ∧ rTab H x t ∧ rMarks H y m ∧ Sq n t ∧ n ≤ 100 ∧ m.length = n ∧ k < n ∧ ∀ H' z, Same H H' → rInts (newOnly H H') z (toMark t m k) → Q z H'
theorem k_places_to_mark (B : Plain mg) (kt : Kept P w K mg base 2 "told_by_marks" sp_told_by_marks) (D : Here K mg "places_to_mark" s_places_to_mark ["far", "marks", "marker"]) : Kept P w K mg base 3 "places_to_mark" sp_places_to_mark := by
  refine kept_of D sc_places_to_mark (fun vs H Q E h => ?_) (fun f cdv A outer s H vs Q E hr h => ?_)
  · obtain ⟨n, t, m, k, x, y, rfl, _⟩ := h; rfl
  · obtain ⟨n, t, m, k, x, y, rfl, hx, hy, hq, hn, hm, hk, q⟩ := h
    -- far 0, marks 1, marker 2, row 3, reached 4, place 5; cells: marks, marker, row
    refine ⟨_, pss_cons (ps_set (i := 3) sc_places_to_mark.nd rfl (.inr rfl) (pe_ix ix_list (pv 0) (pv 2) (fun _ _ => rfl)))
      (pss_cons (ps_setLc (i := 4) (own := [("place", 5)]) (g := gName 5) (tt := tTest (tOp rNotNo (tOp (rIxL K) (tVar 3) (tVar 5)) (tC .non))) (te := tVar 5) rfl sc_places_to_mark.nd rfl rfl (sw_true rfl rfl rfl (by decide +kernel)) (pi_range1 rfl B.range (pa_cons (pe_callB call_len_seq (by rfl) B.len PySem.boot_len (pa_cons (pv 0) pa_nil)) pa_nil))
          (blkOk_by (N := n_places_to_mark) (sc := defScope s_places_to_mark) (by decide +kernel)) (fun _ _ _ _ _ => pg_name (i := 5) sc_places_to_mark.nd rfl (.inl rfl))
          (fun _ _ _ _ _ => pts_one (pt_cmpR op_notN (pe_ix ix_list (pv 3) (pv 5) (fun _ _ => rfl)) pe_non (nomark _))) (fun _ _ _ _ _ => pv 5))
      (pss_one (ps_ret (pe_lc (own := [("place", 5)]) (g := gName 5) (tt := tTest (tOp rNe (tCall sp_told_by_marks [] E0 (tCons (tVar 1) (tCons (tVar 2) (tCons (tVar 5) tNil)))) (tOp (rIxL K) (tVar 3) (tVar 5)))) (te := tVar 5) rfl sc_places_to_mark.nd (pi_list (pv 4))
          (blkOk_by (N := n_places_to_mark) (sc := defScope s_places_to_mark) (by decide +kernel)) (fun _ _ _ _ _ => pg_name (i := 5) sc_places_to_mark.nd rfl (.inl rfl))
          (fun _ _ _ _ _ => pts_one (pt_cmpR op_ne (pgo kt hr (pa_cons (pv 1) (pa_cons (pv 2) (pa_cons (pv 5) pa_nil)))) (pe_ix ix_list (pv 3) (pv 5) (fun _ _ => rfl)) (nomark _)))
          (fun _ _ _ _ _ => pv 5))))), ?_⟩
    obtain ⟨fa, fvs, ra, rfl, hf, hfr, hra⟩ := tab_row hx hq hk
    have el : fvs.length = n := tab_len hx hq hf
    refine ⟨_, rfl, _, rfl, fa, fvs, _, _, rfl, rfl, SqL.of hf, atI_nat hfr, ?_⟩
    refine ⟨_, rfl, fa, fvs, rfl, .inl (SqL.of hf), (fvs.length : Nat), rfl, by omega, by omega, fun D1 n1 => lc_range (lo := 0) (n := ((fvs.length : Nat) : Int).toNat)
      (fun i H' => H' = upd H D1 (.lst (((List.range i).filter fun p => (Kv402.at_ t k p).isSome).map nV))) rfl ?_ ?_⟩
    · rintro i H' hi rfl
      have hi' : i < n := by rw [el] at hi; simpa using hi
      rw [Int.zero_add, List.range_succ, List.filter_append, List.map_append]
      have hcell := hq.cell hk hi'
      refine ⟨rfl, _, rfl, _, rfl, ra, _, _, _, rfl, rfl, SqL.of ((same_new n1) _ _ hra), atI_nat (map_cell hcell), rfl, _, rfl, ?_⟩
      cases hd : Kv402.at_ t k i with
      | none =>
        rw [show ([i].filter fun p => (Kv402.at_ t k p).isSome) = [] from by simp [hd], List.map_nil, List.append_nil]
        exact iteF rfl
      | some d =>
        rw [show ([i].filter fun p => (Kv402.at_ t k p).isSome) = [i] from by simp [hd]]
        refine iteT ⟨_, rfl, _, upd_same, ?_, by rw [upd_upd]; rfl⟩
        rw [List.length_map]
        have := List.length_filter_le (fun p => (Kv402.at_ t k p).isSome) (List.range i)
        rw [List.length_range] at this
        exact size100 (by omega)
    · rintro H' rfl
      rw [show ((fvs.length : Nat) : Int).toNat = n by rw [el]; simp]
      generalize hR : (List.range n).filter (fun p => (Kv402.at_ t k p).isSome) = R
      have hRl : R.length ≤ n := by
        rw [← hR]
        have := List.length_filter_le (fun p => (Kv402.at_ t k p).isSome) (List.range n)
        rw [List.length_range] at this; exact this
      generalize hH1 : upd H D1 (.lst (R.map nV)) = H1
      have s1 : Same H H1 := by rw [← hH1]; exact same_new n1
      have hD1 : H1 D1 = some (.lst (R.map nV)) := by rw [← hH1]; exact upd_same
      refine ⟨_, rfl, D1, rfl, ⟨_, SqL.of hD1⟩, fun D2 n2 => lc_list (K := K) (a := D1) (xs := R.map nV) (fun i H' => H' = upd H1 D2 (.lst (((R.take i).filter fun p => decide (Kv403.told (m.getD k []) (m.getD p []) ≠ Kv402.at_ t k p)).map nV))) rfl ?_ ?_ ?_⟩
      · rintro i H' _ rfl
        exact SqL.of ((same_new n2) _ _ hD1)
      · rintro i y' H' hy' rfl
        obtain ⟨p, ep, rfl⟩ : ∃ p, R[i]? = some p ∧ y' = nV p := by
          rw [List.getElem?_map] at hy'
          cases e : R[i]? with
          | none => rw [e] at hy'; cases hy'
          | some p => rw [e] at hy'; exact ⟨p, rfl, (Option.some.inj hy').symm⟩
        have hp : p < n := by
          have := List.mem_of_getElem? ep
          rw [← hR] at this
          exact List.mem_range.1 (List.mem_filter.1 this).1
        rw [take_snoc ep, List.filter_append, List.map_append]
        have s2 : ∀ xs, Same H (upd H1 D2 (.lst xs)) := fun xs => s1.trans (same_new n2)
        refine ⟨rfl, _, rfl, _, rfl, _, rfl, m, k, p, _, rfl, stays_marks _ _ _ _ (s2 _) hy, by omega, by omega, _, rfl, _, rfl, ra, _, _, _, rfl, rfl, SqL.of (s2 _ _ _ hra), atI_nat (map_cell (hq.cell hk hp)), ?_, _, rfl, ?_⟩
        · exact scal_o _ _
        · show if (!decide (oV (Kv403.told (m.getD k []) (m.getD p [])) = oV (Kv402.at_ t k p))) = true then _ else _
          rw [oV_dec]
          refine if2 (fun h => ?_) (fun h => ?_)
          · have h' : decide (Kv403.told (m.getD k []) (m.getD p []) ≠ Kv402.at_ t k p) = true := by simpa using h
            rw [List.filter_cons_of_pos (p := fun p => decide (Kv403.told (m.getD k []) (m.getD p []) ≠ Kv402.at_ t k p)) h']
            refine ⟨_, rfl, _, upd_same, ?_, by rw [upd_upd]; rfl⟩
            rw [List.length_map]
            have h1 := List.length_filter_le (fun p => decide (Kv403.told (m.getD k []) (m.getD p []) ≠ Kv402.at_ t k p)) (R.take i)
            rw [List.length_take] at h1
            exact size100 (by omega)
          · have h' : ¬ decide (Kv403.told (m.getD k []) (m.getD p []) ≠ Kv402.at_ t k p) = true := by simpa using h
            rw [List.filter_cons_of_neg (p := fun p => decide (Kv403.told (m.getD k []) (m.getD p []) ≠ Kv402.at_ t k p)) h', List.filter_nil, List.map_nil, List.append_nil]
      · rintro H' rfl
        refine q _ _ (s1.trans (same_new n2)) ⟨D2, _, rfl, (new_at (s1.free n2)).trans upd_same, pairedN.2 ?_⟩
        rw [List.length_map, List.take_of_length_le (Nat.le_refl _)]
        unfold toMark
        rw [hq.len, hR]
end
end Nk
set_option Elab.async false
set_option maxRecDepth 100000
set_option maxHeartbeats 4000000
namespace Nk
open PySem PySem.Spec PyProof.Rows L2
/-! ## a heap without some objects -/
def wol (H : Hp) (l : List Addr) : Hp := fun b => if b ∈ l then none else H b
theorem wol_in {H : Hp} {l : List Addr} {b : Addr} (h : b ∈ l) : wol H l b = none := by unfold wol; rw [if_pos h]
theorem wol_out {H : Hp} {l : List Addr} {b : Addr} (h : b ∉ l) : wol H l b = H b := by unfold wol; rw [if_neg h]
theorem wol_same (H : Hp) (l : List Addr) : Same (wol H l) H := fun b o e => by
  by_cases h : b ∈ l
  · rw [wol_in h] at e; cases e
  · rw [wol_out h] at e; exact e
theorem wol_mono {H H' : Hp} {l : List Addr} (s : Same H H') : Same (wol H l) (wol H' l) := fun b o e => by
  by_cases h : b ∈ l
  · rw [wol_in h] at e; cases e
  · rw [wol_out h] at e ⊢; exact s _ _ e
theorem wol_upd_in {H : Hp} {l : List Addr} {a : Addr} {o : HO} (h : a ∈ l) : wol (upd H a o) l = wol H l := by
  funext b
  by_cases hb : b ∈ l
  · rw [wol_in hb, wol_in hb]
  · rw [wol_out hb, wol_out hb, upd_ne (show b ≠ a from fun e => hb (e ▸ h))]
theorem wol_upd_out {H : Hp} {l : List Addr} {a : Addr} {o : HO} (h : a ∉ l) : wol (upd H a o) l = upd (wol H l) a o := by
  funext b
  by_cases hb : b ∈ l
  · rw [wol_in hb, upd_ne (show b ≠ a from fun e => h (e ▸ hb)), wol_in hb]
  · rw [wol_out hb]
    by_cases e : b = a
    · subst e; rw [upd_same, upd_same]
    · rw [upd_ne e, upd_ne e, wol_out hb]
theorem same_wol {H H' : Hp} {l : List Addr} (s : Same H H') (n : ∀ a ∈ l, H a = none) : Same H (wol H' l) := fun b o e => by
  have : b ∉ l := fun h => by rw [n b h] at e; cases e
  rw [wol_out this]; exact s _ _ e
theorem new_wol {H0 H : Hp} {l : List Addr} (h : ∀ a ∈ l, ∃ o, H0 a = some o) : Same (newOnly H0 H) (wol H l) := fun b u e => by
  have : b ∉ l := fun hb => by
    obtain ⟨o, ho⟩ := h b hb
    rw [new_no ho] at e; cases e
  rw [wol_out this]; exact new_sub _ _ _ _ e

/-- at D the marks' list; its items at rs, which grow; all else stays -/
structure MIn (H0 H : Hp) (D : Addr) (rs : List Addr) (m : Kv403.Marks) : Prop where
  top : H D = some (.lst (rs.map V.ref))
  nd : rs.Nodup
  nD : D ∉ rs
  len : rs.length = m.length
  same : Same H0 (wol H (D :: rs))
  row : ∀ v r, rs[v]? = some r → ∃ us, H r = some (.lst us) ∧ Paired (rMark (wol H (D :: rs))) us (m.getD v [])
theorem MIn.all {H0 H D rs m} (g : MIn H0 H D rs m) : Same H0 H := g.same.trans (wol_same _ _)
theorem MIn.on {H0 H H' D rs m} (g : MIn H0 H D rs m) (s : Same H H') : MIn H0 H' D rs m :=
  ⟨s _ _ g.top, g.nd, g.nD, g.len, g.same.trans (wol_mono s), fun v r h => by
    obtain ⟨us, e, p⟩ := g.row v r h
    exact ⟨us, s _ _ e, Paired.mono (fun _ _ q => stays_mark _ _ _ _ (wol_mono s) q) p⟩⟩
theorem MIn.rebase {H0 H D rs m} (g : MIn H0 H D rs m) : MIn (wol H (D :: rs)) H D rs m := ⟨g.top, g.nd, g.nD, g.len, Same.refl _, g.row⟩
theorem MIn.has {H0 H D rs m} (g : MIn H0 H D rs m) : ∀ a ∈ D :: rs, ∃ o, H a = some o := fun a h => by
  rcases List.mem_cons.1 h with rfl | h
  · exact ⟨_, g.top⟩
  · obtain ⟨i, hi⟩ := List.getElem?_of_mem h
    obtain ⟨us, e, _⟩ := g.row i a hi
    exact ⟨_, e⟩
theorem MIn.out {H0 H D rs m} (g : MIn H0 H D rs m) {p : Addr} (n : H p = none) : p ∉ D :: rs := fun h => by
  obtain ⟨o, e⟩ := g.has p h
  rw [n] at e; cases e
theorem MIn.done {H0 H D rs m} (g : MIn H0 H D rs m) : rMarks H (.ref D) m := by
  refine ⟨D, _, rfl, g.top, ?_⟩
  have key : ∀ (l : List Addr) (m' : Kv403.Marks), l.length = m'.length → (∀ v r, l[v]? = some r → ∃ us, H r = some (.lst us) ∧ Paired (rMark (wol H (D :: rs))) us (m'.getD v [])) → Paired (LOf rMark H) (l.map V.ref) m' := by
    intro l
    induction l with
    | nil => intro m' e _; cases m' with
      | nil => exact .nil
      | cons _ _ => cases e
    | cons r l ih => intro m' e h; cases m' with
      | nil => cases e
      | cons x m' =>
        refine .cons ?_ (ih m' (Nat.succ.inj e) (fun v r' hr => ?_))
        · obtain ⟨us, e1, p⟩ := h 0 r rfl
          exact ⟨r, us, rfl, e1, Paired.mono (fun _ _ q => stays_mark _ _ _ _ (wol_same _ _) q) p⟩
        · exact h (v + 1) r' hr
  exact key rs m g.len g.row
/-- a new list at the end -/
theorem MIn.snoc {H0 H D rs m} (g : MIn H0 H D rs m) {p : Addr} (n : H p = none) : MIn H0 (upd (upd H p (.lst [])) D (.lst (rs.map V.ref ++ [.ref p]))) D (rs ++ [p]) (m ++ [[]]) := by
  have hp := g.out n
  have hpD : p ≠ D := fun e => hp (e ▸ List.mem_cons_self ..)
  have hpr : p ∉ rs := fun h => hp (List.mem_cons_of_mem _ h)
  have same : Same (wol H (D :: rs)) (wol (upd (upd H p (.lst [])) D (.lst (rs.map V.ref ++ [.ref p]))) (D :: (rs ++ [p]))) := fun b o e => by
    have hb : b ∉ D :: rs := fun h => by rw [wol_in h] at e; cases e
    rw [wol_out hb] at e
    have hbp : b ≠ p := fun z => by rw [z, n] at e; cases e
    have hb2 : b ∉ D :: (rs ++ [p]) := fun h => by
      rcases List.mem_cons.1 h with rfl | h
      · exact hb (List.mem_cons_self ..)
      · rcases List.mem_append.1 h with h | h
        · exact hb (List.mem_cons_of_mem _ h)
        · exact hbp (List.mem_singleton.1 h)
    rw [wol_out hb2, upd_ne (show b ≠ D from fun z => hb (z ▸ List.mem_cons_self ..)), upd_ne hbp]; exact e
  refine ⟨by rw [upd_same, List.map_append]; rfl, ?_, ?_, by simp [g.len], g.same.trans same, ?_⟩
  · rw [List.nodup_append]
    exact ⟨g.nd, by simp, fun a ha b hb => by rw [List.mem_singleton.1 hb]; exact fun e => hpr (e ▸ ha)⟩
  · intro h
    rcases List.mem_append.1 h with h | h
    · exact g.nD h
    · exact hpD (List.mem_singleton.1 h).symm
  · intro v r hr
    by_cases hv : v < rs.length
    · rw [List.getElem?_append_left hv] at hr
      obtain ⟨us, e, pr⟩ := g.row v r hr
      have hrm : r ∈ rs := List.mem_of_getElem? hr
      refine ⟨us, ?_, ?_⟩
      · rw [upd_ne (show r ≠ D from fun z => g.nD (z ▸ hrm)), upd_ne (show r ≠ p from fun z => hpr (z ▸ hrm))]; exact e
      · have : (m ++ [[]]).getD v [] = m.getD v [] := by
          rw [List.getD_eq_getElem?_getD, List.getD_eq_getElem?_getD, List.getElem?_append_left (by rw [← g.len]; exact hv)]
        rw [this]
        exact Paired.mono (fun _ _ q => stays_mark _ _ _ _ same q) pr
    · rw [List.getElem?_append_right (by omega)] at hr
      have hv0 : v - rs.length = 0 := by
        by_cases z : v - rs.length = 0
        · exact z
        · rw [List.getElem?_eq_none (by simp; omega)] at hr; cases hr
      rw [hv0] at hr
      have hr' : p = r := Option.some.inj hr
      subst hr'
      refine ⟨[], by rw [upd_ne hpD, upd_same], ?_⟩
      have : (m ++ [[]]).getD v [] = [] := by
        rw [List.getD_eq_getElem?_getD, List.getElem?_append_right (by rw [← g.len]; omega), ← g.len, hv0]; rfl
      rw [this]; exact .nil
/-- one mark more -/
theorem MIn.mark {H0 H D rs m} (g : MIn H0 H D rs m) {far : Kv402.Table} {k d p : Nat} {r q : Addr} {us : List V} (hr : rs[p]? = some r) (e : H r = some (.lst us)) (nq : H q = none) (hd : Kv402.at_ far k p = some d) :
    MIn H0 (upd (upd H q (.tup [nV k, nV d])) r (.lst (us ++ [.ref q]))) D rs (markAt far k m p) := by
  have hq := g.out nq
  have hrm : r ∈ rs := List.mem_of_getElem? hr
  have hrD : r ≠ D := fun z => g.nD (z ▸ hrm)
  have hqr : q ≠ r := fun z => hq (z ▸ List.mem_cons_of_mem _ hrm)
  have hpl : p < m.length := by rw [← g.len]; exact (List.getElem?_eq_some_iff.mp hr).1
  have ew : wol (upd (upd H q (.tup [nV k, nV d])) r (.lst (us ++ [.ref q]))) (D :: rs) = upd (wol H (D :: rs)) q (.tup [nV k, nV d]) := by
    rw [wol_upd_in (List.mem_cons_of_mem _ hrm), wol_upd_out hq]
  have same : Same (wol H (D :: rs)) (upd (wol H (D :: rs)) q (.tup [nV k, nV d])) := same_new (by
    cases z : wol H (D :: rs) q with
    | none => rfl
    | some o => have := wol_same _ _ _ _ z; rw [nq] at this; cases this)
  refine ⟨?_, g.nd, g.nD, by rw [g.len]; simp [markAt], by rw [ew]; exact g.same.trans same, ?_⟩
  · rw [upd_ne (show D ≠ r from fun z => hrD z.symm), upd_ne (show D ≠ q from fun z => hq (z ▸ List.mem_cons_self ..))]; exact g.top
  · intro v r' hr'
    rw [ew]
    obtain ⟨us', e', pr⟩ := g.row v r' hr'
    have pr' := Paired.mono (fun _ _ z => stays_mark _ _ _ _ same z) pr
    by_cases hv : v = p
    · subst hv
      rw [hr] at hr'; cases hr'
      rw [e] at e'; cases e'
      refine ⟨_, upd_same, ?_⟩
      have : (markAt far k m v).getD v [] = m.getD v [] ++ [(k, d)] := by
        unfold markAt
        rw [List.getD_eq_getElem?_getD, List.getElem?_set_self hpl, hd]; rfl
      rw [this]
      exact Paired.snoc pr' ⟨q, rfl, upd_same⟩
    · have hrr : r' ≠ r := fun z => by
        subst z
        have h1 := (List.getElem?_eq_some_iff.mp hr)
        have h2 := (List.getElem?_eq_some_iff.mp hr')
        exact hv ((List.getElem_inj (h₀ := h2.1) (h₁ := h1.1) g.nd).1 (h2.2.trans h1.2.symm))
      have hrq : r' ≠ q := fun z => hq (z ▸ List.mem_cons_of_mem _ (List.mem_of_getElem? hr'))
      refine ⟨us', by rw [upd_ne hrr, upd_ne hrq]; exact e', ?_⟩
      have : (markAt far k m p).getD v [] = m.getD v [] := by
        unfold markAt
        rw [List.getD_eq_getElem?_getD, List.getElem?_set_ne (fun z => hv z.symm), ← List.getD_eq_getElem?_getD]
      rw [this]; exact pr'
theorem markAt_len {far : Kv402.Table} {k p : Nat} {m : Kv403.Marks} (v : Nat) : ((markAt far k m p).getD v []).length ≤ (m.getD v []).length + 1 := by
  unfold markAt
  by_cases h : p = v
  · subst h
    by_cases hl : p < m.length
    · rw [List.getD_eq_getElem?_getD, List.getElem?_set_self hl]; simp
    · rw [List.set_eq_of_length_le (by omega)]; omega
  · rw [List.getD_eq_getElem?_getD, List.getElem?_set_ne h, ← List.getD_eq_getElem?_getD]; omega
end Nk
set_option Elab.async false
set_option maxRecDepth 100000
set_option maxHeartbeats 4000000
namespace Nk
open PySem PySem.Spec PyProof.Rows L2
theorem size10k {n : Nat} (h : n ≤ 20000) : n < sizeLine := Nat.lt_of_le_of_lt h (by decide)
def markTurn (t : Kv402.Table) (m : Kv403.Marks) (k : Nat) : Kv403.Marks := (toMark t m k).foldl (markAt t k) m
theorem marksOf_un (t : Kv402.Table) (o : List Nat) : marksOf t o = o.foldl (markTurn t) (List.replicate t.length []) := rfl
theorem markAt_size {far k m p} : (markAt far k m p).length = m.length := by simp [markAt]
theorem markAts_size {far : Kv402.Table} {k : Nat} : ∀ (l : List Nat) (m : Kv403.Marks), (l.foldl (markAt far k) m).length = m.length
  | [], _ => rfl
  | p :: l, m => by rw [List.foldl_cons, markAts_size l]; exact markAt_size
theorem turns_size {t : Kv402.Table} : ∀ (o : List Nat) (m : Kv403.Marks), (o.foldl (markTurn t) m).length = m.length
  | [], _ => rfl
  | k :: o, m => by rw [List.foldl_cons, turns_size o]; exact markAts_size _ _
theorem markAts_len {far : Kv402.Table} {k v : Nat} : ∀ (l : List Nat) (m : Kv403.Marks), ((l.foldl (markAt far k) m).getD v []).length ≤ (m.getD v []).length + l.length
  | [], _ => Nat.le_refl _
  | p :: l, m => by
    rw [List.foldl_cons, List.length_cons]
    have h1 := markAts_len (far := far) (k := k) (v := v) l (markAt far k m p)
    have h2 := markAt_len (far := far) (k := k) (p := p) (m := m) v
    omega
theorem toMark_len (t : Kv402.Table) (m : Kv403.Marks) (k : Nat) : (toMark t m k).length ≤ t.length := by
  unfold toMark
  have h1 := List.length_filter_le (fun p => decide (Kv403.told (m.getD k []) (m.getD p []) ≠ Kv402.at_ t k p)) ((List.range t.length).filter fun p => (Kv402.at_ t k p).isSome)
  have h2 := List.length_filter_le (fun p => (Kv402.at_ t k p).isSome) (List.range t.length)
  rw [List.length_range] at h2; omega
theorem turns_len {t : Kv402.Table} {v : Nat} : ∀ (o : List Nat) (m : Kv403.Marks), ((o.foldl (markTurn t) m).getD v []).length ≤ (m.getD v []).length + o.length * t.length
  | [], _ => by simp
  | k :: o, m => by
    rw [List.foldl_cons, List.length_cons, Nat.add_mul, Nat.one_mul]
    have h1 := turns_len (t := t) (v := v) o (markTurn t m k)
    have h2 := markAts_len (far := t) (k := k) (v := v) (toMark t m k) m
    have h3 := toMark_len t m k
    have : ((markTurn t m k).getD v []).length ≤ (m.getD v []).length + (toMark t m k).length := h2
    omega
theorem toMark_mem {t : Kv402.Table} {m : Kv403.Marks} {k p : Nat} (h : p ∈ toMark t m k) : p < t.length ∧ ∃ d, Kv402.at_ t k p = some d := by
  unfold toMark at h
  have h1 := (List.mem_filter.1 (List.mem_filter.1 h).1)
  exact ⟨List.mem_range.1 h1.1, Option.isSome_iff_exists.1 h1.2⟩
section
variable {P : Program} {w : World} {K : PySem.W.Frag} {mg : Str → Option Value} {base : Heap}

def sp_marks_in_order : Sp := fun vs H Q _ => ∃ n t o x y, vs = [x, y] ∧ rTab H x t ∧ rInts H y o ∧ Sq n t ∧ n ≤ 100 ∧ o.length ≤ 100 ∧ (∀ k ∈ o, k < n) ∧ ∀ H' z, Same H H' → rMarks H' z (marksOf t o) → Q z H'
theorem k_marks_in_order (B : Plain mg) (kp : Kept P w K mg base 3 "places_to_mark" sp_places_to_mark) (D : Here K mg "marks_in_order" s_marks_in_order ["far", "order"]) : Kept P w K mg base 4 "marks_in_order" sp_marks_in_order := by
  refine kept_of D sc_marks_in_order (fun vs H Q E h => ?_) (fun f cdv A outer s H vs Q E hr h => ?_)
  · obtain ⟨n, t, o, x, y, rfl, _⟩ := h; rfl
  · obtain ⟨n, t, o, x, y, rfl, hx, hy, hq, hn, ho, hk, q⟩ := h
    -- far 0, order 1, place 2, marks 3, marker 4
    refine ⟨_, pss_cons (ps_setLc (i := 3) (own := [("place", 2)]) (g := gName 2) (tt := tYes) (te := tLst tNil) rfl sc_marks_in_order.nd rfl rfl (sw_true rfl rfl rfl (by decide +kernel)) (pi_range1 rfl B.range (pa_cons (pe_callB call_len_seq (by rfl) B.len PySem.boot_len (pa_cons (pv 0) pa_nil)) pa_nil))
          (blkOk_by (N := n_marks_in_order) (sc := defScope s_marks_in_order) (by decide +kernel)) (fun _ _ _ _ _ => pg_name (i := 2) sc_marks_in_order.nd rfl (.inl rfl)) (fun _ _ _ _ _ => pts_nil) (fun _ _ _ _ _ => pe_lst pa_nil))
      (pss_cons (ps_for PassesOwn.never rfl (pi_list (pv 1)) (pg_name (i := 4) sc_marks_in_order.nd rfl (.inl rfl))
        (pss_one (ps_for PassesOwn.never rfl (pi_list (pgo kp hr (pa_cons (pv 0) (pa_cons (pv 3) (pa_cons (pv 4) pa_nil))))) (pg_name (i := 2) sc_marks_in_order.nd rfl (.inl rfl))
          (pss_one (ps_expr (pe_bm PySem.F.plainAttrs_list PySem.F.slot_list_append PySem.F.type_list_append mt_append (pe_ix ix_list (pv 3) (pv 2) (fun _ _ => rfl))
            (pa_cons (pe_tup (pa_cons (pv 4) (pa_cons (pe_ix ix_list (pe_ix ix_list (pv 0) (pv 4) (fun _ _ => rfl)) (pv 2) (fun _ _ => rfl)) pa_nil))) pa_nil)))))))
      (pss_one (ps_ret (pv 3)))), ?_⟩
    obtain ⟨fa, fvs, rfl, hf, fp⟩ := id hx
    have el : fvs.length = n := tab_len hx hq hf
    obtain ⟨oa, rfl, hoa⟩ := ints_at hy
    refine ⟨_, rfl, fa, fvs, rfl, .inl (SqL.of hf), (fvs.length : Nat), rfl, by omega, by omega, fun D1 n1 => lc_range (lo := 0) (n := ((fvs.length : Nat) : Int).toNat)
      (fun i H' => ∃ rs, MIn H H' D1 rs (List.replicate i [])) ?_ ?_ ?_⟩
    · refine ⟨[], upd_same, .nil, by simp, rfl, ?_, by simp⟩
      rw [wol_upd_in (List.mem_cons_self ..)]
      exact same_wol (Same.refl H) (fun a ha => by rw [List.mem_singleton.1 ha]; exact n1)
    · rintro i H1 hi ⟨rs, g⟩
      have hi' : i < n := by rw [el] at hi; simpa using hi
      refine ⟨rfl, Nat.zero_le _, fun p np => ⟨rs.map V.ref, ?_, ?_, rs ++ [p], ?_⟩⟩
      · rw [upd_ne (show D1 ≠ p from ne_of_none g.top np)]; exact g.top
      · rw [List.length_map, g.len, List.length_replicate]; exact size100 (by omega)
      · rw [List.replicate_succ']
        exact g.snoc np
    · rintro H1 ⟨rs, g⟩
      rw [show ((fvs.length : Nat) : Int).toNat = n by rw [el]; simp] at g
      rw [marksOf_un, hq.len] at q
      refine ⟨_, rfl, oa, rfl, ⟨_, SqL.of (g.all _ _ hoa)⟩, for_list (K := K) (a := oa) (xs := o.map nV)
        (fun i σ H' => (∃ c d, σ = [some (.ref fa), some (.ref oa), c, some (.ref D1), d]) ∧ MIn H H' D1 rs ((o.take i).foldl (markTurn t) (List.replicate n [])))
        ⟨⟨_, _, rfl⟩, g⟩ (fun i σ H' _ ⟨_, g⟩ => SqL.of (g.all _ _ hoa)) ?_ ?_⟩
      · rintro i y σ H2 hy' ⟨⟨c, d, rfl⟩, g2⟩
        obtain ⟨k, ek, rfl⟩ : ∃ k, o[i]? = some k ∧ y = nV k := by
          rw [List.getElem?_map] at hy'
          cases e : o[i]? with
          | none => rw [e] at hy'; cases hy'
          | some p => rw [e] at hy'; exact ⟨p, rfl, (Option.some.inj hy').symm⟩
        have hkn : k < n := hk k (List.mem_of_getElem? ek)
        have hio : i < o.length := (List.getElem?_eq_some_iff.mp ek).1
        rw [take_snoc ek, List.foldl_append, List.foldl_cons, List.foldl_nil]
        have hml : ((o.take i).foldl (markTurn t) (List.replicate n [])).length = n := by rw [turns_size, List.length_replicate]
        have hrow : ∀ v, (((o.take i).foldl (markTurn t) (List.replicate n [])).getD v []).length ≤ 10000 := by
          intro v
          have h1 := turns_len (t := t) (v := v) (o.take i) (List.replicate n [])
          have h2 : ((List.replicate n ([] : List (Nat × Nat))).getD v []).length = 0 := by
            rw [List.getD_eq_getElem?_getD, List.getElem?_replicate]; split <;> rfl
          have h3 : (o.take i).length * t.length ≤ 100 * 100 := Nat.mul_le_mul (by rw [List.length_take]; omega) (by rw [hq.len]; exact hn)
          have h4 : ((List.foldl (markTurn t) (List.replicate n []) (List.take i o)).getD v []).length ≤ ((List.replicate n ([] : List (Nat × Nat))).getD v []).length + (List.take i o).length * t.length := h1
          omega
        generalize (o.take i).foldl (markTurn t) (List.replicate n []) = m at g2 hml hrow
        refine ⟨_, rfl, _, rfl, _, rfl, n, t, m, k, _, _, rfl, stays_tab _ _ _ _ g2.all hx, g2.done, hq, hn, hml, hkn, fun H3 z s3 hz => ?_⟩
        have g3 := g2.on s3
        obtain ⟨za, rfl, hza⟩ := ints_at hz
        have hzc := new_wol (H := H3) g2.has _ _ hza
        have gb := g3.rebase
        have hfc : Same H (wol H3 (D1 :: rs)) := g3.same
        obtain ⟨_, _, ra, e1, hf2, hfr, hra⟩ := tab_row hx hq hkn
        cases e1; rw [hf] at hf2; cases hf2
        refine ⟨za, rfl, ⟨_, SqL.of (wol_same _ _ _ _ hzc)⟩, for_list (K := K) (a := za) (xs := (toMark t m k).map nV)
          (fun j σ H' => (∃ c, σ = [some (.ref fa), some (.ref oa), c, some (.ref D1), some (nV k)]) ∧ MIn (wol H3 (D1 :: rs)) H' D1 rs (((toMark t m k).take j).foldl (markAt t k) m))
          ⟨⟨_, rfl⟩, gb⟩ (fun i σ H' _ ⟨_, g⟩ => SqL.of (g.all _ _ hzc)) ?_ ?_⟩
        · rintro j y σ H4 hy4 ⟨⟨c, rfl⟩, g4⟩
          obtain ⟨p, ep, rfl⟩ : ∃ p, (toMark t m k)[j]? = some p ∧ y = nV p := by
            rw [List.getElem?_map] at hy4
            cases e : (toMark t m k)[j]? with
            | none => rw [e] at hy4; cases hy4
            | some p => rw [e] at hy4; exact ⟨p, rfl, (Option.some.inj hy4).symm⟩
          obtain ⟨hpl, d, hd⟩ := toMark_mem (List.mem_of_getElem? ep)
          rw [hq.len] at hpl
          have hjl : j < (toMark t m k).length := (List.getElem?_eq_some_iff.mp ep).1
          have htl := toMark_len t m k
          rw [hq.len] at htl
          rw [take_snoc ep, List.foldl_append, List.foldl_cons, List.foldl_nil]
          have hrow2 := markAts_len (far := t) (k := k) (v := p) ((toMark t m k).take j) m
          have hml2 : (((toMark t m k).take j).foldl (markAt t k) m).length = n := by rw [markAts_size]; exact hml
          have hmp := hrow p
          generalize ((toMark t m k).take j).foldl (markAt t k) m = m2 at g4 hrow2 hml2
          obtain ⟨r, er⟩ : ∃ r, rs[p]? = some r := ⟨_, List.getElem?_eq_getElem (by rw [g4.len, hml2]; exact hpl)⟩
          obtain ⟨us, eus, pus⟩ := g4.row p r er
          have s4 : Same H H4 := hfc.trans g4.all
          have hcell := hq.cell hkn hpl
          rw [hd] at hcell
          have er' : (rs.map V.ref)[p]? = some (.ref r) := by rw [List.getElem?_map, er]; rfl
          refine ⟨_, rfl, _, rfl, D1, _, _, _, rfl, rfl, SqL.of g4.top, atI_nat er', .inl ⟨rfl, _, SqL.of eus⟩, _, rfl, _, rfl, _, rfl, fa, fvs, _, _, rfl, rfl, SqL.of (s4 _ _ hf), atI_nat hfr, _, rfl, ra, _, _, _, rfl, rfl, SqL.of (s4 _ _ hra), atI_nat (map_cell hcell), (by show 2 ≤ sizeLine; decide), fun tq ntq => ?_⟩
          have hrq : r ≠ tq := ne_of_none eus ntq
          refine ⟨r, us, _, rfl, rfl, (upd_ne hrq).trans eus, ?_, ⟨_, rfl⟩, g4.mark er eus ntq hd⟩
          rw [Paired.len pus]
          rw [List.length_take] at hrow2
          exact size10k (by omega)
        · rintro σ H4 ⟨⟨c, rfl⟩, g4⟩
          rw [List.length_map, List.take_of_length_le (Nat.le_refl _)] at g4
          exact ⟨⟨_, _, rfl⟩, g4.top, g4.nd, g4.nD, g4.len, hfc.trans g4.same, g4.row⟩
      · rintro σ H2 ⟨⟨c, d, rfl⟩, g2⟩
        rw [List.length_map, List.take_of_length_le (Nat.le_refl _)] at g2
        exact ⟨_, rfl, q _ _ g2.all g2.done⟩
end
end Nk
set_option Elab.async false
set_option maxRecDepth 100000
set_option maxHeartbeats 4000000
namespace Nk
open PySem PySem.Spec PyProof.Rows L2
/-- whether one goes on to x -/
def onTest (far : Kv402.Table) (base : List Kv402.Line) (u v x : Nat) : Bool := match lenOf base u x with
  | none => false
  | some w => Kv402.plus (some w) (Kv402.at_ far x v) == Kv402.at_ far u v
theorem onward_un (far : Kv402.Table) (base : List Kv402.Line) (u v : Nat) : onward far base u v = (List.range far.length).find? (onTest far base u v) := rfl
theorem onTest_none {far : Kv402.Table} {base : List Kv402.Line} {u v x : Nat} (h : lenOf base u x = none) : onTest far base u v x = false := by unfold onTest; rw [h]
theorem onTest_some {far : Kv402.Table} {base : List Kv402.Line} {u v x w : Nat} (h : lenOf base u x = some w) : onTest far base u v x = (Kv402.plus (some w) (Kv402.at_ far x v) == Kv402.at_ far u v) := by unfold onTest; rw [h]
theorem find_none_upto {p : Nat → Bool} {n : Nat} (h : ∀ j, j < n → p j = false) : (List.range n).find? p = none := by
  rw [List.find?_eq_none]
  intro x hx
  rw [h x (List.mem_range.1 hx)]; exact Bool.false_ne_true
theorem find_first {p : Nat → Bool} {n i : Nat} (hi : i < n) (hp : p i = true) (h : ∀ j, j < i → p j = false) : (List.range n).find? p = some i := by
  obtain ⟨k, rfl⟩ : ∃ k, n = i + (k + 1) := ⟨n - i - 1, by omega⟩
  rw [List.range_add, List.find?_append, find_none_upto h, List.range_succ_eq_map]
  simp only [List.map_cons, Nat.add_zero, Option.none_or]
  rw [List.find?_cons_of_pos (p := p) hp]
section
variable {P : Program} {w : World} {K : PySem.W.Frag} {mg : Str → Option Value} {base : Heap}

def sp_onward : Sp := fun vs H Q _ => ∃ n s u v d x y, vs = [x, y, nV u, nV v] ∧ rTab H x (Kv402.table n s) ∧ rLines H y s ∧ Fine n s ∧ n ≤ 100 ∧ u < n ∧ v < n ∧ Kv402.at_ (Kv402.table n s) u v = some d ∧ Q (oV ((Kv402.Net.mk n s).step (Kv402.table n s) u v)) H
theorem k_onward (B : Plain mg) (kl : Kept P w K mg base 2 "length_between" sp_length_between) (D : Here K mg "onward" s_onward ["far", "base", "start", "end"]) : Kept P w K mg base 3 "onward" sp_onward := by
  refine kept_of D sc_onward (fun vs H Q E h => ?_) (fun f cdv A outer s H vs Q E hr h => ?_)
  · obtain ⟨n, s, u, v, d, x, y, rfl, _⟩ := h; rfl
  · obtain ⟨n, ls, u, v, d, x, y, rfl, hx, hy, hF, hn, hu, hv, hd, q⟩ := h
    rw [← onward_eq hF hd] at q
    -- far 0, base 1, start 2, end 3, beside 4, length 5
    refine ⟨_, pss_cons (ps_for PassesOwn.never rfl (pi_range1 rfl B.range (pa_cons (pe_callB call_len_seq (by rfl) B.len PySem.boot_len (pa_cons (pv 0) pa_nil)) pa_nil)) (pg_name (i := 4) sc_onward.nd rfl (.inl rfl))
        (pss_cons (ps_set (i := 5) sc_onward.nd rfl (.inl rfl) (pgo kl hr (pa_cons (pv 1) (pa_cons (pv 2) (pa_cons (pv 4) pa_nil)))))
        (pss_one (ps_if (PW.pt (pw_and (pt_cmpR op_notN (pv 5) pe_non (nomark _)) (pw_and1 (pt_cmpR op_eq (pe_op op_add (pv 5) (pe_ix ix_list (pe_ix ix_list (pv 0) (pv 4) (fun _ _ => rfl)) (pv 3) (fun _ _ => rfl)))
            (pe_ix ix_list (pe_ix ix_list (pv 0) (pv 2) (fun _ _ => rfl)) (pv 3) (fun _ _ => rfl)) (nomark _))))) (pss_one (ps_ret (pv 4))) pss_nil))))
      (pss_one (ps_ret pe_non)), ?_⟩
    have hq := sq_table n ls hF
    obtain ⟨fa, fvs, ua, rfl, hf, hfu, hua⟩ := tab_row hx hq hu
    have el : fvs.length = n := tab_len hx hq hf
    have hcu := hq.cell hu hv
    rw [hd] at hcu
    rw [onward_un, table_len] at q
    refine ⟨_, rfl, fa, fvs, rfl, .inl (SqL.of hf), (fvs.length : Nat), rfl, by omega, by omega, for_range (lo := 0) (n := ((fvs.length : Nat) : Int).toNat)
      (fun i σ H' => (∃ c d, σ = [some (.ref fa), some y, some (nV u), some (nV v), c, d]) ∧ H' = H ∧ ∀ j, j < i → onTest (Kv402.table n ls) ls u v j = false)
      ⟨⟨_, _, rfl⟩, rfl, fun j hj => absurd hj (Nat.not_lt_zero j)⟩ ?_ ?_⟩
    · rintro i σ H' hi ⟨⟨c, e, rfl⟩, rfl, hno⟩
      have hi' : i < n := by rw [el] at hi; simpa using hi
      rw [Int.zero_add]
      refine ⟨_, rfl, _, rfl, _, rfl, ls, _, u, i, rfl, hy, hF.lt, ?_⟩
      have next : onTest (Kv402.table n ls) ls u v i = false → ∀ j, j < i + 1 → onTest (Kv402.table n ls) ls u v j = false := by
        intro h j hj
        rcases Nat.lt_or_ge j i with h' | h'
        · exact hno j h'
        · have : j = i := by omega
          subst this; exact h
      cases hl : lenOf ls u i with
      | none =>
        exact ⟨_, rfl, rfl, _, rfl, iteF (iteF ⟨⟨_, _, rfl⟩, rfl, next (onTest_none hl)⟩)⟩
      | some w =>
        obtain ⟨l, hlm, hle, rfl⟩ := lenOf_mem hl
        obtain ⟨c', hc', _, _⟩ := dist_beside hF hlm hle hv hd
        obtain ⟨_, _, ia, e1, hf2, hfi, hia⟩ := tab_row hx hq hi'
        cases e1; rw [hf] at hf2; cases hf2
        have hci := hq.cell hi' hv
        rw [hc'] at hci
        refine ⟨_, rfl, rfl, _, rfl, iteT ⟨_, rfl, _, rfl, _, rfl, fa, fvs, _, _, rfl, rfl, SqL.of hf, atI_nat hfi, _, rfl, ia, _, _, _, rfl, rfl, SqL.of hia, atI_nat (map_cell hci), _, _, rfl, rfl,
          _, rfl, _, rfl, fa, fvs, _, _, rfl, rfl, SqL.of hf, atI_nat hfu, _, rfl, ua, _, _, _, rfl, rfl, SqL.of hua, atI_nat (map_cell hcu), rfl, _, rfl, if2 (fun h => ?_) (fun h => ?_)⟩⟩
        · have he : nV (l.w + c') = nV d := of_decide_eq_true h
          have he' : l.w + c' = d := of_decide_eq_true ((nV_dec _ _).symm.trans (decide_eq_true he))
          refine ⟨_, rfl, ?_⟩
          rw [find_first hi' ?_ hno] at q
          · exact q
          · rw [onTest_some hl, hc', hd, ← he']
            simp [Kv402.plus]
        · have he : ¬ nV (l.w + c') = nV d := of_decide_eq_false h
          refine ⟨⟨_, _, rfl⟩, rfl, next ?_⟩
          rw [onTest_some hl, hc', hd, beq_eq_false_iff_ne]
          intro e
          have : l.w + c' = d := Option.some.inj e
          exact he (by rw [this])
    · rintro σ H' ⟨⟨c, e, rfl⟩, rfl, hno⟩
      rw [find_none_upto (fun j hj => hno j (by rw [el]; simpa using hj))] at q
      exact q
end
end Nk
set_option Elab.async false
set_option maxRecDepth 100000
set_option maxHeartbeats 4000000
namespace Nk
open PySem PySem.Spec PyProof.Rows L2
/-- the rest is shown later, where A holds -/
theorem later1 {A T G : Prop} (f : (A → T) → G) (b : A → T) : G := f b
def kvOf (q : Nat × Option Nat) : Key × V := (Sum.inl (q.1 : Int), oV q.2)
/-- a dict from places to places, or none -/
def rDict : Rep (List (Nat × Option Nat)) := fun H v l => ∃ a, v = .ref a ∧ H a = some (.dK (l.map kvOf))
theorem stays_dict : Stays rDict := fun _ _ _ _ s ⟨a, e, h⟩ => ⟨a, e, s _ _ h⟩
/-- a place's table -/
def tabOf (n : Nat) (s : List Kv402.Line) (ch u : Nat) : List (Nat × Option Nat) :=
  (Kv405.entries ⟨n, s⟩ (Kv402.table n s) ch u).map fun v => (v, (Kv402.Net.mk n s).step (Kv402.table n s) u v)
theorem val_tab {f : Nat → Option Nat} {v : Nat} : ∀ (l : List Nat), valV ((l.map fun v => (v, f v)).map kvOf) (Sum.inl ((v : Nat) : Int)) = if v ∈ l then some (oV (f v)) else none
  | [] => rfl
  | x :: l => by
    by_cases h : x = v
    · subst h
      rw [List.map_cons, List.map_cons, valV_pos (by rfl), if_pos (List.mem_cons_self ..)]; rfl
    · rw [List.map_cons, List.map_cons, valV_neg (fun e => h (by
        have e' : (Sum.inl ((x : Nat) : Int) : Key) = Sum.inl ((v : Nat) : Int) := e
        exact Int.ofNat.inj (Sum.inl.inj e'))), val_tab l]
      by_cases hl : v ∈ l
      · rw [if_pos hl, if_pos (List.mem_cons_of_mem _ hl)]
      · rw [if_neg hl, if_neg (by simp [hl]; exact fun e => h e.symm)]
theorem nearestAll_ok {n : Nat} {t : Kv402.Table} (ht : t.length = n) {ch p c : Nat} (hp : p < n) (h : (nearestAll t ch n).getD p none = some c) : c < n ∧ (Kv402.at_ t p c).isSome = true ∧ Kv404.in_ ch c = true := by
  unfold nearestAll at h
  rw [getD_map_range n _ _ _ hp] at h
  obtain ⟨h1, h2⟩ := nearest_eq n t ht ch p
  rw [← h1] at h
  obtain ⟨q, hq, rfl⟩ := Option.map_eq_some_iff.1 h
  obtain ⟨h3, h4, h5⟩ := h2 q hq
  exact ⟨h4, by rw [h3]; rfl, h5⟩
theorem nearestAll_len (t : Kv402.Table) (ch n : Nat) : (nearestAll t ch n).length = n := by simp [nearestAll]
section
variable {P : Program} {w : World} {K : PySem.W.Frag} {mg : Str → Option Value} {base : Heap}

def sp_table_of : Sp := fun vs H Q _ => ∃ n s ch u x y z, vs = [x, y, nV ch, z, nV u] ∧ rTab H x (Kv402.table n s) ∧ rLines H y s ∧ rRow H z (nearestAll (Kv402.table n s) ch n) ∧ Fine n s ∧ n ≤ 100 ∧ u < n ∧ ∀ H' v, Same H H' → rDict (newOnly H H') v (tabOf n s ch u) → Q v H'
theorem k_table_of (B : Plain mg) (kc : Kept P w K mg base 1 "is_chosen" sp_is_chosen) (kn : Kept P w K mg base 1 "is_near" sp_is_near) (ko : Kept P w K mg base 3 "onward" sp_onward) (D : Here K mg "table_of" s_table_of ["far", "base", "choice", "nearest", "place"]) :
    Kept P w K mg base 4 "table_of" sp_table_of := by
  refine kept_of D sc_table_of (fun vs H Q E h => ?_) (fun f cdv A outer s H vs Q E hr h => ?_)
  · obtain ⟨n, s, ch, u, x, y, z, rfl, _⟩ := h; rfl
  · obtain ⟨n, ls, ch, u, x, y, z, rfl, hx, hy, hz, hF, hn, hu, q⟩ := h
    have hU := hu_of hr
    -- far 0, base 1, choice 2, nearest 3, place 4, table 5, other 6
    refine ⟨_, pss_cons (ps_set (i := 5) sc_table_of.nd rfl (.inl rfl) pe_dnewK)
      (pss_cons (ps_for PassesOwn.never rfl (pi_range1 rfl B.range (pa_cons (pe_callB call_len_seq (by rfl) B.len PySem.boot_len (pa_cons (pv 0) pa_nil)) pa_nil)) (pg_name (i := 6) sc_table_of.nd rfl (.inl rfl))
        (pss_one (ps_if (PW.pt (pw_and (pt_cmpR op_ne (pv 6) (pv 4) (nomark _)) (pw_and1 (pt_cmpR op_notN (pe_ix ix_list (pe_ix ix_list (pv 0) (pv 4) (fun _ _ => rfl)) (pv 6) (fun _ _ => rfl)) pe_non (nomark _)))))
          (pss_one (ps_if (PW.pt (pw_or (pt_val (pgo kc hr (pa_cons (pv 2) (pa_cons (pv 6) pa_nil)))) (pw_or1 (pt_val (pgo kn hr (pa_cons (pv 0) (pa_cons (pv 3) (pa_cons (pv 6) (pa_cons (pv 4) pa_nil)))))))))
            (pss_one (ps_dput hU (pv 5) (pv 6) (pgo ko hr (pa_cons (pv 0) (pa_cons (pv 1) (pa_cons (pv 4) (pa_cons (pv 6) pa_nil))))) rfl)) pss_nil)) pss_nil)))
      (pss_one (ps_ret (pv 5)))), ?_⟩
    have hq := sq_table n ls hF
    have htl := table_len n ls
    obtain ⟨fa, fvs, ua, rfl, hf, hfu, hua⟩ := tab_row hx hq hu
    have el : fvs.length = n := tab_len hx hq hf
    intro d nd
    have s1 : ∀ kvs, Same H (upd H d (.dK kvs)) := fun kvs => same_new nd
    refine ⟨_, rfl, fa, fvs, rfl, .inl (SqL.of (s1 _ _ _ hf)), (fvs.length : Nat), rfl, by omega, by omega, for_range (lo := 0) (n := ((fvs.length : Nat) : Int).toNat)
      (fun i σ H' => (∃ c, σ = [some (.ref fa), some y, some (nV ch), some z, some (nV u), some (.ref d), c]) ∧
        H' = upd H d (.dK ((((List.range i).filter (Kv405.entry ⟨n, ls⟩ (Kv402.table n ls) ch u)).map fun v => (v, (Kv402.Net.mk n ls).step (Kv402.table n ls) u v)).map kvOf)))
      ⟨⟨_, rfl⟩, rfl⟩ ?_ ?_⟩
    · rintro i σ H' hi ⟨⟨c, rfl⟩, rfl⟩
      have hi' : i < n := by rw [el] at hi; simpa using hi
      rw [Int.zero_add, List.range_succ, List.filter_append, List.map_append, List.map_append]
      have hent : Kv405.entry ⟨n, ls⟩ (Kv402.table n ls) ch u i = (u != i && (Kv402.at_ (Kv402.table n ls) u i).isSome && (Kv404.in_ ch i || isNear (Kv402.table n ls) (nearestAll (Kv402.table n ls) ch n) i u)) := by
        unfold Kv405.entry
        rw [← isNear_eq n _ htl ch hi' hu]
      have skip : Kv405.entry ⟨n, ls⟩ (Kv402.table n ls) ch u i = false → ([i].filter (Kv405.entry ⟨n, ls⟩ (Kv402.table n ls) ch u)) = [] := fun h => by simp [h]
      have take : Kv405.entry ⟨n, ls⟩ (Kv402.table n ls) ch u i = true → ([i].filter (Kv405.entry ⟨n, ls⟩ (Kv402.table n ls) ch u)) = [i] := fun h => by simp [h]
      have hnot : i ∉ (List.range i).filter (Kv405.entry ⟨n, ls⟩ (Kv402.table n ls) ch u) := fun h => by
        have := List.mem_range.1 (List.mem_filter.1 h).1; omega
      have hlen : ((List.range i).filter (Kv405.entry ⟨n, ls⟩ (Kv402.table n ls) ch u)).length ≤ i := by
        have := List.length_filter_le (Kv405.entry ⟨n, ls⟩ (Kv402.table n ls) ch u) (List.range i)
        rw [List.length_range] at this; exact this
      generalize (List.range i).filter (Kv405.entry ⟨n, ls⟩ (Kv402.table n ls) ch u) = L at hnot hlen
      refine ⟨_, rfl, _, rfl, rfl, _, rfl, ?_⟩
      have edec : (!decide (nV i = nV u)) = (u != i) := by
        rw [nV_dec]
        by_cases h : i = u
        · subst h; simp
        · rw [decide_eq_false h]; simp; exact fun e => h e.symm
      show if (!decide (nV i = nV u)) = true then _ else _
      rw [edec]
      refine if2 (fun h => ?_) (fun h => ?_)
      · have hne : u ≠ i := by simpa using h
        rw [h, Bool.true_and] at hent
        refine ⟨_, rfl, _, rfl, fa, fvs, _, _, rfl, rfl, SqL.of (s1 _ _ _ hf), atI_nat hfu, _, rfl, ua, _, _, _, rfl, rfl, SqL.of (s1 _ _ _ hua), atI_nat (map_cell (hq.cell hu hi')), rfl, _, rfl, ?_⟩
        cases hd : Kv402.at_ (Kv402.table n ls) u i with
        | none =>
          rw [hd] at hent
          rw [skip hent, List.map_nil, List.map_nil, List.append_nil]
          exact iteF ⟨⟨_, rfl⟩, rfl⟩
        | some dd =>
          rw [hd] at hent
          refine iteT ⟨_, rfl, _, rfl, ch, i, rfl, _, rfl, ?_⟩
          refine' later1 (A := Kv405.entry ⟨n, ls⟩ (Kv402.table n ls) ch u i = true) ?main ?blk
          case main =>
            intro blk
            refine if2 (fun hc => ?_) (fun hc => ?_)
            · exact iteT (blk (by rw [hent, hc]; rfl))
            · refine ⟨_, rfl, _, rfl, _, rfl, _, rfl, n, Kv402.table n ls, nearestAll (Kv402.table n ls) ch n, i, u, _, _, rfl, stays_tab _ _ _ _ (s1 _) hx, stays_row _ _ _ _ (s1 _) hz, hq, nearestAll_len _ _ _, hi', hu, fun c e => ?_, _, rfl, ?_⟩
              · obtain ⟨a, b, _⟩ := nearestAll_ok htl hi' e
                exact ⟨a, b⟩
              · refine if2 (fun hc2 => ?_) (fun hc2 => ?_)
                · exact blk (by rw [hent, hc, hc2]; rfl)
                · rw [skip (by rw [hent, hc, hc2]; rfl), List.map_nil, List.map_nil, List.append_nil]
                  exact ⟨⟨_, rfl⟩, rfl⟩
          case blk =>
            intro he
            refine ⟨_, rfl, _, rfl, _, rfl, _, rfl, n, ls, u, i, dd, _, _, rfl, stays_tab _ _ _ _ (s1 _) hx, stays_lines _ _ _ _ (s1 _) hy, hF, hn, hu, hi', hd, _, rfl, _, rfl, d, _, rfl, DPut.k (k := Sum.inl ((i : Nat) : Int)) upd_same ?_, ⟨_, rfl⟩, ?_⟩
            · rw [List.length_map, List.length_map]; exact size100 (by omega)
            · rw [upd_upd, putK_new _ (by rw [val_tab, if_neg hnot]), take he]; rfl
      · rw [h] at hent
        rw [skip (by rw [hent]; rfl), List.map_nil, List.map_nil, List.append_nil]
        exact iteF ⟨⟨_, rfl⟩, rfl⟩
    · rintro σ H' ⟨⟨c, rfl⟩, rfl⟩
      rw [show ((fvs.length : Nat) : Int).toNat = n by rw [el]; simp]
      exact ⟨_, rfl, q _ _ (s1 _) ⟨d, rfl, (new_at nd).trans upd_same⟩⟩
end
end Nk
set_option Elab.async false
set_option maxRecDepth 100000
set_option maxHeartbeats 4000000
namespace Nk
open PySem PySem.Spec PyProof.Rows L2
/-- an address, or none -/
def rAddr : Rep (Option Kv405.Address) := fun H v d => match d with
  | none => v = .non
  | some d => ∃ a, v = .ref a ∧ H a = some (.tup [nV d.v, nV d.c, nV d.e])
theorem stays_addr : Stays rAddr := fun _ _ v d s h => by
  cases d with
  | none => exact h
  | some d => obtain ⟨a, e, h⟩ := h; exact ⟨a, e, s _ _ h⟩
section
variable {P : Program} {w : World} {K : PySem.W.Frag} {mg : Str → Option Value} {base : Heap}

def sp_address_of : Sp := fun vs H Q _ => ∃ n s ch v x y z, vs = [x, y, z, nV v] ∧ rTab H x (Kv402.table n s) ∧ rLines H y s ∧ rRow H z (nearestAll (Kv402.table n s) ch n) ∧ Fine n s ∧ n ≤ 100 ∧ v < n ∧ ∀ H' r, Same H H' → rAddr (newOnly H H') r (Kv405.address ⟨n, s⟩ (Kv402.table n s) ch v) → Q r H'
theorem k_address_of (ko : Kept P w K mg base 3 "onward" sp_onward) (D : Here K mg "address_of" s_address_of ["far", "base", "nearest", "place"]) : Kept P w K mg base 4 "address_of" sp_address_of := by
  refine kept_of D sc_address_of (fun vs H Q E h => ?_) (fun f cdv A outer s H vs Q E hr h => ?_)
  · obtain ⟨n, s, ch, v, x, y, z, rfl, _⟩ := h; rfl
  · obtain ⟨n, ls, ch, v, x, y, z, rfl, hx, hy, hz, hF, hn, hv, q⟩ := h
    -- far 0, base 1, nearest 2, place 3, chosen 4
    refine ⟨_, pss_cons (ps_set (i := 4) sc_address_of.nd rfl (.inl rfl) (pe_ix ix_list (pv 2) (pv 3) (fun _ _ => rfl)))
      (pss_cons (ps_if (pt_cmpR op_isN (pv 4) pe_non (nomark _)) (pss_one (ps_ret pe_non)) pss_nil)
      (pss_cons (ps_if (pt_cmpR op_eq (pv 4) (pv 3) (nomark _)) (pss_one (ps_ret (pe_tup (pa_cons (pv 3) (pa_cons (pv 4) (pa_cons (pv 3) pa_nil)))))) pss_nil)
      (pss_one (ps_ret (pe_tup (pa_cons (pv 3) (pa_cons (pv 4) (pa_cons (pgo ko hr (pa_cons (pv 0) (pa_cons (pv 1) (pa_cons (pv 4) (pa_cons (pv 3) pa_nil))))) pa_nil)))))))), ?_⟩
    obtain ⟨za, rfl, hza⟩ := row_cell hz
    have htl := table_len n ls
    have hcell : (nearestAll (Kv402.table n ls) ch n)[v]? = some ((nearestAll (Kv402.table n ls) ch n).getD v none) := getD_some none (by rw [nearestAll_len]; exact hv)
    obtain ⟨h1, h2⟩ := nearest_eq n (Kv402.table n ls) htl ch v
    have hgd : (nearestAll (Kv402.table n ls) ch n).getD v none = (Kv404.nearest n (Kv402.table n ls) ch v).map Prod.fst := by
      unfold nearestAll
      rw [getD_map_range n _ _ _ hv, h1]
    rw [hgd] at hcell
    have hadr : Kv405.address ⟨n, ls⟩ (Kv402.table n ls) ch v = (match Kv404.nearest n (Kv402.table n ls) ch v with
      | none => none
      | some q => some ⟨v, q.1, if q.1 = v then v else (Kv405.step ⟨n, ls⟩ (Kv402.table n ls) q.1 v).getD v⟩) := rfl
    refine ⟨_, rfl, _, rfl, za, _, _, _, rfl, rfl, SqL.of hza, atI_nat (map_cell hcell), ?_⟩
    refine ⟨_, rfl, rfl, _, rfl, ?_⟩
    cases hq : Kv404.nearest n (Kv402.table n ls) ch v with
    | none =>
      rw [hq] at hadr
      exact iteT (q _ _ (Same.refl H) (by rw [hadr]; exact rfl))
    | some p =>
      rw [hq] at hadr
      obtain ⟨h3, h4, h5⟩ := h2 p hq
      refine iteF ⟨_, rfl, _, rfl, rfl, _, rfl, ?_⟩
      show if decide (nV p.1 = nV v) = true then _ else _
      rw [nV_dec]
      refine if2 (fun h => ?_) (fun h => ?_)
      · have e : p.1 = v := of_decide_eq_true h
        refine ⟨_, rfl, _, rfl, _, rfl, (by show 3 ≤ sizeLine; decide), fun r nr => q _ _ (same_new nr) ?_⟩
        rw [hadr]
        refine ⟨r, rfl, (new_at nr).trans (upd_same.trans ?_)⟩
        show some (HO.tup [nV v, nV p.1, nV v]) = some (HO.tup [nV v, nV p.1, nV (if p.1 = v then v else _)])
        rw [if_pos e]
      · have e : ¬ p.1 = v := of_decide_eq_false h
        have hd : Kv402.at_ (Kv402.table n ls) p.1 v = some p.2 := by rw [← dist_symm hF hv h4]; exact h3
        obtain ⟨y0, ey, hy0, _⟩ := step_some hF h4 hv hd e
        refine ⟨_, rfl, _, rfl, _, rfl, _, rfl, _, rfl, _, rfl, n, ls, p.1, v, p.2, _, _, rfl, hx, hy, hF, hn, h4, hv, hd, (by show 3 ≤ sizeLine; decide), fun r nr => q _ _ (same_new nr) ?_⟩
        rw [hadr]
        refine ⟨r, rfl, (new_at nr).trans (upd_same.trans ?_)⟩
        show some (HO.tup [nV v, nV p.1, oV ((Kv402.Net.mk n ls).step (Kv402.table n ls) p.1 v)]) = some (HO.tup [nV v, nV p.1, nV (if p.1 = v then v else ((Kv402.Net.mk n ls).step (Kv402.table n ls) p.1 v).getD v)])
        rw [if_neg e, ey]; rfl

/-- where a message to somebody's address goes on -/
def onOf (n : Nat) (s : List Kv402.Line) (ch : Nat) (d : Option Kv405.Address) (u : Nat) : Option Nat := match d with
  | none => none
  | some d => sentOn ⟨n, s⟩ (Kv402.table n s) ch d u
theorem mem_entries {n : Nat} {s : List Kv402.Line} {ch u v : Nat} (hv : v < n) : v ∈ Kv405.entries ⟨n, s⟩ (Kv402.table n s) ch u ↔ Kv405.entry ⟨n, s⟩ (Kv402.table n s) ch u v = true := by
  unfold Kv405.entries
  rw [List.mem_filter, List.mem_range]
  exact ⟨fun h => h.2, fun h => ⟨hv, h⟩⟩
def sp_sent_on : Sp := fun vs H Q _ => ∃ n s ch d u x y, vs = [x, y, nV u] ∧ LOf rDict H x ((List.range n).map (tabOf n s ch)) ∧ rAddr H y d ∧ u < n ∧ (∀ a, d = some a → a.v < n ∧ a.c < n) ∧ Q (oV (onOf n s ch d u)) H
theorem k_sent_on (D : Here K mg "sent_on" s_sent_on ["tables", "address", "here"]) : Kept P w K mg base 1 "sent_on" sp_sent_on := by
  refine kept_of D sc_sent_on (fun vs H Q E h => ?_) (fun f cdv A outer s H vs Q E hr h => ?_)
  · obtain ⟨n, s, ch, d, u, x, y, rfl, _⟩ := h; rfl
  · obtain ⟨n, ls, ch, d, u, x, y, rfl, hx, hy, hu, hb, q⟩ := h
    have hU := hu_of hr
    -- tables 0, address 1, here 2, table 3
    refine ⟨_, pss_cons (ps_if (PW.pt (pw_or (pt_cmpR op_isN (pv 1) pe_non (nomark _)) (pw_or1 (pt_cmpR op_eq (pv 2) (pe_ix ix_tup (pv 1) pe_int (fun _ _ => rfl)) (nomark _))))) (pss_one (ps_ret pe_non)) pss_nil)
      (pss_cons (ps_set (i := 3) sc_sent_on.nd rfl (.inl rfl) (pe_ix ix_list (pv 0) (pv 2) (fun _ _ => rfl)))
      (pss_cons (ps_if (pt_cmp (pc_din hU (pe_ix ix_tup (pv 1) pe_int (fun _ _ => rfl)) (pv 3))) (pss_one (ps_ret (pe_dget hU (pv 3) (pe_ix ix_tup (pv 1) pe_int (fun _ _ => rfl)) (fun _ _ => rfl)))) pss_nil)
      (pss_cons (ps_if (pt_cmpR op_eq (pv 2) (pe_ix ix_tup (pv 1) pe_int (fun _ _ => rfl)) (nomark _)) (pss_one (ps_ret (pe_ix ix_tup (pv 1) pe_int (fun _ _ => rfl)))) pss_nil)
      (pss_one (ps_ret (pe_dget1 hU (pv 3) (pe_ix ix_tup (pv 1) pe_int (fun _ _ => rfl)) ⟨rfl, rfl, rfl, rfl⟩)))))), ?_⟩
    cases d with
    | none =>
      cases (show y = .non from hy)
      exact ⟨_, rfl, rfl, _, rfl, iteT (iteT q)⟩
    | some d =>
      obtain ⟨ya, rfl, hya⟩ := hy
      obtain ⟨hdv, hdc⟩ := hb d rfl
      refine ⟨_, rfl, rfl, _, rfl, iteF ?_⟩
      refine ⟨_, rfl, _, rfl, ya, _, _, _, rfl, rfl, SqT.of hya, rfl, rfl, _, rfl, ?_⟩
      have eon : onOf n ls ch (some d) u = if u = d.v then none else if Kv405.entry ⟨n, ls⟩ (Kv402.table n ls) ch u d.v then (Kv402.Net.mk n ls).step (Kv402.table n ls) u d.v else
        if u = d.c then some d.e else if Kv405.entry ⟨n, ls⟩ (Kv402.table n ls) ch u d.c then (Kv402.Net.mk n ls).step (Kv402.table n ls) u d.c else none := rfl
      rw [eon] at q
      show if decide (nV u = nV d.v) = true then _ else _
      rw [nV_dec]
      refine if2 (fun h => ?_) (fun h => ?_)
      · rw [if_pos (of_decide_eq_true h)] at q
        exact q
      rw [if_neg (of_decide_eq_false h)] at q
      have etab : ((List.range n).map (tabOf n ls ch))[u]? = some (tabOf n ls ch u) := by rw [List.getElem?_map, List.getElem?_range hu]; rfl
      obtain ⟨xa, xs, tv, rfl, hxa, htv, ta, rfl, hta⟩ := l_item hx etab
      have hval : ∀ v, v < n → valV ((tabOf n ls ch u).map kvOf) (Sum.inl ((v : Nat) : Int)) = if Kv405.entry ⟨n, ls⟩ (Kv402.table n ls) ch u v = true then some (oV ((Kv402.Net.mk n ls).step (Kv402.table n ls) u v)) else none := by
        intro v hv
        unfold tabOf
        rw [val_tab]
        by_cases he : Kv405.entry ⟨n, ls⟩ (Kv402.table n ls) ch u v = true
        · rw [if_pos he, if_pos ((mem_entries hv).2 he)]
        · rw [if_neg he, if_neg (fun z => he ((mem_entries hv).1 z))]
      refine ⟨_, rfl, _, rfl, xa, xs, _, _, rfl, rfl, SqL.of hxa, atI_nat htv, ?_⟩
      refine ⟨_, rfl, ya, _, _, _, rfl, rfl, SqT.of hya, rfl, _, rfl, ta, _, rfl, DGet.k (k := Sum.inl ((d.v : Nat) : Int)) hta, _, rfl, ?_⟩
      rw [hval d.v hdv]
      by_cases he : Kv405.entry ⟨n, ls⟩ (Kv402.table n ls) ch u d.v = true
      · rw [if_pos he] at q
        refine ifT (by rw [if_pos he]; rfl) ?_
        refine ⟨_, rfl, _, rfl, ya, _, _, _, rfl, rfl, SqT.of hya, rfl, ta, _, rfl, ?_, q⟩
        have := DGet.k (k := Sum.inl ((d.v : Nat) : Int)) hta
        rw [hval d.v hdv, if_pos he] at this
        exact this
      rw [if_neg he] at q
      refine ifF (by rw [if_neg he]; rfl) ?_
      refine ⟨_, rfl, _, rfl, ya, _, _, _, rfl, rfl, SqT.of hya, rfl, rfl, _, rfl, ?_⟩
      show if decide (nV u = nV d.c) = true then _ else _
      rw [nV_dec]
      refine if2 (fun h => ?_) (fun h => ?_)
      · rw [if_pos (of_decide_eq_true h)] at q
        exact ⟨_, rfl, ya, _, _, _, rfl, rfl, SqT.of hya, rfl, q⟩
      rw [if_neg (of_decide_eq_false h)] at q
      refine ⟨_, rfl, ta, rfl, .inl ⟨_, .of hta⟩, _, rfl, ya, _, _, _, rfl, rfl, SqT.of hya, rfl, _, DGet.k (k := Sum.inl ((d.c : Nat) : Int)) hta, ?_⟩
      rw [hval d.c hdc]
      by_cases he : Kv405.entry ⟨n, ls⟩ (Kv402.table n ls) ch u d.c = true
      · rw [if_pos he] at q ⊢; exact q
      · rw [if_neg he] at q ⊢; exact q
end
end Nk
set_option Elab.async false
set_option maxRecDepth 100000
set_option maxHeartbeats 4000000
namespace Nk
open PySem PySem.Spec PyProof.Rows L2
/-! ## going on step by step -/
def wayG (st : Nat → Option Nat) : Nat → Nat → List Nat
  | 0, u => [u]
  | f + 1, u => u :: (match st u with
    | none => []
    | some x => wayG st f x)
def FinG (st : Nat → Option Nat) : Nat → Nat → Prop
  | 0, _ => False
  | f + 1, u => match st u with
    | none => True
    | some x => FinG st f x
theorem wayG_len (st : Nat → Option Nat) : ∀ f u, (wayG st f u).length ≤ f + 1
  | 0, _ => Nat.le_refl _
  | f + 1, u => by
    unfold wayG
    cases st u with
    | none => simp
    | some x => have := wayG_len st f x; simp only [List.length_cons]; omega
theorem wayG_pos (st : Nat → Option Nat) (f u : Nat) : 0 < (wayG st f u).length := by cases f <;> simp [wayG]
theorem FinG.up {st : Nat → Option Nat} : ∀ {f u}, FinG st f u → FinG st (f + 1) u ∧ wayG st (f + 1) u = wayG st f u := by
  intro f
  induction f with
  | zero => intro u h; exact h.elim
  | succ f ih =>
    intro u h
    have h' : (match st u with
      | none => True
      | some x => FinG st f x) := h
    cases e : st u with
    | none =>
      refine ⟨?_, ?_⟩
      · show (match st u with
          | none => True
          | some x => FinG st (f + 1) x)
        rw [e]; trivial
      · rw [wayG, wayG, e]
    | some x =>
      rw [e] at h'
      obtain ⟨h1, h2⟩ := ih h'
      refine ⟨?_, ?_⟩
      · show (match st u with
          | none => True
          | some x => FinG st (f + 1) x)
        rw [e]; exact h1
      · rw [wayG, wayG, e]
        show u :: wayG st (f + 1) x = u :: wayG st f x
        rw [h2]
theorem FinG.stop {st : Nat → Option Nat} {f u : Nat} (h : FinG st f u) (e : st u = none) : wayG st f u = [u] := by
  cases f with
  | zero => exact h.elim
  | succ f => rw [wayG, e]
theorem FinG.go {st : Nat → Option Nat} {f u x : Nat} (h : FinG st f u) (e : st u = some x) : FinG st f x ∧ wayG st f u = u :: wayG st f x := by
  cases f with
  | zero => exact h.elim
  | succ f =>
    have h' : (match st u with
      | none => True
      | some x => FinG st f x) := h
    rw [e] at h'
    obtain ⟨h1, h2⟩ := h'.up
    refine ⟨h1, ?_⟩
    rw [wayG, e, h2]
theorem fin_G {g t ch d} : ∀ f u, Fin_ g t ch d f u → FinG (sentOn g t ch d) f u
  | 0, _, h => h.elim
  | f + 1, u, h => by
    have h' : (match sentOn g t ch d u with
      | none => True
      | some x => Fin_ g t ch d f x) := h
    show (match sentOn g t ch d u with
      | none => True
      | some x => FinG (sentOn g t ch d) f x)
    cases e : sentOn g t ch d u with
    | none => trivial
    | some x => rw [e] at h'; exact fin_G f x h'
theorem way_G {g t ch d} : ∀ f u, Kv405.way g t ch d f u = wayG (sentOn g t ch d) f u
  | 0, _ => rfl
  | f + 1, u => by
    rw [way_step, wayG]
    cases sentOn g t ch d u with
    | none => rfl
    | some x => exact congrArg (u :: ·) (way_G f x)
theorem adr_lt {n : Nat} {s : List Kv402.Line} {ch v : Nat} {a : Kv405.Address} (hv : v < n) (e : Kv405.address ⟨n, s⟩ (Kv402.table n s) ch v = some a) : a.v < n ∧ a.c < n := by
  unfold Kv405.address at e
  have e0 : (Kv402.Net.mk n s).n = n := rfl
  rw [e0] at e
  cases hq : Kv404.nearest n (Kv402.table n s) ch v with
  | none => rw [hq] at e; cases e
  | some q =>
    rw [hq] at e
    obtain ⟨_, h4, _⟩ := (nearest_eq n (Kv402.table n s) (table_len n s) ch v).2 q hq
    have e' := Option.some.inj e
    subst e'
    exact ⟨hv, h4⟩
/-- the way, by the steps -/
theorem route_G {n : Nat} {s : List Kv402.Line} (h : Fine n s) {ch u v : Nat} (hu : u < n) (hv : v < n) :
    let st := onOf n s ch (Kv405.address ⟨n, s⟩ (Kv402.table n s) ch v)
    FinG st (2 * n) u ∧ wayG st (2 * n) u = Kv405.route ⟨n, s⟩ (Kv402.table n s) ch u v ∧ ∀ a x, a < n → st a = some x → x < n := by
  intro st
  obtain ⟨m, rfl⟩ : ∃ m, n = m + 1 := ⟨n - 1, by omega⟩
  cases e : Kv405.address ⟨m + 1, s⟩ (Kv402.table (m + 1) s) ch v with
  | none =>
    have es : st = fun _ => none := by funext a; show onOf _ _ _ (Kv405.address ⟨m + 1, s⟩ (Kv402.table (m + 1) s) ch v) a = none; rw [e]; rfl
    rw [es]
    refine ⟨?_, ?_, fun a x _ hx => by cases hx⟩
    · show FinG (fun _ => none) (2 * m + 1 + 1) u; exact trivial
    · show wayG (fun _ => none) (2 * m + 1 + 1) u = _
      unfold Kv405.route
      rw [e]; rfl
  | some d =>
    have es : st = sentOn ⟨m + 1, s⟩ (Kv402.table (m + 1) s) ch d := by funext a; show onOf _ _ _ (Kv405.address ⟨m + 1, s⟩ (Kv402.table (m + 1) s) ch v) a = _; rw [e]; rfl
    rw [es]
    refine ⟨fin_G _ _ (address_fin h hv hu e), ?_, fun a x ha hx => sentOn_lt h hv ha e hx⟩
    unfold Kv405.route
    rw [e]
    exact (way_G _ _).symm
/-- the place that the fifth slot holds, if any -/
def hereOf (σ : L2.St) : Option Nat := match σ[4]? with
  | some (some (V.int c)) => some c.toNat
  | _ => none
def restG (st : Nat → Option Nat) (f : Nat) : Option Nat → List Nat
  | none => []
  | some h => wayG st f h
section
variable {P : Program} {w : World} {K : PySem.W.Frag} {mg : Str → Option Value} {base : Heap}
def sp_way_of : Sp := fun vs H Q _ => ∃ n s ch u v x y, vs = [x, y, nV u] ∧ LOf rDict H x ((List.range n).map (tabOf n s ch)) ∧ rAddr H y (Kv405.address ⟨n, s⟩ (Kv402.table n s) ch v) ∧ Fine n s ∧ n ≤ 100 ∧ u < n ∧ v < n ∧
  ∀ H' z, Same H H' → rInts (newOnly H H') z (Kv405.route ⟨n, s⟩ (Kv402.table n s) ch u v) → Q z H'
theorem k_way_of (ks : Kept P w K mg base 1 "sent_on" sp_sent_on) (D : Here K mg "way_of" s_way_of ["tables", "address", "start"]) : Kept P w K mg base 2 "way_of" sp_way_of := by
  refine kept_of D sc_way_of (fun vs H Q E h => ?_) (fun f cdv A outer s H vs Q E hr h => ?_)
  · obtain ⟨n, s, ch, u, v, x, y, rfl, _⟩ := h; rfl
  · obtain ⟨n, ls, ch, u, v, x, y, rfl, hx, hy, hF, hn, hu, hv, q⟩ := h
    -- tables 0, address 1, start 2, way 3, here 4
    refine ⟨_, pss_cons (ps_set (i := 3) sc_way_of.nd rfl (.inl rfl) (pe_lst pa_nil))
      (pss_cons (ps_set (i := 4) sc_way_of.nd rfl (.inl rfl) (pv 2))
      (pss_cons (ps_while PassesOwn.never (pt_cmpR op_notN (pv 4) pe_non (nomark _))
        (pss_cons (ps_expr (pe_bm PySem.F.plainAttrs_list PySem.F.slot_list_append PySem.F.type_list_append mt_append (pv 3) (pa_cons (pv 4) pa_nil)))
        (pss_one (ps_set (i := 4) sc_way_of.nd rfl (.inl rfl) (pgo ks hr (pa_cons (pv 0) (pa_cons (pv 1) (pa_cons (pv 4) pa_nil))))))))
      (pss_one (ps_ret (pv 3))))), ?_⟩
    obtain ⟨hfin, hway, hlt⟩ := route_G hF (ch := ch) hu hv
    rw [← hway] at q
    have hb : ∀ a, Kv405.address ⟨n, ls⟩ (Kv402.table n ls) ch v = some a → a.v < n ∧ a.c < n := fun a e => adr_lt hv e
    refine ⟨Nat.zero_le _, fun r nr => ?_⟩
    have s1 : ∀ xs, Same H (upd H r (.lst xs)) := fun xs => same_new nr
    refine ⟨_, rfl, ?_⟩
    generalize hst : onOf n ls ch (Kv405.address ⟨n, ls⟩ (Kv402.table n ls) ch v) = st at hfin hway hlt q
    refine while_by (fun σ H' => ∃ (here : Option Nat) (done : List Nat), σ = [some x, some y, some (nV u), some (.ref r), some (oV here)] ∧ H' = upd H r (.lst (done.map nV)) ∧ (∀ a, here = some a → a < n ∧ FinG st (2 * n) a) ∧ done ++ restG st (2 * n) here = wayG st (2 * n) u)
      (fun σ _ => (restG st (2 * n) (hereOf σ)).length) ?_ ?_ ?_
    · exact ⟨some u, [], rfl, rfl, fun a e => by cases e; exact ⟨hu, hfin⟩, rfl⟩
    · rintro σ H' ⟨here, done, rfl, rfl, hh, htot⟩
      refine ⟨_, rfl, rfl, _, rfl, ?_⟩
      cases here with
      | none =>
        refine iteF ⟨_, rfl, q _ _ (s1 _) ⟨r, _, rfl, (new_at nr).trans upd_same, pairedN.2 ?_⟩⟩
        rw [← htot]; simp [restG]
      | some a =>
        obtain ⟨ha, hfa⟩ := hh a rfl
        have hdl : done.length + 1 ≤ 2 * n + 1 := by
          have h1 := wayG_len st (2 * n) u
          rw [← htot, List.length_append] at h1
          have h2 := wayG_pos st (2 * n) a
          have h3 : (restG st (2 * n) (some a)).length = (wayG st (2 * n) a).length := rfl
          omega
        refine iteT ⟨_, rfl, .inl ⟨rfl, _, SqL.of upd_same⟩, _, rfl, r, _, _, rfl, rfl, upd_same, ?_, ?_⟩
        · rw [List.length_map]; exact small1000 (by omega)
        rw [upd_upd]
        refine ⟨_, rfl, _, rfl, _, rfl, n, ls, ch, _, a, _, _, rfl, stays_L stays_dict _ _ _ _ (s1 _) hx, stays_addr _ _ _ _ (s1 _) hy, ha, hb, ?_⟩
        rw [hst]
        have hm : (restG st (2 * n) (hereOf [some x, some y, some (nV u), some (.ref r), some (oV (some a))])) = wayG st (2 * n) a := rfl
        cases e : st a with
        | none =>
          refine ⟨⟨none, done ++ [a], rfl, by rw [List.map_append]; rfl, (fun _ h => by cases h), ?_⟩, ?_⟩
          · rw [← htot]
            show done ++ [a] ++ [] = done ++ wayG st (2 * n) a
            rw [hfa.stop e, List.append_nil]
          · show ([] : List Nat).length < (restG st (2 * n) (hereOf [some x, some y, some (nV u), some (.ref r), some (oV (some a))])).length
            rw [hm]; exact wayG_pos _ _ _
        | some b =>
          obtain ⟨hfb, hwb⟩ := hfa.go e
          refine ⟨⟨some b, done ++ [a], rfl, by rw [List.map_append]; rfl, (fun c h => by cases h; exact ⟨hlt a b ha e, hfb⟩), ?_⟩, ?_⟩
          · rw [← htot]
            show done ++ [a] ++ wayG st (2 * n) b = done ++ wayG st (2 * n) a
            rw [hwb, List.append_assoc]; rfl
          · show (wayG st (2 * n) b).length < (wayG st (2 * n) a).length
            rw [hwb]; simp
    · rintro σ H2 Q1 Q2 hQ ⟨v, hv, e, b, e3, qq⟩
      exact ⟨v, hv, e, b, e3, hQ _ _ qq⟩
end
end Nk
set_option Elab.async false
set_option maxRecDepth 100000
set_option maxHeartbeats 4000000
namespace Nk
open PySem PySem.Spec PyProof.Rows L2
theorem plus_plus (a b : Nat) (z : Option Nat) : Kv402.plus (some a) (Kv402.plus (some b) z) = Kv402.plus (some (a + b)) z := by
  cases z with
  | none => rfl
  | some z => show some (a + (b + z)) = some (a + b + z); rw [Nat.add_assoc]
section
variable {P : Program} {w : World} {K : PySem.W.Frag} {mg : Str → Option Value} {base : Heap}
def sp_how_far : Sp := fun vs H Q _ => ∃ ls r g x y, vs = [x, y, nV g] ∧ rLines H x ls ∧ rInts H y r ∧ (∀ l ∈ ls, l.a < l.b) ∧ r ≠ [] ∧ r.length ≤ 1000 ∧ Q (oV (howFar ls r g)) H
theorem k_how_far (B : Plain mg) (kl : Kept P w K mg base 2 "length_between" sp_length_between) (D : Here K mg "how_far" s_how_far ["lines", "way", "goal"]) : Kept P w K mg base 3 "how_far" sp_how_far := by
  refine kept_of D sc_how_far (fun vs H Q E h => ?_) (fun f cdv A outer s H vs Q E hr h => ?_)
  · obtain ⟨ls, r, g, x, y, rfl, _⟩ := h; rfl
  · obtain ⟨ls, r, g, x, y, rfl, hx, hy, hl, hne, hrl, q⟩ := h
    -- lines 0, way 1, goal 2, total 3, step 4, length 5
    refine ⟨_, pss_cons (ps_if (pt_cmpR op_ne (pe_ix ix_list (pv 1) (pe_un un_neg pe_int) (fun _ _ => rfl)) (pv 2) (nomark _)) (pss_one (ps_ret pe_non)) pss_nil)
      (pss_cons (ps_set (i := 3) sc_how_far.nd rfl (.inl rfl) pe_int)
      (pss_cons (ps_for PassesOwn.never rfl (pi_range2 rfl B.range (pa_cons pe_int (pa_cons (pe_callB call_len_seq (by rfl) B.len PySem.boot_len (pa_cons (pv 1) pa_nil)) pa_nil))) (pg_name (i := 4) sc_how_far.nd rfl (.inl rfl))
        (pss_cons (ps_set (i := 5) sc_how_far.nd rfl (.inl rfl) (pgo kl hr (pa_cons (pv 0) (pa_cons (pe_ix ix_list (pv 1) (pe_op op_sub (pv 4) pe_int) (fun _ _ => rfl)) (pa_cons (pe_ix ix_list (pv 1) (pv 4) (fun _ _ => rfl)) pa_nil)))))
        (pss_cons (ps_if (pt_cmpR op_isN (pv 5) pe_non (nomark _)) (pss_one (ps_ret pe_non)) pss_nil)
        (pss_one (ps_aug (i := 3) sc_how_far.nd rfl (.inl rfl) (pv 5) ip_add)))))
      (pss_one (ps_ret (pv 3))))), ?_⟩
    obtain ⟨ya, rfl, hya⟩ := ints_at hy
    obtain ⟨r0, last, rfl⟩ : ∃ r0 last, r = r0 ++ [last] := ⟨r.dropLast, r.getLast hne, (List.dropLast_concat_getLast hne).symm⟩
    have hlast : atI ((r0 ++ [last]).map nV) (-1) = some (nV last) := by
      rw [List.map_append]
      exact atI_last (r0.map nV) (nV last)
    have eh : howFar ls (r0 ++ [last]) g = if last = g then goneFrom ls (r0 ++ [last]) else none := by
      unfold howFar
      rw [List.getLast?_append]; simp
    rw [eh] at q
    refine ⟨_, rfl, _, rfl, ya, _, _, _, rfl, rfl, SqL.of hya, hlast, _, rfl, rfl, _, rfl, ?_⟩
    show if (!decide (nV last = nV g)) = true then _ else _
    rw [nV_dec]
    refine if2 (fun h => ?_) (fun h => ?_)
    · have hn : ¬ last = g := by simpa using h
      rw [if_neg hn] at q
      exact q
    have hn : last = g := by simpa using h
    rw [if_pos hn] at q
    have hpos : 0 < (r0 ++ [last]).length := by simp
    generalize r0 ++ [last] = r at hya q hpos hrl
    refine ⟨_, rfl, ya, _, rfl, .inl (SqL.of hya), 1, _, rfl, ⟨by decide, by decide, by omega, ?_⟩, ?_⟩
    · rw [List.length_map]; omega
    rw [List.length_map]
    refine for_range (lo := 1) (n := (((r.length : Nat) : Int) - 1).toNat) (fun i σ H' => (∃ (t : Nat) (c d : Option V), σ = [some x, some (.ref ya), some (nV g), some (nV t), c, d] ∧ goneFrom ls r = Kv402.plus (some t) (goneFrom ls (r.drop i))) ∧ H' = H) ?_ ?_ ?_
    · refine ⟨⟨0, _, _, rfl, ?_⟩, rfl⟩
      rw [List.drop_zero]
      cases goneFrom ls r with
      | none => rfl
      | some z => show some z = some (0 + z); rw [Nat.zero_add]
    · rintro i σ H' hi ⟨⟨t, c, d, rfl, hg⟩, rfl⟩
      have hi' : i + 1 < r.length := by omega
      have ea : r[i]? = some (r[i]'(by omega)) := List.getElem?_eq_getElem (by omega)
      have eb : r[i + 1]? = some (r[i + 1]'hi') := List.getElem?_eq_getElem hi'
      have ed : r.drop i = r[i]'(by omega) :: r[i + 1]'hi' :: r.drop (i + 2) := by
        rw [List.drop_eq_getElem_cons (by omega), List.drop_eq_getElem_cons hi']
      have ed1 : r.drop (i + 1) = r[i + 1]'hi' :: r.drop (i + 2) := List.drop_eq_getElem_cons hi'
      generalize r[i]'(by omega) = a at ea ed
      generalize r[i + 1]'hi' = b at eb ed ed1
      rw [ed] at hg
      have mapA : (r.map nV)[i]? = some (nV a) := by rw [List.getElem?_map, ea]; rfl
      have mapB : (r.map nV)[i + 1]? = some (nV b) := by rw [List.getElem?_map, eb]; rfl
      have e1 : (1 : Int) + (i : Int) = ((i + 1 : Nat) : Int) := by omega
      rw [e1]
      have e2 : ((i + 1 : Nat) : Int) - 1 = ((i : Nat) : Int) := by omega
      refine ⟨_, rfl, _, rfl, _, rfl, _, _, rfl, rfl, ya, _, _, _, rfl, rfl, SqL.of hya, (by rw [e2]; exact atI_nat mapA), _, rfl, _, rfl, ya, _, _, _, rfl, rfl, SqL.of hya, atI_nat mapB, ls, _, a, b, rfl, hx, hl, ?_⟩
      have eg : goneFrom ls (a :: b :: r.drop (i + 2)) = (match lenOf ls a b with
        | none => none
        | some w => Kv402.plus (some w) (goneFrom ls (b :: r.drop (i + 2)))) := rfl
      rw [eg] at hg
      refine ⟨_, rfl, rfl, _, rfl, ?_⟩
      cases hab : lenOf ls a b with
      | none =>
        rw [hab] at hg
        have : goneFrom ls r = none := hg
        rw [this] at q
        exact iteT q
      | some w =>
        rw [hab] at hg
        refine iteF ⟨_, rfl, _, rfl, _, _, rfl, rfl, ⟨t + w, _, _, rfl, ?_⟩, rfl⟩
        rw [ed1, hg, plus_plus]
    · rintro σ H' ⟨⟨t, c, d, rfl, hg⟩, rfl⟩
      refine ⟨_, rfl, ?_⟩
      have e1 : (((r.length : Nat) : Int) - 1).toNat = r.length - 1 := by omega
      rw [e1, List.drop_eq_getElem_cons (show r.length - 1 < r.length by omega), List.drop_of_length_le (by omega)] at hg
      have : goneFrom ls r = some t := hg
      rw [this] at q
      exact q
end
end Nk
set_option Elab.async false
set_option maxRecDepth 100000
set_option maxHeartbeats 4000000
/-! Chosen places, near places, told by chosen ones: the defs. -/
namespace Nk
open PySem PySem.Spec PyProof.Rows L2
/-- round by a chosen one -/
def viaR (t : Kv402.Table) (c : Option Nat) (u v : Nat) : Option Nat := match c with
  | none => none
  | some k => join3 (Kv402.at_ t u k) 0 (Kv402.at_ t k v)
theorem join3_plus (x y : Option Nat) : join3 x 0 y = Kv402.plus x y := by
  cases x <;> cases y <;> rfl
theorem viaR_one (t : Kv402.Table) (near : List (Option Nat)) (u v : Nat) : viaR t (near.getD u none) u v = viaC t near u v := by
  unfold viaR viaC
  cases near.getD u none with
  | none => rfl
  | some k => exact join3_plus _ _
theorem viaR_two {n : Nat} {s : List Kv402.Line} (h : Fine n s) {ch u v : Nat} (hu : u < n) (hv : v < n) :
    viaR (Kv402.table n s) ((nearestAll (Kv402.table n s) ch n).getD v none) u v = viaC (Kv402.table n s) (nearestAll (Kv402.table n s) ch n) v u := by
  unfold viaR viaC
  cases e : (nearestAll (Kv402.table n s) ch n).getD v none with
  | none => rfl
  | some k =>
    obtain ⟨hk, _, _⟩ := nearestAll_ok (table_len n s) hv e
    show join3 _ 0 _ = _
    rw [join3_plus, plus_comm, dist_symm h hk hv, dist_symm h hu hk]
section
variable {P : Program} {w : World} {K : PySem.W.Frag} {mg : Str → Option Value} {base : Heap}
def sp_round_by : Sp := fun vs H Q _ => ∃ n t c u v x, vs = [x, oV c, nV u, nV v] ∧ rTab H x t ∧ Sq n t ∧ u < n ∧ v < n ∧ (∀ k, c = some k → k < n) ∧ Q (oV (viaR t c u v)) H
theorem k_round_by (kj : Kept P w K mg base 1 "joined" sp_joined) (D : Here K mg "round_by" s_round_by ["far", "chosen", "u", "v"]) : Kept P w K mg base 2 "round_by" sp_round_by := by
  refine kept_of D sc_round_by (fun vs H Q E h => ?_) (fun f cdv A outer s H vs Q E hr h => ?_)
  · obtain ⟨n, t, c, u, v, x, rfl, _⟩ := h; rfl
  · obtain ⟨n, t, c, u, v, x, rfl, hx, hq, hu, hv, hc, q⟩ := h
    refine ⟨_, pss_cons (ps_if (pt_cmpR op_isN (pv 1) pe_non (nomark _)) (pss_one (ps_ret pe_non)) pss_nil)
      (pss_one (ps_ret (pgo kj hr (pa_cons (pe_ix ix_list (pe_ix ix_list (pv 0) (pv 2) (fun _ _ => rfl)) (pv 1) (fun _ _ => rfl)) (pa_cons pe_int (pa_cons (pe_ix ix_list (pe_ix ix_list (pv 0) (pv 1) (fun _ _ => rfl)) (pv 3) (fun _ _ => rfl)) pa_nil)))))), ?_⟩
    refine ⟨_, rfl, rfl, _, rfl, ?_⟩
    cases c with
    | none => exact iteT q
    | some k =>
      have hk := hc k rfl
      obtain ⟨fa, fvs, ra, rfl, hf, hfr, hra⟩ := tab_row hx hq hu
      obtain ⟨_, _, ka, e, hf', hfk, hka⟩ := tab_row hx hq hk
      cases e; rw [hf] at hf'; cases hf'
      exact iteF ⟨_, rfl, _, rfl, fa, fvs, _, _, rfl, rfl, SqL.of hf, atI_nat hfr, _, rfl, ra, _, _, _, rfl, rfl, SqL.of hra, atI_nat (map_cell (hq.cell hu hk)),
        _, rfl, _, rfl, fa, fvs, _, _, rfl, rfl, SqL.of hf, atI_nat hfk, _, rfl, ka, _, _, _, rfl, rfl, SqL.of hka, atI_nat (map_cell (hq.cell hk hv)), Kv402.at_ t u k, 0, Kv402.at_ t k v, rfl, q⟩

def sp_told_by_chosen : Sp := fun vs H Q _ => ∃ n s ch u v x y, vs = [x, y, nV u, nV v] ∧ rTab H x (Kv402.table n s) ∧ rRow H y (nearestAll (Kv402.table n s) ch n) ∧ Fine n s ∧ u < n ∧ v < n ∧ Q (oV (Kv404.told n (Kv402.table n s) ch u v)) H
theorem k_told_by_chosen (kn : Kept P w K mg base 1 "is_near" sp_is_near) (kl : Kept P w K mg base 1 "lesser" sp_lesser) (kr : Kept P w K mg base 2 "round_by" sp_round_by) (D : Here K mg "told_by_chosen" s_told_by_chosen ["far", "nearest", "u", "v"]) :
    Kept P w K mg base 3 "told_by_chosen" sp_told_by_chosen := by
  refine kept_of D sc_told_by_chosen (fun vs H Q E h => ?_) (fun f cdv A outer s H vs Q E hr h => ?_)
  · obtain ⟨n, ls, ch, u, v, x, y, rfl, _⟩ := h; rfl
  · obtain ⟨n, ls, ch, u, v, x, y, rfl, hx, hy, hF, hu, hv, q⟩ := h
    refine ⟨_, pss_cons (ps_if (PW.pt (pw_or (pt_val (pgo kn hr (pa_cons (pv 0) (pa_cons (pv 1) (pa_cons (pv 2) (pa_cons (pv 3) pa_nil)))))) (pw_or1 (pt_val (pgo kn hr (pa_cons (pv 0) (pa_cons (pv 1) (pa_cons (pv 3) (pa_cons (pv 2) pa_nil)))))))))
        (pss_one (ps_ret (pe_ix ix_list (pe_ix ix_list (pv 0) (pv 2) (fun _ _ => rfl)) (pv 3) (fun _ _ => rfl)))) pss_nil)
      (pss_one (ps_ret (pgo kl hr (pa_cons (pgo kr hr (pa_cons (pv 0) (pa_cons (pe_ix ix_list (pv 1) (pv 2) (fun _ _ => rfl)) (pa_cons (pv 2) (pa_cons (pv 3) pa_nil)))))
        (pa_cons (pgo kr hr (pa_cons (pv 0) (pa_cons (pe_ix ix_list (pv 1) (pv 3) (fun _ _ => rfl)) (pa_cons (pv 2) (pa_cons (pv 3) pa_nil))))) pa_nil))))), ?_⟩
    have hq := sq_table n ls hF
    have htl := hq.len
    have hok : ∀ p, p < n → ∀ c, (nearestAll (Kv402.table n ls) ch n).getD p none = some c → c < n ∧ (Kv402.at_ (Kv402.table n ls) p c).isSome = true := fun p hp c e => by
      obtain ⟨a, b, _⟩ := nearestAll_ok htl hp e
      exact ⟨a, b⟩
    rw [toldC_eq hF hu hv] at q
    obtain ⟨fa, fvs, ra, rfl, hf, hfr, hra⟩ := tab_row hx hq hu
    obtain ⟨ya, rfl, hya⟩ := row_cell hy
    have hnl := nearestAll_len (Kv402.table n ls) ch n
    have yes : (isNear (Kv402.table n ls) (nearestAll (Kv402.table n ls) ch n) u v || isNear (Kv402.table n ls) (nearestAll (Kv402.table n ls) ch n) v u) = true → Q (oV (Kv402.at_ (Kv402.table n ls) u v)) H := fun z => by rw [if_pos z] at q; exact q
    have yes' : (isNear (Kv402.table n ls) (nearestAll (Kv402.table n ls) ch n) u v || isNear (Kv402.table n ls) (nearestAll (Kv402.table n ls) ch n) v u) = true → _ := fun z =>
      (⟨_, rfl, _, rfl, fa, fvs, _, _, rfl, rfl, SqL.of hf, atI_nat hfr, _, rfl, ra, _, _, _, rfl, rfl, SqL.of hra, atI_nat (map_cell (hq.cell hu hv)), yes z⟩ :
        tOp (rIxL K) (tOp (rIxL K) (tVar 0) (tVar 2)) (tVar 3) (start n_told_by_chosen [V.ref fa, V.ref ya, nV u, nV v]) H Q)
    refine ⟨_, rfl, _, rfl, _, rfl, _, rfl, n, Kv402.table n ls, nearestAll (Kv402.table n ls) ch n, u, v, _, _, rfl, hx, hy, hq, hnl, hu, hv, hok u hu, _, rfl, if2 (fun h => ?_) (fun h => ?_)⟩
    · exact iteT (yes' (by rw [h]; rfl))
    refine ⟨_, rfl, _, rfl, _, rfl, _, rfl, n, Kv402.table n ls, nearestAll (Kv402.table n ls) ch n, v, u, _, _, rfl, hx, hy, hq, hnl, hv, hu, hok v hv, _, rfl, if2 (fun h' => ?_) (fun h' => ?_)⟩
    · exact yes' (by rw [h, h']; rfl)
    rw [if_neg (by rw [h, h']; exact Bool.false_ne_true)] at q
    have hcu := getD_some (l := nearestAll (Kv402.table n ls) ch n) none (i := u) (by omega)
    have hcv := getD_some (l := nearestAll (Kv402.table n ls) ch n) none (i := v) (by omega)
    refine ⟨_, rfl, _, rfl, _, rfl, ya, _, _, _, rfl, rfl, SqL.of hya, atI_nat (map_cell hcu), _, rfl, _, rfl, n, Kv402.table n ls, _, u, v, _, rfl, hx, hq, hu, hv, fun k e => (hok u hu k e).1, ?_⟩
    refine ⟨_, rfl, _, rfl, _, rfl, ya, _, _, _, rfl, rfl, SqL.of hya, atI_nat (map_cell hcv), _, rfl, _, rfl, n, Kv402.table n ls, _, u, v, _, rfl, hx, hq, hu, hv, fun k e => (hok v hv k e).1, ?_⟩
    refine ⟨_, _, rfl, ?_⟩
    rw [viaR_one, viaR_two hF hu hv]
    exact q

def sp_chosen_places : Sp := fun vs H Q _ => ∃ ch n, vs = [nV ch, nV n] ∧ n ≤ 100 ∧ ∀ H' z, Same H H' → rInts (newOnly H H') z (Kv404.list_ n ch) → Q z H'
theorem k_chosen_places (B : Plain mg) (kc : Kept P w K mg base 1 "is_chosen" sp_is_chosen) (D : Here K mg "chosen_places" s_chosen_places ["choice", "places"]) : Kept P w K mg base 2 "chosen_places" sp_chosen_places := by
  refine kept_of D sc_chosen_places (fun vs H Q E h => ?_) (fun f cdv A outer s H vs Q E hr h => ?_)
  · obtain ⟨ch, n, rfl, _⟩ := h; rfl
  · obtain ⟨ch, n, rfl, hn, q⟩ := h
    -- choice 0, places 1, place 2
    refine ⟨_, pss_one (ps_ret (pe_lc (own := [("place", 2)]) (g := gName 2) (tt := tB (tCall sp_is_chosen [] E0 (tCons (tVar 0) (tCons (tVar 2) tNil)))) (te := tVar 2) rfl sc_chosen_places.nd (pi_range1 rfl B.range (pa_cons (pv 1) pa_nil))
        (blkOk_by (N := n_chosen_places) (sc := defScope s_chosen_places) (by decide +kernel)) (fun _ _ _ _ _ => pg_name (i := 2) sc_chosen_places.nd rfl (.inl rfl))
        (fun _ _ _ _ _ => pts_one (pt_val (pgo kc hr (pa_cons (pv 0) (pa_cons (pv 2) pa_nil))))) (fun _ _ _ _ _ => pv 2))), ?_⟩
    refine ⟨_, rfl, (n : Nat), rfl, by omega, by omega, fun D1 n1 => lc_range (lo := 0) (n := ((n : Nat) : Int).toNat)
      (fun i H' => H' = upd H D1 (.lst (((List.range i).filter (Kv404.in_ ch)).map nV))) rfl ?_ ?_⟩
    · rintro i H' hi rfl
      have hi' : i < n := by simpa using hi
      rw [Int.zero_add, List.range_succ, List.filter_append, List.map_append]
      refine ⟨rfl, _, rfl, _, rfl, ch, i, rfl, _, rfl, if2 (fun h => ?_) (fun h => ?_)⟩
      · rw [List.filter_cons_of_pos h, List.filter_nil]
        refine ⟨_, rfl, _, upd_same, ?_, by rw [upd_upd]; rfl⟩
        rw [List.length_map]
        have := List.length_filter_le (Kv404.in_ ch) (List.range i)
        rw [List.length_range] at this
        exact size100 (by omega)
      · rw [List.filter_cons_of_neg (by rw [h]; exact Bool.false_ne_true), List.filter_nil, List.map_nil, List.append_nil]
    · rintro H' rfl
      rw [show ((n : Nat) : Int).toNat = n by simp]
      exact q _ _ (same_new n1) ⟨D1, _, rfl, (new_at n1).trans upd_same, pairedN.2 rfl⟩

def sp_near_places : Sp := fun vs H Q _ => ∃ n t near p x y, vs = [x, y, nV p] ∧ rTab H x t ∧ rRow H y near ∧ Sq n t ∧ near.length = n ∧ n ≤ 100 ∧ p < n ∧ (∀ c, near.getD p none = some c → c < n ∧ (Kv402.at_ t p c).isSome = true) ∧
  ∀ H' z, Same H H' → rInts (newOnly H H') z ((List.range n).filter fun o => isNear t near p o) → Q z H'
theorem k_near_places (B : Plain mg) (kn : Kept P w K mg base 1 "is_near" sp_is_near) (D : Here K mg "near_places" s_near_places ["far", "nearest", "place"]) : Kept P w K mg base 2 "near_places" sp_near_places := by
  refine kept_of D sc_near_places (fun vs H Q E h => ?_) (fun f cdv A outer s H vs Q E hr h => ?_)
  · obtain ⟨n, t, near, p, x, y, rfl, _⟩ := h; rfl
  · obtain ⟨n, t, near, p, x, y, rfl, hx, hy, hq, hl, hn, hp, hc, q⟩ := h
    -- far 0, nearest 1, place 2, other 3
    refine ⟨_, pss_one (ps_ret (pe_lc (own := [("other", 3)]) (g := gName 3) (tt := tB (tCall sp_is_near [] E0 (tCons (tVar 0) (tCons (tVar 1) (tCons (tVar 2) (tCons (tVar 3) tNil)))))) (te := tVar 3) rfl sc_near_places.nd (pi_range1 rfl B.range (pa_cons (pe_callB call_len_seq (by rfl) B.len PySem.boot_len (pa_cons (pv 0) pa_nil)) pa_nil))
        (blkOk_by (N := n_near_places) (sc := defScope s_near_places) (by decide +kernel)) (fun _ _ _ _ _ => pg_name (i := 3) sc_near_places.nd rfl (.inl rfl))
        (fun _ _ _ _ _ => pts_one (pt_val (pgo kn hr (pa_cons (pv 0) (pa_cons (pv 1) (pa_cons (pv 2) (pa_cons (pv 3) pa_nil))))))) (fun _ _ _ _ _ => pv 3))), ?_⟩
    obtain ⟨fa, fvs, ra, rfl, hf, hfr, hra⟩ := tab_row hx hq hp
    have el : fvs.length = n := tab_len hx hq hf
    refine ⟨_, rfl, fa, fvs, rfl, .inl (SqL.of hf), (fvs.length : Nat), rfl, by omega, by omega, fun D1 n1 => lc_range (lo := 0) (n := ((fvs.length : Nat) : Int).toNat)
      (fun i H' => H' = upd H D1 (.lst (((List.range i).filter fun o => isNear t near p o).map nV))) rfl ?_ ?_⟩
    · rintro i H' hi rfl
      have hi' : i < n := by rw [el] at hi; simpa using hi
      rw [Int.zero_add, List.range_succ, List.filter_append, List.map_append]
      refine ⟨rfl, _, rfl, _, rfl, _, rfl, _, rfl, n, t, near, p, i, _, _, rfl, stays_tab _ _ _ _ (same_new n1) hx, stays_row _ _ _ _ (same_new n1) hy, hq, hl, hp, hi', hc, _, rfl, if2 (fun h => ?_) (fun h => ?_)⟩
      · rw [List.filter_cons_of_pos (p := fun o => isNear t near p o) h, List.filter_nil]
        refine ⟨_, rfl, _, upd_same, ?_, by rw [upd_upd]; rfl⟩
        rw [List.length_map]
        have := List.length_filter_le (fun o => isNear t near p o) (List.range i)
        rw [List.length_range] at this
        exact size100 (by omega)
      · rw [List.filter_cons_of_neg (p := fun o => isNear t near p o) (by rw [h]; exact Bool.false_ne_true), List.filter_nil, List.map_nil, List.append_nil]
    · rintro H' rfl
      rw [show ((fvs.length : Nat) : Int).toNat = n by rw [el]; simp]
      exact q _ _ (same_new n1) ⟨D1, _, rfl, (new_at n1).trans upd_same, pairedN.2 rfl⟩
end
end Nk
set_option Elab.async false
set_option maxRecDepth 100000
set_option maxHeartbeats 4000000
/-! Objects: how a desk and what is made of it lie in the heap; methods by their promises. -/
namespace Nk
open PySem PySem.Spec PyProof.Rows L2
section
variable {P : Program} {w : World} {K : PySem.W.Frag} {mg : Str → Option Value} {base : Heap}
/-- a method of the text in its class -/
structure HereM (K : PySem.W.Frag) (C : Addr) (m qual : Str) (st : Stmt) (ps : List Str) : Prop where
  ex : ∃ (f : Addr) (fd : FuncData), Fun K m qual st f fd ∧ Meth K C m f ∧ Binds K fd ps []
structure KeptM (P : Program) (w : World) (K : PySem.W.Frag) (mg : Str → Option Value) (base : Heap) (k : Nat) (C : Addr) (m : Str) (sp : Sp) : Prop where
  ex : ∃ (f : Addr) (fd : FuncData) (ps : List Str), FnOk P w K mg base CX0 k f fd ps sp ∧ Meth K C m f ∧ Binds K fd ps []
theorem keptM_of {C : Addr} {m qual : Str} {st : Stmt} {N ps : List Str} {k : Nat} {sp : Sp} (D : HereM K C m qual st ps) (S : FnScope N ps (defScope st)) (len : ∀ vs H Q E, sp vs H Q E → vs.length = ps.length)
    (body : ∀ (f : Addr) (cdv : Value) (A : Around) (outer : List Env) (s : Shared) (H : Hp) (vs : List V) (Q : VK) (E : XK), Room k (A.deeper (envOfC qual (defScope st) s.heap.objs.size f cdv)) → sp vs H Q E →
      ∃ t, PSs (cxOf CX0 P w K mg base N qual (defScope st) f cdv A outer s H E).nox (defBody st) t ∧ t { nx := fun _ H' => Q .non H', rt := Q } (start N vs) H) : KeptM P w K mg base (k + 1) C m sp := by
  obtain ⟨f, fd, F, m, b⟩ := D.ex
  exact ⟨f, fd, ps, F.ok S len (body f), m, b⟩
/-- a class that is made by its name; sp: what its __init__ promises -/
structure HereC (K : PySem.W.Frag) (mg : Str → Option Value) (C : Addr) (x qual : Str) (st : Stmt) (ps : List Str) : Prop where
  ex : ∃ (f : Addr) (fd : FuncData), Fun K "__init__" qual st f fd ∧ Mk K C f ∧ Binds K fd ps []
  mgc : mg x = some (.ref C)
structure KeptC (P : Program) (w : World) (K : PySem.W.Frag) (mg : Str → Option Value) (base : Heap) (k : Nat) (C : Addr) (x : Str) (sp : Sp) : Prop where
  ex : ∃ (f : Addr) (fd : FuncData) (ps : List Str), FnOk P w K mg base CX0 k f fd ps sp ∧ Mk K C f ∧ mg x = some (.ref C) ∧ Binds K fd ps []
theorem keptC_of {C : Addr} {x qual : Str} {st : Stmt} {N ps : List Str} {k : Nat} {sp : Sp} (D : HereC K mg C x qual st ps) (S : FnScope N ps (defScope st)) (len : ∀ vs H Q E, sp vs H Q E → vs.length = ps.length)
    (body : ∀ (f : Addr) (cdv : Value) (A : Around) (outer : List Env) (s : Shared) (H : Hp) (vs : List V) (Q : VK) (E : XK), Room k (A.deeper (envOfC qual (defScope st) s.heap.objs.size f cdv)) → sp vs H Q E →
      ∃ t, PSs (cxOf CX0 P w K mg base N qual (defScope st) f cdv A outer s H E).nox (defBody st) t ∧ t { nx := fun _ H' => Q .non H', rt := Q } (start N vs) H) : KeptC P w K mg base (k + 1) C x sp := by
  obtain ⟨f, fd, F, m, b⟩ := D.ex
  exact ⟨f, fd, ps, F.ok S len (body f), m, D.mgc, b⟩
end
section
variable {X : Cx} {k j : Nat} {C : Addr} {x m : Str} {sp : Sp} {p pos apos : Pos} {e o : Expr} {es : List Expr} {t : TA} {ta : TE} {pl : Sem Bool}
theorem pgm (c : KeptM X.prog X.w X.K X.mg X.base k C m sp) (cl : Cls X.K C) (hr : Room j X.A) (ho : PE X o ta) (ha : PA X (e :: es) t) (hk : k ≤ j := by decide)
    (hst : starEach (e :: es) X.env = (false, eval e X.env) :: starEach es X.env := by rfl) (hpl : (backTo pos (starEach es X.env)).any (·.1) = false := by rfl)
    (ht : eval (.Call (.Attribute o m apos) (e :: es) [] pos) X.env = (do let ov ← eval o X.env; standAt apos.atName; let (f, first) ← holding [ov] (getMethod ov m pl); callWith pos f first (backTo pos (starEach (e :: es) X.env)) (backToKw pos (keywordEach [] X.env))) := by rfl) :
    PE X (.Call (.Attribute o m apos) (e :: es) [] pos) (tMeth C m sp [] E0 ta t) := by
  obtain ⟨f, fd, ps, F, hm, b⟩ := c.ex
  exact pe_meth (pl := pl) ho cl hm F (hr.mono hk) b .nil pass0 ha hst hpl ht
theorem pgm0 (c : KeptM X.prog X.w X.K X.mg X.base k C m sp) (cl : Cls X.K C) (hr : Room j X.A) (ho : PE X o ta) (hk : k ≤ j := by decide)
    (ht : eval (.Call (.Attribute o m apos) [] [] pos) X.env = (do let ov ← eval o X.env; standAt apos.atName; let (f, first) ← holding [ov] (getMethod ov m pl); callWith pos f first (backTo pos (starEach [] X.env)) (backToKw pos (keywordEach [] X.env))) := by rfl) :
    PE X (.Call (.Attribute o m apos) [] [] pos) (tMeth C m sp [] E0 ta tNil) := by
  obtain ⟨f, fd, ps, F, hm, b⟩ := c.ex
  exact pe_meth0 (pl := pl) ho cl hm F (hr.mono hk) b .nil pass0 ht
theorem pgc (c : KeptC X.prog X.w X.K X.mg X.base k C x sp) (hr : Room j X.A) (ha : PA X (e :: es) t) (hk : k + 1 ≤ j := by decide) (hg : Gl X x := by rfl)
    (hdb : (x == ("__debug__" : Str)) = false := by decide) (he : starEach (e :: es) X.env = (false, eval e X.env) :: starEach es X.env := by rfl) (hpl : (backTo pos (starEach es X.env)).any (·.1) = false := by rfl) :
    PE X (.Call (.Name x p) (e :: es) [] pos) (tMake C sp [] E0 t) := by
  obtain ⟨f, fd, ps, F, M, hm, b⟩ := c.ex
  exact pe_make M F (hr.mono hk) hg hm b .nil pass0 ha hdb he hpl
end

/-! ## a desk, and what is made of it -/
def deskF (n : Nat) (vl : V) (t : Nat) (vo : V) (ch sent lost gone : Nat) (vm : V) : List (Str × V) :=
  [("places", nV n), ("lines", vl), ("times", nV t), ("order", vo), ("choice", nV ch), ("sent", nV sent), ("lost", nV lost), ("gone", nV gone), ("made", vm)]
def madeF (a b c nn d e f : V) : List (Str × V) := [("source", a), ("base", b), ("far", c), ("nearest", nn), ("marks", d), ("tables", e), ("addresses", f)]
def adrs (n : Nat) (s : List Kv402.Line) (ch : Nat) : List (Option Kv405.Address) := (List.range n).map (Kv405.address ⟨n, s⟩ (Kv402.table n s) ch)
def tabs (n : Nat) (s : List Kv402.Line) (ch : Nat) : List (List (Nat × Option Nat)) := (List.range n).map (tabOf n s ch)
/-- all that is made, of these lines, kept so, by this order and choice -/
structure All where
  n : Nat
  src : List Kv402.Line
  base : List Kv402.Line
  o : List Nat
  ch : Nat
def rMade (C : Addr) : Rep All := fun H v m => ∃ p dx a b c nn d e f, v = .ref p ∧ H p = some (.ins C dx (madeF a b c nn d e f)) ∧ rLines H a m.src ∧ rLines H b m.base ∧ rTab H c (Kv402.table m.n m.base) ∧ rRow H nn (nearestAll (Kv402.table m.n m.base) m.ch m.n) ∧
  rMarks H d (marksOf (Kv402.table m.n m.base) m.o) ∧ LOf rDict H e (tabs m.n m.base m.ch) ∧ LOf rAddr H f (adrs m.n m.base m.ch)
theorem stays_made {C : Addr} : Stays (rMade C) := fun _ _ _ _ s ⟨p, dx, a, b, c, nn, d, e, f, h0, h1, h2, h3, h4, hn, h5, h6, h7⟩ =>
  ⟨p, dx, a, b, c, nn, d, e, f, h0, s _ _ h1, stays_lines _ _ _ _ s h2, stays_lines _ _ _ _ s h3, stays_tab _ _ _ _ s h4, stays_row _ _ _ _ s hn, stays_marks _ _ _ _ s h5, stays_L stays_dict _ _ _ _ s h6, stays_L stays_addr _ _ _ _ s h7⟩
def allOf (a : Kv406.Now) : All := ⟨a.g.n, a.then_.lines, a.base.lines, a.o, a.s⟩
/-- what a desk's fields hold, over a heap -/
structure DeskV (CM : Addr) (H : Hp) (a : Kv406.Now) (l o m : V) : Prop where
  l : rLines H l a.g.lines
  o : rInts H o a.o
  m : rMade CM H m (allOf a)
theorem DeskV.on {CM : Addr} {H H' : Hp} {a : Kv406.Now} {l o m : V} (h : DeskV CM H a l o m) (s : Same H H') : DeskV CM H' a l o m := ⟨stays_lines _ _ _ _ s h.l, stays_ints _ _ _ _ s h.o, stays_made _ _ _ _ s h.m⟩
def deskOf (a : Kv406.Now) (l o m : V) : List (Str × V) := deskF a.g.n l a.t o a.s a.sent a.lost a.far m
def rDesk (CD CM : Addr) : Rep Kv406.Now := fun H v a => ∃ p dx l o m, v = .ref p ∧ H p = some (.ins CD dx (deskOf a l o m)) ∧ DeskV CM H a l o m
theorem stays_desk {CD CM : Addr} : Stays (rDesk CD CM) := fun _ _ _ _ s ⟨p, dx, l, o, m, e, h, v⟩ => ⟨p, dx, l, o, m, e, s _ _ h, v.on s⟩

/-- the classes, as the text has written them -/
structure DeskC (K : PySem.W.Frag) (C : Addr) : Prop where
  cl : Cls K C
  places : NoAttr K C "places"
  lines : NoAttr K C "lines"
  times : NoAttr K C "times"
  order : NoAttr K C "order"
  choice : NoAttr K C "choice"
  sent : NoAttr K C "sent"
  lost : NoAttr K C "lost"
  gone : NoAttr K C "gone"
  made : NoAttr K C "made"
structure MadeC (K : PySem.W.Frag) (C : Addr) : Prop where
  cl : Cls K C
  source : NoAttr K C "source"
  base : NoAttr K C "base"
  far : NoAttr K C "far"
  nearest : NoAttr K C "nearest"
  marks : NoAttr K C "marks"
  tables : NoAttr K C "tables"
  addresses : NoAttr K C "addresses"

section
variable {P : Program} {w : World} {K : PySem.W.Frag} {mg : Str → Option Value} {base : Heap}
def sp_has_places (CD : Addr) : Sp := fun vs H Q _ => ∃ n l t o ch s1 s2 s3 m p dx nums y, vs = [.ref p, y] ∧ H p = some (.ins CD dx (deskF n l t o ch s1 s2 s3 m)) ∧ rInts H y nums ∧ nums.length ≤ 100 ∧ ∀ H', Same H H' → Q (.bl (nums.all fun k => decide (k < n))) H'
theorem lt_dec (a n : Nat) : decide (((a : Nat) : Int) < ((n : Nat) : Int)) = decide (a < n) := by
  by_cases h : a < n
  · rw [decide_eq_true h, decide_eq_true (Int.ofNat_lt.2 h)]
  · rw [decide_eq_false h, decide_eq_false (fun z => h (Int.ofNat_lt.1 z))]
theorem k_has_places {CD : Addr} (B : Plain mg) (T : DeskC K CD) (D : HereM K CD "has_places" "Desk.has_places" s_Desk_has_places ["self", "numbers"]) : KeptM P w K mg base 1 CD "has_places" (sp_has_places CD) := by
  refine keptM_of D sc_Desk_has_places (fun vs H Q E h => ?_) (fun f cdv A outer s H vs Q E hr h => ?_)
  · obtain ⟨n, l, t, o, ch, s1, s2, s3, m, p, dx, nums, y, rfl, _⟩ := h; rfl
  · obtain ⟨n, l, t, o, ch, s1, s2, s3, m, p, dx, nums, y, rfl, hp, hy, hl, q⟩ := h
    -- self 0, numbers 1, number 2
    refine ⟨_, pss_one (ps_ret (pe_callB (cr_all rfl) (by rfl) B.all (by decide +kernel) (pa_cons (pe_lc (own := [("number", 2)]) (g := gName 2) (tt := tYes)
        (te := tOp (rI0 fun i j => .bl (decide (i < j))) (tVar 2) (tFld K (tVar 0) "places")) rfl sc_Desk_has_places.nd (pi_list (pv 1))
        (blkOk_by (N := n_Desk_has_places) (sc := defScope s_Desk_has_places) (by decide +kernel)) (fun _ _ _ _ _ => pg_name (i := 2) sc_Desk_has_places.nd rfl (.inl rfl)) (fun _ _ _ _ _ => pts_nil)
        (fun _ _ _ _ _ => pe_cmpR op_lt (pv 2) (pe_fld (pv 0) rfl) (nomark _))) pa_nil))), ?_⟩
    obtain ⟨ya, rfl, hya⟩ := ints_at hy
    refine ⟨_, rfl, ya, rfl, ⟨_, SqL.of hya⟩, fun D1 n1 => lc_list (K := K) (a := ya) (xs := nums.map nV) (fun i H' => H' = upd H D1 (.lst (((nums.take i).map fun k => decide (k < n)).map V.bl))) rfl ?_ ?_ ?_⟩
    · rintro i H' _ rfl
      exact SqL.of ((same_new n1) _ _ hya)
    · rintro i z H' hz rfl
      rw [List.getElem?_map] at hz
      obtain ⟨k, ek, rfl⟩ := Option.map_eq_some_iff.1 hz
      refine ⟨rfl, _, rfl, _, rfl, p, CD, dx, _, _, rfl, (same_new n1) _ _ hp, T.cl, T.places, rfl, _, _, rfl, rfl, _, upd_same, ?_, ?_⟩
      · rw [List.length_map, List.length_map, List.length_take]; exact size100 (by omega)
      · rw [upd_upd, take_snoc ek, List.map_append, List.map_append]
        dsimp only
        rw [lt_dec]; rfl
    · rintro H' rfl
      rw [List.length_map, List.take_of_length_le (Nat.le_refl _)]
      refine ⟨D1, _, rfl, SqL.of upd_same, ?_⟩
      rw [List.all_map]
      exact q _ (same_new n1)
end
end Nk
set_option Elab.async false
set_option maxRecDepth 100000
set_option maxHeartbeats 4000000
namespace Nk
open PySem PySem.Spec PyProof.Rows L2
def fd1 (a1 : V) : List (Str × V) := [("places", a1)]
def fd2 (a1 a2 : V) : List (Str × V) := [("places", a1), ("lines", a2)]
def fd3 (a1 a2 a3 : V) : List (Str × V) := [("places", a1), ("lines", a2), ("times", a3)]
def fd4 (a1 a2 a3 a4 : V) : List (Str × V) := [("places", a1), ("lines", a2), ("times", a3), ("order", a4)]
def fd5 (a1 a2 a3 a4 a5 : V) : List (Str × V) := [("places", a1), ("lines", a2), ("times", a3), ("order", a4), ("choice", a5)]
def fd6 (a1 a2 a3 a4 a5 a6 : V) : List (Str × V) := [("places", a1), ("lines", a2), ("times", a3), ("order", a4), ("choice", a5), ("sent", a6)]
def fd7 (a1 a2 a3 a4 a5 a6 a7 : V) : List (Str × V) := [("places", a1), ("lines", a2), ("times", a3), ("order", a4), ("choice", a5), ("sent", a6), ("lost", a7)]
def fd8 (a1 a2 a3 a4 a5 a6 a7 a8 : V) : List (Str × V) := [("places", a1), ("lines", a2), ("times", a3), ("order", a4), ("choice", a5), ("sent", a6), ("lost", a7), ("gone", a8)]
def fd9 (a1 a2 a3 a4 a5 a6 a7 a8 a9 : V) : List (Str × V) := [("places", a1), ("lines", a2), ("times", a3), ("order", a4), ("choice", a5), ("sent", a6), ("lost", a7), ("gone", a8), ("made", a9)]
theorem pf1 (a1 : V) : putF "places" a1 [] = fd1 a1 := rfl
theorem pf2 (a1 a2 : V) : putF "lines" a2 (fd1 a1) = fd2 a1 a2 := rfl
theorem pf3 (a1 a2 a3 : V) : putF "times" a3 (fd2 a1 a2) = fd3 a1 a2 a3 := rfl
theorem pf4 (a1 a2 a3 a4 : V) : putF "order" a4 (fd3 a1 a2 a3) = fd4 a1 a2 a3 a4 := rfl
theorem pf5 (a1 a2 a3 a4 a5 : V) : putF "choice" a5 (fd4 a1 a2 a3 a4) = fd5 a1 a2 a3 a4 a5 := rfl
theorem pf6 (a1 a2 a3 a4 a5 a6 : V) : putF "sent" a6 (fd5 a1 a2 a3 a4 a5) = fd6 a1 a2 a3 a4 a5 a6 := rfl
theorem pf7 (a1 a2 a3 a4 a5 a6 a7 : V) : putF "lost" a7 (fd6 a1 a2 a3 a4 a5 a6) = fd7 a1 a2 a3 a4 a5 a6 a7 := rfl
theorem pf8 (a1 a2 a3 a4 a5 a6 a7 a8 : V) : putF "gone" a8 (fd7 a1 a2 a3 a4 a5 a6 a7) = fd8 a1 a2 a3 a4 a5 a6 a7 a8 := rfl
theorem pf9 (a1 a2 a3 a4 a5 a6 a7 a8 a9 : V) : putF "made" a9 (fd8 a1 a2 a3 a4 a5 a6 a7 a8) = fd9 a1 a2 a3 a4 a5 a6 a7 a8 a9 := rfl
theorem fd_desk (n : Nat) (vl : V) (t : Nat) (vo : V) (ch sent lost gone : Nat) (vm : V) : fd9 (nV n) vl (nV t) vo (nV ch) (nV sent) (nV lost) (nV gone) vm = deskF n vl t vo ch sent lost gone vm := rfl
theorem put_lines {n t ch sent lost gone : Nat} {vl vo vm : V} (z : V) : putF "lines" z (deskF n vl t vo ch sent lost gone vm) = deskF n z t vo ch sent lost gone vm := rfl
theorem put_order {n t ch sent lost gone : Nat} {vl vo vm : V} (z : V) : putF "order" z (deskF n vl t vo ch sent lost gone vm) = deskF n vl t z ch sent lost gone vm := rfl
theorem put_made {n t ch sent lost gone : Nat} {vl vo vm : V} (z : V) : putF "made" z (deskF n vl t vo ch sent lost gone vm) = deskF n vl t vo ch sent lost gone z := rfl
theorem put_times {n t ch sent lost gone : Nat} {vl vo vm : V} (z : Nat) : putF "times" (nV z) (deskF n vl t vo ch sent lost gone vm) = deskF n vl z vo ch sent lost gone vm := rfl
theorem put_choice {n t ch sent lost gone : Nat} {vl vo vm : V} (z : Nat) : putF "choice" (nV z) (deskF n vl t vo ch sent lost gone vm) = deskF n vl t vo z sent lost gone vm := rfl
theorem put_sent {n t ch sent lost gone : Nat} {vl vo vm : V} (z : Nat) : putF "sent" (nV z) (deskF n vl t vo ch sent lost gone vm) = deskF n vl t vo ch z lost gone vm := rfl
theorem put_lost {n t ch sent lost gone : Nat} {vl vo vm : V} (z : Nat) : putF "lost" (nV z) (deskF n vl t vo ch sent lost gone vm) = deskF n vl t vo ch sent z gone vm := rfl
theorem put_gone {n t ch sent lost gone : Nat} {vl vo vm : V} (z : Nat) : putF "gone" (nV z) (deskF n vl t vo ch sent lost gone vm) = deskF n vl t vo ch sent lost z vm := rfl
theorem get_places {n t ch sent lost gone : Nat} {vl vo vm : V} : (deskF n vl t vo ch sent lost gone vm).lookup ("places" : Str) = some (nV n) := rfl
theorem get_lines {n t ch sent lost gone : Nat} {vl vo vm : V} : (deskF n vl t vo ch sent lost gone vm).lookup ("lines" : Str) = some vl := rfl
theorem get_times {n t ch sent lost gone : Nat} {vl vo vm : V} : (deskF n vl t vo ch sent lost gone vm).lookup ("times" : Str) = some (nV t) := rfl
theorem get_order {n t ch sent lost gone : Nat} {vl vo vm : V} : (deskF n vl t vo ch sent lost gone vm).lookup ("order" : Str) = some vo := rfl
theorem get_choice {n t ch sent lost gone : Nat} {vl vo vm : V} : (deskF n vl t vo ch sent lost gone vm).lookup ("choice" : Str) = some (nV ch) := rfl
theorem get_sent {n t ch sent lost gone : Nat} {vl vo vm : V} : (deskF n vl t vo ch sent lost gone vm).lookup ("sent" : Str) = some (nV sent) := rfl
theorem get_lost {n t ch sent lost gone : Nat} {vl vo vm : V} : (deskF n vl t vo ch sent lost gone vm).lookup ("lost" : Str) = some (nV lost) := rfl
theorem get_gone {n t ch sent lost gone : Nat} {vl vo vm : V} : (deskF n vl t vo ch sent lost gone vm).lookup ("gone" : Str) = some (nV gone) := rfl
theorem get_made {n t ch sent lost gone : Nat} {vl vo vm : V} : (deskF n vl t vo ch sent lost gone vm).lookup ("made" : Str) = some vm := rfl
theorem desk_len {n t ch sent lost gone : Nat} {vl vo vm : V} : (deskF n vl t vo ch sent lost gone vm).length = 9 := rfl
theorem no_twin {n t ch sent lost gone : Nat} {vl vo vm : V} : (deskF n vl t vo ch sent lost gone vm).lookup ("twin" : Str) = none := rfl
theorem no_make {n t ch sent lost gone : Nat} {vl vo vm : V} : (deskF n vl t vo ch sent lost gone vm).lookup ("make" : Str) = none := rfl
theorem no_has_places {n t ch sent lost gone : Nat} {vl vo vm : V} : (deskF n vl t vo ch sent lost gone vm).lookup ("has_places" : Str) = none := rfl
theorem no_message_goes {n t ch sent lost gone : Nat} {vl vo vm : V} : (deskF n vl t vo ch sent lost gone vm).lookup ("message_goes" : Str) = none := rfl
theorem no_message_way {n t ch sent lost gone : Nat} {vl vo vm : V} : (deskF n vl t vo ch sent lost gone vm).lookup ("message_way" : Str) = none := rfl
theorem no_chosen {n t ch sent lost gone : Nat} {vl vo vm : V} : (deskF n vl t vo ch sent lost gone vm).lookup ("chosen" : Str) = none := rfl
theorem no_count_marks {a b c nn d e f : V} : (madeF a b c nn d e f).lookup ("count_marks" : Str) = none := rfl
theorem no_count_near {a b c nn d e f : V} : (madeF a b c nn d e f).lookup ("count_near" : Str) = none := rfl
theorem no_count_entries {a b c nn d e f : V} : (madeF a b c nn d e f).lookup ("count_entries" : Str) = none := rfl
theorem no_post {n t ch sent lost gone : Nat} {vl vo vm : V} : (deskF n vl t vo ch sent lost gone vm).lookup ("post" : Str) = none := rfl
theorem rg_ints (n : Nat) : rgV 0 ((n : Nat) : Int) = (List.range n).map nV := by
  unfold rgV
  rw [Int.sub_zero, Int.toNat_natCast]
  refine List.map_congr_left fun i _ => ?_
  rw [Int.zero_add]; rfl
section
variable {P : Program} {w : World} {K : PySem.W.Frag} {mg : Str → Option Value} {base : Heap}

def sp_Desk_init (CD : Addr) : Sp := fun vs H Q _ => ∃ n p dx, vs = [.ref p, nV n] ∧ H p = some (.ins CD dx []) ∧ n ≤ 100 ∧
  ∀ H' l o, Same (wo H p) (wo H' p) → H' p = some (.ins CD dx (deskF n l 1 o 0 0 0 0 .non)) → rLines (wo H' p) l [] → rInts (wo H' p) o (List.range n) → Q .non H'
theorem k_Desk_init {CD : Addr} (B : Plain mg) (T : DeskC K CD) (D : HereC K mg CD "Desk" "Desk.__init__" s_Desk_init ["self", "places"]) : KeptC P w K mg base 1 CD "Desk" (sp_Desk_init CD) := by
  refine keptC_of D sc_Desk_init (fun vs H Q E h => ?_) (fun f cdv A outer s H vs Q E hr h => ?_)
  · obtain ⟨n, p, dx, rfl, _⟩ := h; rfl
  · obtain ⟨n, p, dx, rfl, hp, hn, q⟩ := h
    refine ⟨_, pss_cons (ps_fld (pv 0) (pv 1) rfl) (pss_cons (ps_fld (pv 0) (pe_lst pa_nil) rfl) (pss_cons (ps_fld (pv 0) pe_int rfl) (pss_cons (ps_fld (pv 0) (pe_listRg rfl rfl B.list (prg_1 rfl B.range (pv 1))) rfl)
      (pss_cons (ps_fld (pv 0) pe_int rfl) (pss_cons (ps_fld (pv 0) pe_int rfl) (pss_cons (ps_fld (pv 0) pe_int rfl) (pss_cons (ps_fld (pv 0) pe_int rfl) (pss_one (ps_fld (pv 0) pe_non rfl))))))))), ?_⟩
    refine ⟨_, rfl, _, rfl, p, CD, dx, _, rfl, hp, T.cl, T.places, (by show 0 < 1000; decide), ?_⟩
    rw [pf1]
    refine ⟨Nat.zero_le _, fun l nl => ?_⟩
    have npl : p ≠ l := fun e => by rw [e, upd_same] at nl; cases nl
    have nl0 : H l = none := by rw [upd_ne npl.symm] at nl; exact nl
    refine ⟨_, rfl, p, CD, dx, _, rfl, (upd_ne npl).trans upd_same, T.cl, T.lines, (by show 1 < 1000; decide), ?_⟩
    rw [pf2]
    refine ⟨_, rfl, p, CD, dx, _, rfl, upd_same, T.cl, T.times, (by show 2 < 1000; decide), ?_⟩
    rw [upd_upd, pf3]
    refine ⟨_, rfl, (n : Nat), rfl, RgOk.of_le (by omega) (by omega) (by omega) (by omega), fun o no => ?_⟩
    have npo : p ≠ o := fun e => by rw [e, upd_same] at no; cases no
    rw [upd_ne npo.symm] at no
    have nlo : l ≠ o := fun e => by rw [e, upd_same] at no; cases no
    rw [upd_ne nlo.symm, upd_ne npo.symm] at no
    refine ⟨_, rfl, p, CD, dx, _, rfl, (upd_ne npo).trans upd_same, T.cl, T.order, (by show 3 < 1000; decide), ?_⟩
    rw [pf4]
    refine ⟨_, rfl, p, CD, dx, _, rfl, upd_same, T.cl, T.choice, (by show 4 < 1000; decide), ?_⟩
    rw [upd_upd, pf5]
    refine ⟨_, rfl, p, CD, dx, _, rfl, upd_same, T.cl, T.sent, (by show 5 < 1000; decide), ?_⟩
    rw [upd_upd, pf6]
    refine ⟨_, rfl, p, CD, dx, _, rfl, upd_same, T.cl, T.lost, (by show 6 < 1000; decide), ?_⟩
    rw [upd_upd, pf7]
    refine ⟨_, rfl, p, CD, dx, _, rfl, upd_same, T.cl, T.gone, (by show 7 < 1000; decide), ?_⟩
    rw [upd_upd, pf8]
    refine ⟨_, rfl, p, CD, dx, _, rfl, upd_same, T.cl, T.made, (by show 8 < 1000; decide), ?_⟩
    rw [upd_upd, pf9]
    have hend : ∀ (H' : Hp), wo H' p = upd (upd (wo H p) l (.lst [])) o (.lst (rgV 0 ((n : Nat) : Int))) → Same (wo H p) (wo H' p) ∧ rLines (wo H' p) (.ref l) [] ∧ rInts (wo H' p) (.ref o) (List.range n) := by
      intro H' e
      rw [e]
      have s1 : Same (wo H p) (upd (wo H p) l (.lst [])) := same_new (wo_none nl0)
      have s2 : Same (upd (wo H p) l (.lst [])) (upd (upd (wo H p) l (.lst [])) o (.lst (rgV 0 ((n : Nat) : Int)))) := same_new (by rw [upd_ne nlo.symm]; exact wo_none no)
      exact ⟨s1.trans s2, ⟨l, [], rfl, s2 _ _ upd_same, .nil⟩, ⟨o, _, rfl, upd_same, pairedN.2 (rg_ints n)⟩⟩
    refine q _ (.ref l) (.ref o) (hend _ ?_).1 (upd_same.trans (congrArg (fun z => some (HO.ins CD dx z)) (fd_desk n (.ref l) 1 (.ref o) 0 0 0 0 .non))) (hend _ ?_).2.1 (hend _ ?_).2.2
    all_goals rw [wo_upd, wo_upd_ne npo.symm, wo_upd, wo_upd_ne npl.symm, wo_upd]

/-- a desk that is being set: its fields, and what they hold besides it -/
def sp_twin (CD : Addr) : Sp := fun vs H Q _ => ∃ n l t o ch s1 s2 s3 m p dx, vs = [.ref p] ∧ H p = some (.ins CD dx (deskF n l t o ch s1 s2 s3 m)) ∧ n ≤ 100 ∧
  ∀ H' q dq, Same H (wo H' q) → H q = none → H' q = some (.ins CD dq (deskF n l t o ch s1 s2 s3 m)) → Q (.ref q) H'
theorem k_twin {CD : Addr} (T : DeskC K CD) (ki : KeptC P w K mg base 1 CD "Desk" (sp_Desk_init CD)) (D : HereM K CD "twin" "Desk.twin" s_Desk_twin ["self"]) : KeptM P w K mg base 3 CD "twin" (sp_twin CD) := by
  refine keptM_of D sc_Desk_twin (fun vs H Q E h => ?_) (fun f cdv A outer s H vs Q E hr h => ?_)
  · obtain ⟨n, l, t, o, ch, s1, s2, s3, m, p, dx, rfl, _⟩ := h; rfl
  · obtain ⟨n, l, t, o, ch, s1, s2, s3, m, p, dx, rfl, hp, hn, q⟩ := h
    -- self 0, other 1
    refine ⟨_, pss_cons (ps_set (i := 1) sc_Desk_twin.nd rfl (.inl rfl) (pgc ki hr (pa_cons (pe_fld (pv 0) rfl) pa_nil)))
      (pss_cons (ps_fld (pv 1) (pe_fld (pv 0) rfl) rfl) (pss_cons (ps_fld (pv 1) (pe_fld (pv 0) rfl) rfl) (pss_cons (ps_fld (pv 1) (pe_fld (pv 0) rfl) rfl) (pss_cons (ps_fld (pv 1) (pe_fld (pv 0) rfl) rfl)
      (pss_cons (ps_fld (pv 1) (pe_fld (pv 0) rfl) rfl) (pss_cons (ps_fld (pv 1) (pe_fld (pv 0) rfl) rfl) (pss_cons (ps_fld (pv 1) (pe_fld (pv 0) rfl) rfl) (pss_cons (ps_fld (pv 1) (pe_fld (pv 0) rfl) rfl)
      (pss_one (ps_ret (pv 1))))))))))), ?_⟩
    refine ⟨_, rfl, p, CD, dx, _, _, rfl, hp, T.cl, T.places, get_places, fun x dq nx ndq ne => ?_⟩
    refine ⟨n, x, dq, rfl, upd_same, hn, fun H1 l1 o1 s4 hx _ _ => ⟨rfl, ?_⟩⟩
    have npx : p ≠ x := ne_of_none hp nx
    have sH : Same H (wo H1 x) := fun b u e => by
      have hbx : b ≠ x := ne_of_none e nx
      refine s4 b u ?_
      rw [wo_upd, wo_ne hbx, upd_ne (ne_of_none e ndq)]; exact e
    have hp1 : H1 p = some (.ins CD dx (deskF n l t o ch s1 s2 s3 m)) := (wo_ne (H := H1) npx).symm.trans (sH _ _ hp)
    have hpu : ∀ u, upd H1 x u p = some (.ins CD dx (deskF n l t o ch s1 s2 s3 m)) := fun u => by rw [upd_ne npx]; exact hp1
    refine ⟨_, rfl, p, CD, dx, _, _, rfl, hp1, T.cl, T.lines, get_lines, _, rfl, x, CD, dq, _, rfl, hx, T.cl, T.lines, (by show 9 < 1000; decide), ?_⟩
    rw [put_lines]
    refine ⟨_, rfl, p, CD, dx, _, _, rfl, hpu _, T.cl, T.times, get_times, _, rfl, x, CD, dq, _, rfl, upd_same, T.cl, T.times, (by show 9 < 1000; decide), ?_⟩
    rw [upd_upd, put_times]
    refine ⟨_, rfl, p, CD, dx, _, _, rfl, hpu _, T.cl, T.order, get_order, _, rfl, x, CD, dq, _, rfl, upd_same, T.cl, T.order, (by show 9 < 1000; decide), ?_⟩
    rw [upd_upd, put_order]
    refine ⟨_, rfl, p, CD, dx, _, _, rfl, hpu _, T.cl, T.choice, get_choice, _, rfl, x, CD, dq, _, rfl, upd_same, T.cl, T.choice, (by show 9 < 1000; decide), ?_⟩
    rw [upd_upd, put_choice]
    refine ⟨_, rfl, p, CD, dx, _, _, rfl, hpu _, T.cl, T.sent, get_sent, _, rfl, x, CD, dq, _, rfl, upd_same, T.cl, T.sent, (by show 9 < 1000; decide), ?_⟩
    rw [upd_upd, put_sent]
    refine ⟨_, rfl, p, CD, dx, _, _, rfl, hpu _, T.cl, T.lost, get_lost, _, rfl, x, CD, dq, _, rfl, upd_same, T.cl, T.lost, (by show 9 < 1000; decide), ?_⟩
    rw [upd_upd, put_lost]
    refine ⟨_, rfl, p, CD, dx, _, _, rfl, hpu _, T.cl, T.gone, get_gone, _, rfl, x, CD, dq, _, rfl, upd_same, T.cl, T.gone, (by show 9 < 1000; decide), ?_⟩
    rw [upd_upd, put_gone]
    refine ⟨_, rfl, p, CD, dx, _, _, rfl, hpu _, T.cl, T.made, get_made, _, rfl, x, CD, dq, _, rfl, upd_same, T.cl, T.made, (by show 9 < 1000; decide), ?_⟩
    rw [upd_upd, put_made]
    exact ⟨_, rfl, q _ x dq (by rw [wo_upd]; exact sH) nx upd_same⟩
end
end Nk
set_option Elab.async false
set_option maxRecDepth 100000
set_option maxHeartbeats 4000000
namespace Nk
open PySem PySem.Spec PyProof.Rows L2
def gd1 (a1 : V) : List (Str × V) := [("source", a1)]
def gd2 (a1 a2 : V) : List (Str × V) := [("source", a1), ("base", a2)]
def gd3 (a1 a2 a3 : V) : List (Str × V) := [("source", a1), ("base", a2), ("far", a3)]
def gd4 (a1 a2 a3 a4 : V) : List (Str × V) := [("source", a1), ("base", a2), ("far", a3), ("nearest", a4)]
def gd5 (a1 a2 a3 a4 a5 : V) : List (Str × V) := [("source", a1), ("base", a2), ("far", a3), ("nearest", a4), ("marks", a5)]
def gd6 (a1 a2 a3 a4 a5 a6 : V) : List (Str × V) := [("source", a1), ("base", a2), ("far", a3), ("nearest", a4), ("marks", a5), ("tables", a6)]
theorem pg1 (a1 : V) : putF "source" a1 [] = gd1 a1 := rfl
theorem pg2 (a1 a2 : V) : putF "base" a2 (gd1 a1) = gd2 a1 a2 := rfl
theorem pg3 (a1 a2 a3 : V) : putF "far" a3 (gd2 a1 a2) = gd3 a1 a2 a3 := rfl
theorem pg4 (a1 a2 a3 a4 : V) : putF "nearest" a4 (gd3 a1 a2 a3) = gd4 a1 a2 a3 a4 := rfl
theorem pg5 (a1 a2 a3 a4 a5 : V) : putF "marks" a5 (gd4 a1 a2 a3 a4) = gd5 a1 a2 a3 a4 a5 := rfl
theorem pg6 (a1 a2 a3 a4 a5 a6 : V) : putF "tables" a6 (gd5 a1 a2 a3 a4 a5) = gd6 a1 a2 a3 a4 a5 a6 := rfl
theorem pg7 (a1 a2 a3 a4 a5 a6 a7 : V) : putF "addresses" a7 (gd6 a1 a2 a3 a4 a5 a6) = madeF a1 a2 a3 a4 a5 a6 a7 := rfl
/-- told by lists, tuples and dicts alone: an instance is none of these -/
def OffI {α : Type} (F : Rep α) : Prop := ∀ H v x r C d fs, H r = some (.ins C d fs) → F H v x → F (wo H r) v x
theorem off_N : OffI rN := fun _ _ _ _ _ _ _ _ h => h
theorem off_O : OffI rO := fun _ _ _ _ _ _ _ _ h => h
theorem off_line : OffI rLine := fun H v x r C d fs hr ⟨a, e, h⟩ => ⟨a, e, by rw [wo_ne (ne_of h hr (by intro z; cases z))]; exact h⟩
theorem off_mark : OffI rMark := fun H v x r C d fs hr ⟨a, e, h⟩ => ⟨a, e, by rw [wo_ne (ne_of h hr (by intro z; cases z))]; exact h⟩
theorem off_dict : OffI rDict := fun H v x r C d fs hr ⟨a, e, h⟩ => ⟨a, e, by rw [wo_ne (ne_of h hr (by intro z; cases z))]; exact h⟩
theorem off_addr : OffI rAddr := fun H v x r C d fs hr h => by
  cases x with
  | none => exact h
  | some x => obtain ⟨a, e, h⟩ := h; exact ⟨a, e, by rw [wo_ne (ne_of h hr (by intro z; cases z))]; exact h⟩
theorem off_L {α : Type} {F : Rep α} (hF : OffI F) : OffI (LOf F) := fun H v x r C d fs hr ⟨a, vs, e, h, p⟩ =>
  ⟨a, vs, e, by rw [wo_ne (ne_of h hr (by intro z; cases z))]; exact h, Paired.mono (fun _ _ q => hF _ _ _ _ _ _ _ hr q) p⟩
theorem off_lines : OffI rLines := off_L off_line
theorem off_tab : OffI rTab := off_L (off_L off_O)
theorem off_marks : OffI rMarks := off_L (off_L off_mark)
theorem off_ints : OffI rInts := off_L off_N
/-- a desk whose fields are right, but for what is made: ready for making -/
structure Ready (n : Nat) (ls : List Kv402.Line) (t : Nat) (o : List Nat) (ch : Nat) : Prop where
  n8 : n ≤ 60
  lines : LinesOk n ls
  t9 : t ≤ 9
  o : OrderOk n o
def madeAll (n : Nat) (ls : List Kv402.Line) (t : Nat) (o : List Nat) (ch : Nat) : All := ⟨n, ls, (Kv402.Net.mk n ls).kept t, o, ch⟩
section
variable {P : Program} {w : World} {K : PySem.W.Frag} {mg : Str → Option Value} {base : Heap}
def sp_Made_init (CD CM : Addr) : Sp := fun vs H Q _ => ∃ n ls t o ch s1 s2 s3 vm l vo p dx r dr, vs = [.ref r, .ref p] ∧ H r = some (.ins CM dr []) ∧ p ≠ r ∧ H p = some (.ins CD dx (deskF n l t vo ch s1 s2 s3 vm)) ∧
  rLines (wo H r) l ls ∧ rInts (wo H r) vo o ∧ Ready n ls t o ch ∧
  ∀ H', Same (wo H r) (wo H' r) → rMade CM H' (.ref r) (madeAll n ls t o ch) → Q .non H'
theorem k_Made_init {CD CM : Addr} (B : Plain mg) (TD : DeskC K CD) (TM : MadeC K CM) (kk : Kept P w K mg base 3 "kept_lines" sp_kept_lines) (kd : Kept P w K mg base 3 "distances" sp_distances) (kn : Kept P w K mg base 2 "nearest_chosen" sp_nearest_chosen)
    (km : Kept P w K mg base 4 "marks_in_order" sp_marks_in_order) (kt : Kept P w K mg base 4 "table_of" sp_table_of) (ka : Kept P w K mg base 4 "address_of" sp_address_of)
    (D : HereC K mg CM "Made" "Made.__init__" s_Made_init ["self", "desk"]) : KeptC P w K mg base 5 CM "Made" (sp_Made_init CD CM) := by
  refine keptC_of D sc_Made_init (fun vs H Q E h => ?_) (fun f cdv A outer s H vs Q E hr h => ?_)
  · obtain ⟨n, ls, t, o, ch, s1, s2, s3, vm, l, vo, p, dx, r, dr, rfl, _⟩ := h; rfl
  · obtain ⟨n, ls, t, o, ch, s1, s2, s3, vm, l, vo, p, dx, r, dr, rfl, hr0, hpr, hp, hl, ho, R, q⟩ := h
    have nd := sc_Made_init.nd
    have bk : ∀ {scope own}, blkC n_Made_init (defScope s_Made_init) scope own = true → BlkOk n_Made_init (defScope s_Made_init) scope own := fun h => blkOk_by h
    refine ⟨_, pss_cons (ps_set (i := 2) nd rfl (.inl rfl) (pe_fld (pv 1) rfl))
      (pss_cons (ps_set (i := 3) nd rfl (.inr rfl) (pgo kk hr (pa_cons (pv 2) (pa_cons (pe_fld (pv 1) rfl) (pa_cons (pe_fld (pv 1) rfl) pa_nil)))))
      (pss_cons (ps_set (i := 4) nd rfl (.inr rfl) (pgo kd hr (pa_cons (pv 2) (pa_cons (pv 3) pa_nil))))
      (pss_cons (ps_asg (pe_lc (own := [("place", 6)]) (g := gName 6) (tt := tYes) (te := tCall sp_nearest_chosen [] E0 (tCons (tVar 4) (tCons (tFld K (tVar 1) "choice") (tCons (tVar 6) tNil)))) rfl nd (pi_range1 rfl B.range (pa_cons (pv 2) pa_nil))
          (blkOk_by (N := n_Made_init) (sc := defScope s_Made_init) (by decide +kernel)) (fun _ _ _ _ _ => pg_name (i := 6) nd rfl (.inl rfl)) (fun _ _ _ _ _ => pts_nil)
          (fun _ _ _ _ _ => pgo kn hr (pa_cons (pv 4) (pa_cons (pe_fld (pv 1) rfl) (pa_cons (pv 6) pa_nil))))) (pg_name (i := 5) nd rfl (.inr rfl)))
      (pss_cons (ps_fld (pv 0) (pe_fld (pv 1) rfl) rfl) (pss_cons (ps_fld (pv 0) (pv 3) rfl) (pss_cons (ps_fld (pv 0) (pv 4) rfl) (pss_cons (ps_fld (pv 0) (pv 5) rfl)
      (pss_cons (ps_fld (pv 0) (pgo km hr (pa_cons (pv 4) (pa_cons (pe_fld (pv 1) rfl) pa_nil))) rfl)
      (pss_cons (ps_fld (pv 0) (pe_lc (own := [("place", 6)]) (g := gName 6) (tt := tYes) (te := tCall sp_table_of [] E0 (tCons (tVar 4) (tCons (tVar 3) (tCons (tFld K (tVar 1) "choice") (tCons (tVar 5) (tCons (tVar 6) tNil)))))) rfl nd (pi_range1 rfl B.range (pa_cons (pv 2) pa_nil))
          (blkOk_by (N := n_Made_init) (sc := defScope s_Made_init) (by decide +kernel)) (fun _ _ _ _ _ => pg_name (i := 6) nd rfl (.inl rfl)) (fun _ _ _ _ _ => pts_nil)
          (fun _ _ _ _ _ => pgo kt hr (pa_cons (pv 4) (pa_cons (pv 3) (pa_cons (pe_fld (pv 1) rfl) (pa_cons (pv 5) (pa_cons (pv 6) pa_nil))))))) rfl)
      (pss_one (ps_fld (pv 0) (pe_lc (own := [("place", 6)]) (g := gName 6) (tt := tYes) (te := tCall sp_address_of [] E0 (tCons (tVar 4) (tCons (tVar 3) (tCons (tVar 5) (tCons (tVar 6) tNil))))) rfl nd (pi_range1 rfl B.range (pa_cons (pv 2) pa_nil))
          (blkOk_by (N := n_Made_init) (sc := defScope s_Made_init) (by decide +kernel)) (fun _ _ _ _ _ => pg_name (i := 6) nd rfl (.inl rfl)) (fun _ _ _ _ _ => pts_nil)
          (fun _ _ _ _ _ => pgo ka hr (pa_cons (pv 4) (pa_cons (pv 3) (pa_cons (pv 5) (pa_cons (pv 6) pa_nil)))))) rfl))))))))))), ?_⟩
    have hn : n ≤ 60 := R.n8
    have hF := R.lines.fine
    have hlt : ∀ l ∈ ls, l.a < n ∧ l.b < n := fun l hl => ⟨Nat.lt_trans (hF.lt l hl) (hF.ltn l hl), hF.ltn l hl⟩
    -- count = desk.places; base = kept_lines(count, desk.lines, desk.times)
    refine ⟨_, rfl, p, CD, dx, _, _, rfl, hp, TD.cl, TD.places, get_places, ?_⟩
    refine ⟨_, rfl, _, rfl, p, CD, dx, _, _, rfl, hp, TD.cl, TD.lines, get_lines, _, rfl, p, CD, dx, _, _, rfl, hp, TD.cl, TD.times, get_times, n, ls, t, _, rfl, stays_lines _ _ _ _ (wo_same _ _) hl, by omega, by have := R.lines.few; omega, by have := R.t9; omega, hlt, fun H1 v1 e1 b1 => ?_⟩
    rw [keptLines_eq hF] at b1
    have hK : LinesOk n ((Kv402.Net.mk n ls).kept t) := R.lines.sub kept_sublist
    have hKF := hK.fine
    unfold madeAll at q
    generalize (Kv402.Net.mk n ls).kept t = kb at b1 hK hKF q
    have hklt : ∀ l ∈ kb, l.a < n ∧ l.b < n := fun l hl => ⟨Nat.lt_trans (hKF.lt l hl) (hKF.ltn l hl), hKF.ltn l hl⟩
    -- far = distances(count, base)
    refine ⟨_, rfl, _, rfl, n, kb, _, rfl, b1, by omega, hklt, fun H2 v2 e2 t2 => ?_⟩
    rw [distances_eq kb hKF] at t2
    have hq := sq_table n kb hKF
    have e02 : Same H H2 := e1.trans e2
    have hp2 := e02 _ _ hp
    -- nearest = [..]
    refine ⟨_, rfl, (n : Nat), rfl, by omega, by omega, fun D1 n1 => lc_range (lo := 0) (n := ((n : Nat) : Int).toNat) (fun i H' => H' = upd H2 D1 (.lst (((List.range i).map (nearestOf (Kv402.table n kb) ch)).map oV))) rfl ?_ ?_⟩
    · rintro i H' hi rfl
      have hi' : i < n := by simpa using hi
      rw [Int.zero_add]
      refine ⟨rfl, _, rfl, _, rfl, p, CD, dx, _, _, rfl, (same_new n1) _ _ hp2, TD.cl, TD.choice, get_choice, _, rfl, n, Kv402.table n kb, ch, i, _, rfl, stays_tab _ _ _ _ (same_new n1) t2, hq, by omega, hi', _, upd_same, ?_, ?_⟩
      · rw [List.length_map, List.length_map, List.length_range]; exact size100 (by omega)
      · rw [upd_upd, List.range_succ, List.map_append, List.map_append]; rfl
    rintro H3 rfl
    rw [show ((n : Nat) : Int).toNat = n by simp]
    generalize hH3 : upd H2 D1 (.lst (((List.range n).map (nearestOf (Kv402.table n kb) ch)).map oV)) = H3
    have e23 : Same H2 H3 := by rw [← hH3]; exact same_new n1
    have e03 : Same H H3 := e02.trans e23
    have hr3 := e03 _ _ hr0
    have hp3 := e03 _ _ hp
    have hN : rRow H3 (.ref D1) (nearestAll (Kv402.table n kb) ch n) := ⟨D1, _, rfl, by rw [← hH3]; exact upd_same, pairedO.2 rfl⟩
    have c1 := off_lines _ _ _ _ _ _ _ hr3 (stays_lines _ _ _ _ (e2.trans e23) b1)
    have c2 := off_tab _ _ _ _ _ _ _ hr3 (stays_tab _ _ _ _ e23 t2)
    have c3 := off_L off_O _ _ _ _ _ _ _ hr3 hN
    have w03 : Same (wo H r) (wo H3 r) := wo_mono e03
    -- self.source, self.base, self.far
    refine ⟨_, rfl, p, CD, dx, _, _, rfl, hp3, TD.cl, TD.lines, get_lines, _, rfl, r, CM, dr, _, rfl, hr3, TM.cl, TM.source, (by show 0 < 1000; decide), ?_⟩
    rw [pg1]
    refine ⟨_, rfl, _, rfl, r, CM, dr, _, rfl, upd_same, TM.cl, TM.base, (by show 1 < 1000; decide), ?_⟩
    rw [upd_upd, pg2]
    refine ⟨_, rfl, _, rfl, r, CM, dr, _, rfl, upd_same, TM.cl, TM.far, (by show 2 < 1000; decide), ?_⟩
    rw [upd_upd, pg3]
    refine ⟨_, rfl, _, rfl, r, CM, dr, _, rfl, upd_same, TM.cl, TM.nearest, (by show 3 < 1000; decide), ?_⟩
    rw [upd_upd, pg4]
    -- self.marks = marks_in_order(far, desk.order)
    have u3 : Same (wo H3 r) (upd H3 r (.ins CM dr (gd4 l v1 v2 (.ref D1)))) := fun b u e => by
      have hb : b ≠ r := fun z => by rw [z, wo_at] at e; cases e
      rw [upd_ne hb]; rw [wo_ne hb] at e; exact e
    have hpw : wo H3 r p = some (.ins CD dx (deskF n l t vo ch s1 s2 s3 vm)) := by rw [wo_ne hpr]; exact hp3
    refine ⟨_, rfl, _, rfl, p, CD, dx, _, _, rfl, u3 _ _ hpw, TD.cl, TD.order, get_order, n, Kv402.table n kb, o, _, _, rfl, stays_tab _ _ _ _ u3 c2, stays_ints _ _ _ _ (w03.trans u3) ho, hq, by omega, by have := R.o.1; omega, R.o.lt, fun H4 v4 e4 m4 => ?_⟩
    have hr4 := e4 _ _ (upd_same (H := H3) (a := r) (o := .ins CM dr (gd4 l v1 v2 (.ref D1))))
    have w34 : Same (wo H3 r) (wo H4 r) := by have := wo_mono (a := r) e4; rw [wo_upd] at this; exact this
    have c4 := off_marks _ _ _ _ _ _ _ hr4 m4
    refine ⟨_, rfl, r, CM, dr, _, rfl, hr4, TM.cl, TM.marks, (by show 4 < 1000; decide), ?_⟩
    rw [pg5]
    -- self.tables = [..]
    have u4 : Same (wo H4 r) (upd H4 r (.ins CM dr (gd5 l v1 v2 (.ref D1) v4))) := fun b u e => by
      have hb : b ≠ r := fun z => by rw [z, wo_at] at e; cases e
      rw [upd_ne hb]; rw [wo_ne hb] at e; exact e
    have hr4' : (upd H4 r (.ins CM dr (gd5 l v1 v2 (.ref D1) v4))) r = some (.ins CM dr (gd5 l v1 v2 (.ref D1) v4)) := upd_same
    have ew4 : wo (upd H4 r (.ins CM dr (gd5 l v1 v2 (.ref D1) v4))) r = wo H4 r := wo_upd
    generalize upd H4 r (.ins CM dr (gd5 l v1 v2 (.ref D1) v4)) = H5 at u4 hr4' ew4
    have w35 : Same (wo H3 r) H5 := w34.trans u4
    refine ⟨_, rfl, (n : Nat), rfl, by omega, by omega, fun D2 n2 => lc_range (lo := 0) (n := ((n : Nat) : Int).toNat) (fun i H' => Grow rDict H5 H' D2 ((List.range i).map (tabOf n kb ch))) (Grow.start n2) ?_ ?_⟩
    · intro i H' hi g
      have hi' : i < n := by simpa using hi
      rw [Int.zero_add]
      have wg : Same (wo H3 r) H' := w35.trans g.all
      obtain ⟨vs, ev, _⟩ := g.items
      refine ⟨rfl, _, rfl, _, rfl, _, rfl, p, CD, dx, _, _, rfl, wg _ _ hpw, TD.cl, TD.choice, get_choice, _, rfl, _, rfl, n, kb, ch, i, _, _, _, rfl, stays_tab _ _ _ _ wg c2, stays_lines _ _ _ _ wg c1, stays_row _ _ _ _ wg c3, hKF, by omega, hi', fun H6 v6 e6 d6 => ⟨vs, e6 _ _ ev, ?_, ?_⟩⟩
      · rw [g.len ev, List.length_map, List.length_range]; exact size100 (by omega)
      · rw [List.range_succ, List.map_append]
        exact Grow.push (g.on stays_dict e6) (e6 _ _ ev) (stays_dict _ _ _ _ (new_wo ev) d6)
    intro H6 g6
    rw [show ((n : Nat) : Int).toNat = n by simp] at g6
    have hr6 := g6.all _ _ hr4'
    have c5 := off_L off_dict _ _ _ _ _ _ _ hr6 (g6.done stays_dict)
    have w56 : Same (wo H4 r) (wo H6 r) := by rw [← ew4]; exact wo_mono g6.all
    refine ⟨_, rfl, r, CM, dr, _, rfl, hr6, TM.cl, TM.tables, (by show 5 < 1000; decide), ?_⟩
    rw [pg6]
    -- self.addresses = [..]
    have u6 : Same (wo H6 r) (upd H6 r (.ins CM dr (gd6 l v1 v2 (.ref D1) v4 (.ref D2)))) := fun b u e => by
      have hb : b ≠ r := fun z => by rw [z, wo_at] at e; cases e
      rw [upd_ne hb]; rw [wo_ne hb] at e; exact e
    have hr6' : (upd H6 r (.ins CM dr (gd6 l v1 v2 (.ref D1) v4 (.ref D2)))) r = some (.ins CM dr (gd6 l v1 v2 (.ref D1) v4 (.ref D2))) := upd_same
    have ew6 : wo (upd H6 r (.ins CM dr (gd6 l v1 v2 (.ref D1) v4 (.ref D2)))) r = wo H6 r := wo_upd
    generalize upd H6 r (.ins CM dr (gd6 l v1 v2 (.ref D1) v4 (.ref D2))) = H7 at u6 hr6' ew6
    have w37 : Same (wo H3 r) H7 := (w34.trans w56).trans u6
    refine ⟨_, rfl, (n : Nat), rfl, by omega, by omega, fun D3 n3 => lc_range (lo := 0) (n := ((n : Nat) : Int).toNat) (fun i H' => Grow rAddr H7 H' D3 ((List.range i).map (Kv405.address ⟨n, kb⟩ (Kv402.table n kb) ch))) (Grow.start n3) ?_ ?_⟩
    · intro i H' hi g
      have hi' : i < n := by simpa using hi
      rw [Int.zero_add]
      have wg : Same (wo H3 r) H' := w37.trans g.all
      obtain ⟨vs, ev, _⟩ := g.items
      refine ⟨rfl, _, rfl, _, rfl, _, rfl, _, rfl, n, kb, ch, i, _, _, _, rfl, stays_tab _ _ _ _ wg c2, stays_lines _ _ _ _ wg c1, stays_row _ _ _ _ wg c3, hKF, by omega, hi', fun H8 v8 e8 d8 => ⟨vs, e8 _ _ ev, ?_, ?_⟩⟩
      · rw [g.len ev, List.length_map, List.length_range]; exact size100 (by omega)
      · rw [List.range_succ, List.map_append]
        exact Grow.push (g.on stays_addr e8) (e8 _ _ ev) (stays_addr _ _ _ _ (new_wo ev) d8)
    intro H8 g8
    rw [show ((n : Nat) : Int).toNat = n by simp] at g8
    have hr8 := g8.all _ _ hr6'
    have c6 := off_L off_addr _ _ _ _ _ _ _ hr8 (g8.done stays_addr)
    have w68 : Same (wo H6 r) (wo H8 r) := by rw [← ew6]; exact wo_mono g8.all
    refine ⟨_, rfl, r, CM, dr, _, rfl, hr8, TM.cl, TM.addresses, (by show 6 < 1000; decide), ?_⟩
    rw [pg7]
    have u8 : Same (wo H8 r) (upd H8 r (.ins CM dr (madeF l v1 v2 (.ref D1) v4 (.ref D2) (.ref D3)))) := fun b u e => by
      have hb : b ≠ r := fun z => by rw [z, wo_at] at e; cases e
      rw [upd_ne hb]; rw [wo_ne hb] at e; exact e
    have w48 : Same (wo H4 r) (wo H8 r) := w56.trans w68
    have w38 : Same (wo H3 r) (wo H8 r) := w34.trans w48
    refine q _ (by rw [wo_upd]; exact w03.trans w38) ⟨r, dr, _, _, _, _, _, _, _, rfl, upd_same, stays_lines _ _ _ _ ((w03.trans w38).trans u8) hl, stays_lines _ _ _ _ (w38.trans u8) c1, stays_tab _ _ _ _ (w38.trans u8) c2, stays_row _ _ _ _ (w38.trans u8) c3, ?_, stays_L stays_dict _ _ _ _ (w68.trans u8) c5, stays_L stays_addr _ _ _ _ u8 c6⟩
    exact stays_marks _ _ _ _ (w48.trans u8) c4
end
end Nk
set_option Elab.async false
set_option maxRecDepth 100000
set_option maxHeartbeats 4000000
namespace Nk
open PySem PySem.Spec PyProof.Rows L2
theorem off_made {CM C : Addr} {H : Hp} {v : V} {m : All} {p d : Addr} {fs : List (Str × V)} (hp : H p = some (.ins C d fs)) (ne : v ≠ .ref p) (h : rMade CM H v m) : rMade CM (wo H p) v m := by
  obtain ⟨x, dx, a, b, c, nn, d', e, f, rfl, h1, h2, h3, h4, hn, h5, h6, h7⟩ := h
  have hx : x ≠ p := fun z => ne (by rw [z])
  exact ⟨x, dx, a, b, c, nn, d', e, f, rfl, by rw [wo_ne hx]; exact h1, off_lines _ _ _ _ _ _ _ hp h2, off_lines _ _ _ _ _ _ _ hp h3, off_tab _ _ _ _ _ _ _ hp h4, off_L off_O _ _ _ _ _ _ _ hp hn, off_marks _ _ _ _ _ _ _ hp h5, off_L off_dict _ _ _ _ _ _ _ hp h6, off_L off_addr _ _ _ _ _ _ _ hp h7⟩
theorem upd_over {H : Hp} {r : Addr} {o : HO} : Same (wo H r) (upd H r o) := fun b u e => by
  have hb : b ≠ r := fun z => by rw [z, wo_at] at e; cases e
  rw [upd_ne hb]; rw [wo_ne hb] at e; exact e
section
variable {P : Program} {w : World} {K : PySem.W.Frag} {mg : Str → Option Value} {base : Heap}
def sp_make (CD CM : Addr) : Sp := fun vs H Q _ => ∃ n ls t o ch s1 s2 s3 vm l vo p dx, vs = [.ref p] ∧ H p = some (.ins CD dx (deskF n l t vo ch s1 s2 s3 vm)) ∧ rLines (wo H p) l ls ∧ rInts (wo H p) vo o ∧ Ready n ls t o ch ∧
  ∀ H' m, Same (wo H p) (wo H' p) → H' p = some (.ins CD dx (deskF n l t vo ch s1 s2 s3 m)) → rMade CM (wo H' p) m (madeAll n ls t o ch) → Q .non H'
theorem k_make {CD CM : Addr} (TD : DeskC K CD) (ki : KeptC P w K mg base 5 CM "Made" (sp_Made_init CD CM)) (D : HereM K CD "make" "Desk.make" s_Desk_make ["self"]) : KeptM P w K mg base 7 CD "make" (sp_make CD CM) := by
  refine keptM_of D sc_Desk_make (fun vs H Q E h => ?_) (fun f cdv A outer s H vs Q E hr h => ?_)
  · obtain ⟨n, ls, t, o, ch, s1, s2, s3, vm, l, vo, p, dx, rfl, _⟩ := h; rfl
  · obtain ⟨n, ls, t, o, ch, s1, s2, s3, vm, l, vo, p, dx, rfl, hp, hl, ho, R, q⟩ := h
    refine ⟨_, pss_one (ps_fld (pv 0) (pgc ki hr (pa_cons (pv 0) pa_nil)) rfl), ?_⟩
    refine ⟨_, rfl, fun x dr nx ndr ne => ?_⟩
    have hpx : p ≠ x := ne_of_none hp nx
    have hpd : p ≠ dr := ne_of_none hp ndr
    have sH : Same H (wo (upd (upd H dr (.own x)) x (.ins CM dr [])) x) := fun b u e => by
      rw [wo_upd, wo_ne (ne_of_none e nx), upd_ne (ne_of_none e ndr)]; exact e
    refine ⟨n, ls, t, o, ch, s1, s2, s3, vm, l, vo, p, dx, x, dr, rfl, upd_same, hpx, by rw [upd_ne hpx, upd_ne hpd]; exact hp, stays_lines _ _ _ _ ((wo_same _ _).trans sH) hl, stays_ints _ _ _ _ ((wo_same _ _).trans sH) ho, R, fun H1 e1 m1 => ⟨rfl, ?_⟩⟩
    have sH1 : Same H (wo H1 x) := sH.trans e1
    have hp1 : H1 p = some (.ins CD dx (deskF n l t vo ch s1 s2 s3 vm)) := (wo_ne (H := H1) hpx).symm.trans (sH1 _ _ hp)
    refine ⟨_, rfl, p, CD, dx, _, rfl, hp1, TD.cl, TD.made, (by rw [desk_len]; decide), ?_⟩
    rw [put_made]
    refine q _ (.ref x) ?_ upd_same ?_
    · rw [wo_upd]; exact wo_mono (sH1.trans (wo_same _ _))
    · rw [wo_upd]
      exact off_made hp1 (by intro z; cases z; exact hpx rfl) m1

def sp_new_desk (CD CM : Addr) : Sp := fun vs H Q _ => ∃ n, vs = [nV n] ∧ 1 ≤ n ∧ n ≤ 8 ∧ ∀ H' v, Same H H' → rDesk CD CM H' v (Kv406.begun n).now → Q v H'
theorem k_new_desk {CD CM : Addr} (TD : DeskC K CD) (ki : KeptC P w K mg base 1 CD "Desk" (sp_Desk_init CD)) (km : KeptM P w K mg base 7 CD "make" (sp_make CD CM)) (D : Here K mg "new_desk" s_new_desk ["places"]) : Kept P w K mg base 8 "new_desk" (sp_new_desk CD CM) := by
  refine kept_of D sc_new_desk (fun vs H Q E h => ?_) (fun f cdv A outer s H vs Q E hr h => ?_)
  · obtain ⟨n, rfl, _⟩ := h; rfl
  · obtain ⟨n, rfl, h1, h8, q⟩ := h
    refine ⟨_, pss_cons (ps_set (i := 1) sc_new_desk.nd rfl (.inl rfl) (pgc ki hr (pa_cons (pv 0) pa_nil)))
      (pss_cons (ps_expr (pgm0 km TD.cl hr (pv 1))) (pss_one (ps_ret (pv 1)))), ?_⟩
    refine ⟨_, rfl, fun x dx nx ndx ne => ?_⟩
    refine ⟨n, x, dx, rfl, upd_same, by omega, fun H1 l o e1 hx hl ho => ⟨rfl, ?_⟩⟩
    have sH : Same H (wo H1 x) := fun b u e => by
      refine e1 b u ?_
      rw [wo_upd, wo_ne (ne_of_none e nx), upd_ne (ne_of_none e ndx)]; exact e
    refine ⟨_, rfl, x, dx, _, rfl, hx, no_make, n, [], 1, List.range n, 0, 0, 0, 0, .non, l, o, x, dx, rfl, hx, hl, ho, ⟨by omega, .nil n, by decide, ⟨by simp, fun v hv => List.mem_range.2 hv⟩⟩, fun H2 m e2 hx2 hm => ?_⟩
    refine ⟨_, rfl, q _ _ (sH.trans (e2.trans (wo_same _ _))) ⟨x, dx, l, o, m, rfl, hx2, ?_, ?_, ?_⟩⟩
    · exact stays_lines _ _ _ _ (e2.trans (wo_same _ _)) hl
    · exact stays_ints _ _ _ _ (e2.trans (wo_same _ _)) ho
    · exact stays_made _ _ _ _ (wo_same _ _) hm

theorem base_eq {a : Kv406.Now} (h : NowOk a) : a.base = ⟨a.g.n, a.base.lines⟩ := by
  have := h.base_n
  cases hb : a.base with
  | mk n ls => rw [hb] at this; simp at this; rw [this]
theorem route_eq {a : Kv406.Now} (h : NowOk a) (u v : Nat) : a.route u v = Kv405.route ⟨a.g.n, a.base.lines⟩ (Kv402.table a.g.n a.base.lines) a.s u v := by
  unfold Kv406.Now.route
  have e : a.base.n = a.g.n := h.base_n
  generalize a.base = b at e
  cases b with
  | mk n ls => simp only at e; subst e; rfl
theorem route_len {n : Nat} {s : List Kv402.Line} (h : Fine n s) {ch u v : Nat} (hu : u < n) (hv : v < n) : (Kv405.route ⟨n, s⟩ (Kv402.table n s) ch u v).length ≤ 2 * n + 1 ∧ Kv405.route ⟨n, s⟩ (Kv402.table n s) ch u v ≠ [] := by
  obtain ⟨_, e, _⟩ := route_G h (ch := ch) hu hv
  rw [← e]
  refine ⟨wayG_len _ _ _, fun z => ?_⟩
  have := wayG_pos (onOf n s ch (Kv405.address ⟨n, s⟩ (Kv402.table n s) ch v)) (2 * n) u
  rw [z] at this; simp at this
def sp_message_way (CD CM : Addr) : Sp := fun vs H Q _ => ∃ a u v x, vs = [x, nV u, nV v] ∧ rDesk CD CM H x a ∧ NowOk a ∧ u < a.g.n ∧ v < a.g.n ∧ ∀ H' z, Same H H' → rInts (newOnly H H') z (a.route u v) → Q z H'
theorem k_message_way {CD CM : Addr} (TD : DeskC K CD) (TM : MadeC K CM) (kw : Kept P w K mg base 2 "way_of" sp_way_of) (D : HereM K CD "message_way" "Desk.message_way" s_Desk_message_way ["self", "u", "v"]) :
    KeptM P w K mg base 3 CD "message_way" (sp_message_way CD CM) := by
  refine keptM_of D sc_Desk_message_way (fun vs H Q E h => ?_) (fun f cdv A outer s H vs Q E hr h => ?_)
  · obtain ⟨a, u, v, x, rfl, _⟩ := h; rfl
  · obtain ⟨a, u, v, x, rfl, ⟨p, dx, l, o, m, rfl, hp, V0⟩, ok, hu, hv, q⟩ := h
    refine ⟨_, pss_one (ps_ret (pgo kw hr (pa_cons (pe_fld (pe_fld (pv 0) rfl) rfl) (pa_cons (pe_ix ix_list (pe_fld (pe_fld (pv 0) rfl) rfl) (pv 2) (fun _ _ => rfl)) (pa_cons (pv 1) pa_nil))))), ?_⟩
    obtain ⟨mp, dm, ma, mb, mc, mn, md, me, mf, rfl, hm, _, _, _, _, _, hT, hA⟩ := V0.m
    have hF := ok.base.fine
    have eadr : (adrs a.g.n a.base.lines a.s)[v]? = some (Kv405.address ⟨a.g.n, a.base.lines⟩ (Kv402.table a.g.n a.base.lines) a.s v) := by
      unfold adrs; rw [List.getElem?_map, List.getElem?_range hv]; rfl
    obtain ⟨fa, fvs, y, rfl, hfa, hy, hadr⟩ := l_item hA eadr
    refine ⟨_, rfl, p, CD, dx, _, _, rfl, hp, TD.cl, TD.made, get_made, mp, CM, dm, _, _, rfl, hm, TM.cl, TM.tables, rfl, _, rfl, p, CD, dx, _, _, rfl, hp, TD.cl, TD.made, get_made, mp, CM, dm, _, _, rfl, hm, TM.cl, TM.addresses, rfl, _, rfl, fa, fvs, _, _, rfl, rfl, SqL.of hfa, atI_nat hy,
      _, rfl, a.g.n, a.base.lines, a.s, u, v, _, _, rfl, hT, hadr, hF, by have := ok.n8; omega, hu, hv, fun H1 z e1 hz => q _ _ e1 ?_⟩
    rw [route_eq ok]; exact hz
def sp_message_goes (CD CM : Addr) : Sp := fun vs H Q _ => ∃ a u v x, vs = [x, nV u, nV v] ∧ rDesk CD CM H x a ∧ NowOk a ∧ u < a.g.n ∧ v < a.g.n ∧ ∀ H', Same H H' → Q (oV (howFar a.g.lines (a.route u v) v)) H'
theorem k_message_goes {CD CM : Addr} (TD : DeskC K CD) (kw : KeptM P w K mg base 3 CD "message_way" (sp_message_way CD CM)) (kh : Kept P w K mg base 3 "how_far" sp_how_far) (D : HereM K CD "message_goes" "Desk.message_goes" s_Desk_message_goes ["self", "u", "v"]) :
    KeptM P w K mg base 4 CD "message_goes" (sp_message_goes CD CM) := by
  refine keptM_of D sc_Desk_message_goes (fun vs H Q E h => ?_) (fun f cdv A outer s H vs Q E hr h => ?_)
  · obtain ⟨a, u, v, x, rfl, _⟩ := h; rfl
  · obtain ⟨a, u, v, x, rfl, hD, ok, hu, hv, q⟩ := h
    obtain ⟨p, dx, l, o, m, rfl, hp, V0⟩ := id hD
    refine ⟨_, pss_one (ps_ret (pgo kh hr (pa_cons (pe_fld (pv 0) rfl) (pa_cons (pgm kw TD.cl hr (pv 0) (pa_cons (pv 1) (pa_cons (pv 2) pa_nil))) (pa_cons (pv 2) pa_nil))))), ?_⟩
    refine ⟨_, rfl, p, CD, dx, _, _, rfl, hp, TD.cl, TD.lines, get_lines, _, rfl, p, dx, _, rfl, hp, no_message_way, _, rfl, _, rfl, a, u, v, _, rfl, hD, ok, hu, hv, fun H1 z e1 hz => ?_⟩
    obtain ⟨hlen, hne⟩ := route_len ok.base.fine (ch := a.s) hu hv
    rw [← route_eq ok] at hlen hne
    exact ⟨_, rfl, a.g.lines, _, v, _, _, rfl, stays_lines _ _ _ _ e1 V0.l, stays_ints _ _ _ _ (new_sub _ _) hz, ok.g.fine.lt, hne, by have := ok.n8; omega, q _ e1⟩
def sp_Desk_chosen (CD CM : Addr) : Sp := fun vs H Q _ => ∃ a x, vs = [x] ∧ rDesk CD CM H x a ∧ NowOk a ∧ ∀ H' z, Same H H' → rInts (newOnly H H') z (Kv404.list_ a.g.n a.s) → Q z H'
theorem k_Desk_chosen {CD CM : Addr} (TD : DeskC K CD) (kc : Kept P w K mg base 2 "chosen_places" sp_chosen_places) (D : HereM K CD "chosen" "Desk.chosen" s_Desk_chosen ["self"]) : KeptM P w K mg base 3 CD "chosen" (sp_Desk_chosen CD CM) := by
  refine keptM_of D sc_Desk_chosen (fun vs H Q E h => ?_) (fun f cdv A outer s H vs Q E hr h => ?_)
  · obtain ⟨a, x, rfl, _⟩ := h; rfl
  · obtain ⟨a, x, rfl, ⟨p, dx, l, o, m, rfl, hp, V0⟩, ok, q⟩ := h
    have hn := ok.n8
    refine ⟨_, pss_one (ps_ret (pgo kc hr (pa_cons (pe_fld (pv 0) rfl) (pa_cons (pe_fld (pv 0) rfl) pa_nil)))), ?_⟩
    exact ⟨_, rfl, p, CD, dx, _, _, rfl, hp, TD.cl, TD.choice, get_choice, _, rfl, p, CD, dx, _, _, rfl, hp, TD.cl, TD.places, get_places, a.s, a.g.n, rfl, by omega, q⟩

/-- a desk that may still be written; what it holds stands besides it -/
def DeskIn (CD CM : Addr) (H : Hp) (p : Addr) (a : Kv406.Now) : Prop := ∃ dx l o m, H p = some (.ins CD dx (deskOf a l o m)) ∧ DeskV CM (wo H p) a l o m
theorem DeskIn.desk {CD CM H p a} (h : DeskIn CD CM H p a) : rDesk CD CM H (.ref p) a := by
  obtain ⟨dx, l, o, m, e, v⟩ := h
  exact ⟨p, dx, l, o, m, rfl, e, v.on (wo_same _ _)⟩
def sp_post (CD CM : Addr) : Sp := fun vs H Q _ => ∃ a u v p, vs = [.ref p, nV u, nV v] ∧ DeskIn CD CM H p a ∧ NowOk a ∧ u < a.g.n ∧ v < a.g.n ∧ ∀ H', Same (wo H p) (wo H' p) → DeskIn CD CM H' p (a.sent_ u v) → Q (nV (Kv406.bit (a.comes u v))) H'
theorem k_post {CD CM : Addr} (TD : DeskC K CD) (km : KeptM P w K mg base 4 CD "message_goes" (sp_message_goes CD CM)) (D : HereM K CD "post" "Desk.post" s_Desk_post ["self", "u", "v"]) : KeptM P w K mg base 5 CD "post" (sp_post CD CM) := by
  refine keptM_of D sc_Desk_post (fun vs H Q E h => ?_) (fun f cdv A outer s H vs Q E hr h => ?_)
  · obtain ⟨a, u, v, x, rfl, _⟩ := h; rfl
  · obtain ⟨a, u, v, p, rfl, hD, ok, hu, hv, q⟩ := h
    refine ⟨_, pss_cons (ps_set (i := 3) sc_Desk_post.nd rfl (.inl rfl) (pgm km TD.cl hr (pv 0) (pa_cons (pv 1) (pa_cons (pv 2) pa_nil))))
      (pss_cons (ps_fldaug (pv 0) pe_int in_add)
      (pss_cons (ps_if (pt_cmpR op_isN (pv 3) pe_non (nomark _)) (pss_cons (ps_fldaug (pv 0) pe_int in_add) (pss_one (ps_ret pe_int))) pss_nil)
      (pss_cons (ps_fldaug (pv 0) (pv 3) in_add) (pss_one (ps_ret pe_int))))), ?_⟩
    obtain ⟨dx, l, o, m, hp, V0⟩ := id hD
    refine ⟨_, rfl, p, dx, _, rfl, hp, no_message_goes, _, rfl, _, rfl, a, u, v, _, rfl, hD.desk, ok, hu, hv, fun H1 e1 => ?_⟩
    rw [howFar_eq]
    have w1 : Same (wo H p) (wo H1 p) := wo_mono e1
    have hp1 := e1 _ _ hp
    have V1 := V0.on w1
    unfold deskOf at hp1
    refine ⟨_, rfl, p, CD, dx, _, _, rfl, hp1, TD.cl, TD.sent, get_sent, _, _, rfl, rfl, dx, _, hp1, (by rw [desk_len]; decide), ?_⟩
    rw [show (V.int (((a.sent : Nat) : Int) + 1)) = nV (a.sent + 1) from rfl, put_sent]
    refine ⟨_, rfl, rfl, _, rfl, ?_⟩
    by_cases hc : a.comes u v = true
    · have es : a.sent_ u v = { a with sent := a.sent + 1, far := a.far + Kv405.len a.g (a.route u v) } := by unfold Kv406.Now.sent_; rw [if_pos hc]
      rw [es, hc] at q
      rw [if_pos hc]
      refine iteF ⟨_, rfl, p, CD, dx, _, _, rfl, upd_same, TD.cl, TD.gone, get_gone, _, rfl, _, _, rfl, rfl, dx, _, upd_same, (by rw [desk_len]; decide), ?_⟩
      rw [show (V.int (((a.far : Nat) : Int) + ((Kv405.len a.g (a.route u v) : Nat) : Int))) = nV (a.far + Kv405.len a.g (a.route u v)) from rfl, put_gone, upd_upd]
      exact q _ (by rw [wo_upd]; exact w1) ⟨dx, l, o, m, upd_same, by rw [wo_upd]; exact ⟨V1.l, V1.o, V1.m⟩⟩
    · have es : a.sent_ u v = { a with sent := a.sent + 1, lost := a.lost + 1 } := by unfold Kv406.Now.sent_; rw [if_neg hc]
      have hc' : a.comes u v = false := by simpa using hc
      rw [es, hc'] at q
      rw [if_neg hc]
      refine iteT ⟨_, rfl, p, CD, dx, _, _, rfl, upd_same, TD.cl, TD.lost, get_lost, _, _, rfl, rfl, dx, _, upd_same, (by rw [desk_len]; decide), ?_⟩
      rw [show (V.int (((a.lost : Nat) : Int) + 1)) = nV (a.lost + 1) from rfl, put_lost, upd_upd]
      exact q _ (by rw [wo_upd]; exact w1) ⟨dx, l, o, m, upd_same, by rw [wo_upd]; exact ⟨V1.l, V1.o, V1.m⟩⟩
end
end Nk
set_option Elab.async false
set_option maxRecDepth 100000
set_option maxHeartbeats 4000000
namespace Nk
open PySem PySem.Spec PyProof.Rows L2
/-- what a change answers, and the desk behind it (none: it's refused) -/
def rOut (CD CM : Addr) : Rep (Int × Option Kv406.Now) := fun H v q => ∃ t x, v = .ref t ∧ H t = some (.tup [.int q.1, x]) ∧ match q.2 with
  | none => x = .non
  | some a => rDesk CD CM H x a
theorem stays_out {CD CM : Addr} : Stays (rOut CD CM) := fun _ _ _ q s ⟨t, x, e, h, z⟩ => ⟨t, x, e, s _ _ h, by
  cases e2 : q.2 with
  | none => rw [e2] at z; exact z
  | some a => rw [e2] at z; exact stays_desk _ _ _ _ s z⟩
/-- the text's own constants -/
structure Consts (mg : Str → Option Value) : Prop where
  noSuch : ∃ t, mg "NO_SUCH" = some (.int (-2) t)
  noChange : ∃ t, mg "NO_CHANGE" = some (.int (-6) t)
  notBegun : ∃ t, mg "NOT_BEGUN" = some (.int (-11) t)
  outOf : ∃ t, mg "OUT_OF_RANGE" = some (.int (-22) t)
  tooMany : ∃ t, mg "TOO_MANY" = some (.int (-28) t)
  noneThere : ∃ t, mg "NONE_THERE" = some (.int (-33) t)
  mostLines : ∃ t, mg "MOST_LINES" = some (.int 14 t)
  mostPlaces : ∃ t, mg "MOST_PLACES" = some (.int 8 t)
  mostBack : ∃ t, mg "MOST_BACK" = some (.int 10 t)
/-- a new desk that is like another, before it's written -/
theorem twin_in {CD CM : Addr} {H H' : Hp} {a : Kv406.Now} {q dq : Addr} {l o m : V} (e : Same H (wo H' q)) (h : H' q = some (.ins CD dq (deskOf a l o m))) (v : DeskV CM H a l o m) : DeskIn CD CM H' q a := ⟨dq, l, o, m, h, v.on e⟩
theorem Ready.of {a : Kv406.Now} (h : NowOk a) : Ready a.g.n a.g.lines a.t a.o a.s := ⟨by have := h.n8; omega, h.g, h.t9, h.o⟩
theorem allOf_made (a : Kv406.Now) : allOf a.made = madeAll a.g.n a.g.lines a.t a.o a.s := by
  unfold allOf madeAll Kv406.Now.made
  cases a with
  | mk g t o s base th sent lost far => cases g; rfl
section
variable {P : Program} {w : World} {K : PySem.W.Frag} {mg : Str → Option Value} {base : Heap}
def sp_made_anew (CD CM : Addr) : Sp := fun vs H Q _ => ∃ a x, vs = [x] ∧ rDesk CD CM H x a ∧ NowOk a ∧ ∀ H' q, Same H (wo H' q) → H q = none → DeskIn CD CM H' q a.made → Q (.ref q) H'
theorem k_made_anew {CD CM : Addr} (TD : DeskC K CD) (kt : KeptM P w K mg base 3 CD "twin" (sp_twin CD)) (km : KeptM P w K mg base 7 CD "make" (sp_make CD CM)) (D : Here K mg "made_anew" s_made_anew ["desk"]) : Kept P w K mg base 8 "made_anew" (sp_made_anew CD CM) := by
  refine kept_of D sc_made_anew (fun vs H Q E h => ?_) (fun f cdv A outer s H vs Q E hr h => ?_)
  · obtain ⟨a, x, rfl, _⟩ := h; rfl
  · obtain ⟨a, x, rfl, ⟨p, dx, l, o, m, rfl, hp, V0⟩, ok, q⟩ := h
    refine ⟨_, pss_cons (ps_set (i := 1) sc_made_anew.nd rfl (.inl rfl) (pgm0 kt TD.cl hr (pv 0)))
      (pss_cons (ps_expr (pgm0 km TD.cl hr (pv 1))) (pss_one (ps_ret (pv 1)))), ?_⟩
    unfold deskOf at hp
    refine ⟨_, rfl, p, dx, _, rfl, hp, no_twin, a.g.n, l, a.t, o, a.s, a.sent, a.lost, a.far, m, p, dx, rfl, hp, by have := ok.n8; omega, fun H1 x1 d1 e1 n1 h1 => ?_⟩
    have V1 := V0.on e1
    refine ⟨_, rfl, x1, d1, _, rfl, h1, no_make, a.g.n, a.g.lines, a.t, a.o, a.s, a.sent, a.lost, a.far, m, l, o, x1, d1, rfl, h1, V1.l, V1.o, Ready.of ok, fun H2 m2 e2 h2 hm => ?_⟩
    refine ⟨_, rfl, q _ x1 (e1.trans e2) n1 ⟨d1, l, o, m2, h2, ?_, ?_, ?_⟩⟩
    · exact stays_lines _ _ _ _ e2 V1.l
    · exact stays_ints _ _ _ _ e2 V1.o
    · rw [allOf_made]; exact hm

theorem toV_ints (l : List Nat) : l.map nV = (l.map Int.ofNat).map V.int := by rw [List.map_map]; rfl
theorem sum_int (l : List Nat) : (l.map Int.ofNat).sum = ((l.sum : Nat) : Int) := by
  induction l with
  | nil => rfl
  | cons x l ih => rw [List.map_cons, List.sum_cons, ih, List.sum_cons, Int.natCast_add]; rfl
/-- a sum of lengths -/
theorem lens_eq {α : Type} (l : List (List α)) : (l.map fun x => nV x.length) = ((l.map List.length).map Int.ofNat).map V.int := by
  rw [List.map_map, List.map_map]; rfl
def sp_count_marks (CM : Addr) : Sp := fun vs H Q _ => ∃ a x, vs = [x] ∧ rMade CM H x (allOf a) ∧ NowOk a ∧ ∀ H', Same H H' → Q (nV (Kv403.size a.marks)) H'
theorem marks_eq {a : Kv406.Now} (h : NowOk a) : a.marks = marksOf (Kv402.table a.g.n a.base.lines) a.o ∧ a.marks.length = a.g.n := by
  have e := (marksOf_eq h.base.fine h.o.lt)
  have e1 : a.marks = Kv403.marks ⟨a.g.n, a.base.lines⟩ a.o := by
    unfold Kv406.Now.marks
    have eb : a.base.n = a.g.n := h.base_n
    generalize a.base = b at eb
    cases b with
    | mk n ls => simp only at eb; subst eb; rfl
  rw [e1]
  exact ⟨e.1.symm, e.2.1⟩
theorem k_count_marks {CM : Addr} (B : Plain mg) (TM : MadeC K CM) (D : HereM K CM "count_marks" "Made.count_marks" s_Made_count_marks ["self"]) : KeptM P w K mg base 1 CM "count_marks" (sp_count_marks CM) := by
  refine keptM_of D sc_Made_count_marks (fun vs H Q E h => ?_) (fun f cdv A outer s H vs Q E hr h => ?_)
  · obtain ⟨a, x, rfl, _⟩ := h; rfl
  · obtain ⟨a, x, rfl, hx, ok, q⟩ := h
    refine ⟨_, pss_one (ps_ret (pe_callB (cr_sum rfl) (by rfl) B.sum (by decide +kernel) (pa_cons (pe_lc (own := [("marks", 1)]) (g := gName 1) (tt := tYes)
        (te := tCB (fun xs H Q => ∃ p ys, xs = [.ref p] ∧ (SqL K H p ys ∨ SqT K H p ys) ∧ Q (.int ys.length) H) (tCons (tVar 1) tNil)) rfl sc_Made_count_marks.nd (pi_list (pe_fld (pv 0) rfl))
        (blkOk_by (N := n_Made_count_marks) (sc := defScope s_Made_count_marks) (by decide +kernel)) (fun _ _ _ _ _ => pg_name (i := 1) sc_Made_count_marks.nd rfl (.inl rfl)) (fun _ _ _ _ _ => pts_nil)
        (fun _ _ _ _ _ => pe_callB call_len_seq (by rfl) B.len PySem.boot_len (pa_cons (pv 1) pa_nil))) pa_nil))), ?_⟩
    obtain ⟨mp, dm, ma, mb, mc, mn, md, me, mf, rfl, hm, _, _, _, _, hM, _, _⟩ := hx
    obtain ⟨e1, e2⟩ := marks_eq ok
    have hM' : rMarks H md a.marks := by rw [e1]; exact hM
    obtain ⟨ya, ys, rfl, hya, py⟩ := hM'
    have hn := ok.n8
    refine ⟨_, rfl, mp, CM, dm, _, _, rfl, hm, TM.cl, TM.marks, rfl, ya, rfl, ⟨_, SqL.of hya⟩, fun D1 n1 => lc_list (K := K) (a := ya) (xs := ys) (fun i H' => H' = upd H D1 (.lst ((a.marks.take i).map fun x => nV x.length))) rfl ?_ ?_ ?_⟩
    · rintro i H' _ rfl
      exact SqL.of ((same_new n1) _ _ hya)
    · rintro i y H' hy rfl
      obtain ⟨r, er, ra, us, rfl, hra, pr⟩ := Paired.getL py hy
      have hi : i < a.marks.length := (List.getElem?_eq_some_iff.mp er).1
      refine ⟨rfl, _, rfl, ra, us, rfl, .inl (SqL.of ((same_new n1) _ _ hra)), _, upd_same, ?_, ?_⟩
      · rw [List.length_map, List.length_take]; exact size100 (by omega)
      · rw [upd_upd, take_snoc er, List.map_append, Paired.len pr]; rfl
    · rintro H' rfl
      rw [Paired.len py, List.take_of_length_le (Nat.le_refl _), lens_eq]
      refine ⟨D1, _, rfl, SqL.of upd_same, ?_⟩
      rw [sum_int]
      exact q _ (same_new n1)

def sp_count_entries (CM : Addr) : Sp := fun vs H Q _ => ∃ a x, vs = [x] ∧ rMade CM H x (allOf a) ∧ NowOk a ∧ ∀ H', Same H H' → Q (nV (Kv405.tables a.base a.base.table a.s)) H'
theorem tables_eq {a : Kv406.Now} (h : NowOk a) : Kv405.tables a.base a.base.table a.s = ((tabs a.g.n a.base.lines a.s).map List.length).sum := by
  have eb : a.base.n = a.g.n := h.base_n
  generalize a.base = b at eb
  cases b with
  | mk n ls =>
    simp only at eb; subst eb
    unfold Kv405.tables tabs
    rw [List.map_map]
    congr 1
    refine List.map_congr_left fun u _ => ?_
    show _ = (tabOf _ _ _ u).length
    unfold tabOf
    rw [List.length_map]; rfl
theorem k_count_entries {CM : Addr} (B : Plain mg) (TM : MadeC K CM) (D : HereM K CM "count_entries" "Made.count_entries" s_Made_count_entries ["self"]) : KeptM P w K mg base 1 CM "count_entries" (sp_count_entries CM) := by
  refine keptM_of D sc_Made_count_entries (fun vs H Q E h => ?_) (fun f cdv A outer s H vs Q E hr h => ?_)
  · obtain ⟨a, x, rfl, _⟩ := h; rfl
  · obtain ⟨a, x, rfl, hx, ok, q⟩ := h
    refine ⟨_, pss_one (ps_ret (pe_callB (cr_sum rfl) (by rfl) B.sum (by decide +kernel) (pa_cons (pe_lc (own := [("table", 1)]) (g := gName 1) (tt := tYes)
        (te := tCB (fun xs H Q => ∃ a kvs, xs = [.ref a] ∧ H a = some (.dK kvs) ∧ Q (.int kvs.length) H) (tCons (tVar 1) tNil)) rfl sc_Made_count_entries.nd (pi_list (pe_fld (pv 0) rfl))
        (blkOk_by (N := n_Made_count_entries) (sc := defScope s_Made_count_entries) (by decide +kernel)) (fun _ _ _ _ _ => pg_name (i := 1) sc_Made_count_entries.nd rfl (.inl rfl)) (fun _ _ _ _ _ => pts_nil)
        (fun _ _ _ _ _ => pe_callB call_lenD (by rfl) B.len PySem.boot_len (pa_cons (pv 1) pa_nil))) pa_nil))), ?_⟩
    obtain ⟨mp, dm, ma, mb, mc, mn, md, me, mf, rfl, hm, _, _, _, _, _, hT, _⟩ := hx
    rw [tables_eq ok] at q
    have etl : (tabs a.g.n a.base.lines a.s).length = a.g.n := by unfold tabs; simp
    have hT' : LOf rDict H me (tabs a.g.n a.base.lines a.s) := hT
    generalize tabs a.g.n a.base.lines a.s = ts at q etl hT'
    obtain ⟨ya, ys, rfl, hya, py⟩ := hT'
    have hn := ok.n8
    refine ⟨_, rfl, mp, CM, dm, _, _, rfl, hm, TM.cl, TM.tables, rfl, ya, rfl, ⟨_, SqL.of hya⟩, fun D1 n1 => lc_list (K := K) (a := ya) (xs := ys) (fun i H' => H' = upd H D1 (.lst ((ts.take i).map fun x => nV x.length))) rfl ?_ ?_ ?_⟩
    · rintro i H' _ rfl
      exact SqL.of ((same_new n1) _ _ hya)
    · rintro i y H' hy rfl
      obtain ⟨r, er, ra, rfl, hra⟩ := Paired.getL py hy
      have hi : i < ts.length := (List.getElem?_eq_some_iff.mp er).1
      refine ⟨rfl, _, rfl, ra, _, rfl, (same_new n1) _ _ hra, _, upd_same, ?_, ?_⟩
      · rw [List.length_map, List.length_take]; exact size100 (by omega)
      · rw [upd_upd, take_snoc er, List.map_append, List.length_map]; rfl
    · rintro H' rfl
      rw [Paired.len py, List.take_of_length_le (Nat.le_refl _), lens_eq]
      refine ⟨D1, _, rfl, SqL.of upd_same, ?_⟩
      rw [sum_int]
      exact q _ (same_new n1)

/-- how many are near, all together -/
def nearSum (a : Kv406.Now) : Nat := ((List.range a.g.n).map fun v => ((List.range a.g.n).filter fun o => isNear (Kv402.table a.g.n a.base.lines) (nearestAll (Kv402.table a.g.n a.base.lines) a.s a.g.n) v o).length).sum
theorem near_all {a : Kv406.Now} (h : NowOk a) : Kv404.all a.base.n a.base.table a.s = nearSum a + a.g.n * (Kv404.list_ a.g.n a.s).length := by
  unfold nearSum
  have eb : a.base.n = a.g.n := h.base_n
  generalize a.base = b at eb
  cases b with
  | mk n ls =>
    simp only at eb; subst eb
    exact allC_eq (Kv402.table a.g.n ls) (table_len a.g.n ls)
def sp_count_near (CM : Addr) : Sp := fun vs H Q _ => ∃ a x, vs = [x] ∧ rMade CM H x (allOf a) ∧ NowOk a ∧ ∀ H', Same H H' → Q (nV (nearSum a)) H'
theorem k_count_near {CM : Addr} (B : Plain mg) (TM : MadeC K CM) (kn : Kept P w K mg base 2 "near_places" sp_near_places) (D : HereM K CM "count_near" "Made.count_near" s_Made_count_near ["self"]) : KeptM P w K mg base 3 CM "count_near" (sp_count_near CM) := by
  refine keptM_of D sc_Made_count_near (fun vs H Q E h => ?_) (fun f cdv A outer s H vs Q E hr h => ?_)
  · obtain ⟨a, x, rfl, _⟩ := h; rfl
  · obtain ⟨a, x, rfl, hx, ok, q⟩ := h
    -- self 0, place 1
    refine ⟨_, pss_one (ps_ret (pe_callB (cr_sum rfl) (by rfl) B.sum (by decide +kernel) (pa_cons (pe_lc (own := [("place", 1)]) (g := gName 1) (tt := tYes)
        (te := tCB (fun xs H Q => ∃ p ys, xs = [.ref p] ∧ (SqL K H p ys ∨ SqT K H p ys) ∧ Q (.int ys.length) H) (tCons (tCall sp_near_places [] E0 (tCons (tFld K (tVar 0) "far") (tCons (tFld K (tVar 0) "nearest") (tCons (tVar 1) tNil)))) tNil)) rfl sc_Made_count_near.nd
        (pi_range1 rfl B.range (pa_cons (pe_callB call_len_seq (by rfl) B.len PySem.boot_len (pa_cons (pe_fld (pv 0) rfl) pa_nil)) pa_nil))
        (blkOk_by (N := n_Made_count_near) (sc := defScope s_Made_count_near) (by decide +kernel)) (fun _ _ _ _ _ => pg_name (i := 1) sc_Made_count_near.nd rfl (.inl rfl)) (fun _ _ _ _ _ => pts_nil)
        (fun _ _ _ _ _ => pe_callB call_len_seq (by rfl) B.len PySem.boot_len (pa_cons (pgo kn hr (pa_cons (pe_fld (pv 0) rfl) (pa_cons (pe_fld (pv 0) rfl) (pa_cons (pv 1) pa_nil)))) pa_nil))) pa_nil))), ?_⟩
    obtain ⟨mp, dm, ma, mb, mc, mn, md, me, mf, rfl, hm, _, _, hT, hN, _⟩ := hx
    have hn := ok.n8
    have hF := ok.base.fine
    have hq := sq_table a.g.n a.base.lines hF
    have hT' : rTab H mc (Kv402.table a.g.n a.base.lines) := hT
    have hN' : rRow H mn (nearestAll (Kv402.table a.g.n a.base.lines) a.s a.g.n) := hN
    have htl := hq.len
    have hok : ∀ p, p < a.g.n → ∀ c, (nearestAll (Kv402.table a.g.n a.base.lines) a.s a.g.n).getD p none = some c → c < a.g.n ∧ (Kv402.at_ (Kv402.table a.g.n a.base.lines) p c).isSome = true := fun p hp c e => by
      obtain ⟨z1, z2, _⟩ := nearestAll_ok htl hp e
      exact ⟨z1, z2⟩
    have hnl := nearestAll_len (Kv402.table a.g.n a.base.lines) a.s a.g.n
    unfold nearSum at q
    generalize nearestAll (Kv402.table a.g.n a.base.lines) a.s a.g.n = near at hN' hok hnl q
    generalize Kv402.table a.g.n a.base.lines = tb at hT' hq htl hok q
    obtain ⟨fa, fvs, rfl, hfa, _⟩ := id hT'
    have el : fvs.length = a.g.n := tab_len hT' hq hfa
    refine ⟨_, rfl, mp, CM, dm, _, _, rfl, hm, TM.cl, TM.far, rfl, fa, fvs, rfl, .inl (SqL.of hfa), (fvs.length : Nat), rfl, by omega, by omega, fun D1 n1 => lc_range (lo := 0) (n := ((fvs.length : Nat) : Int).toNat)
      (fun i H' => Grow rN H H' D1 ((List.range i).map fun v => ((List.range a.g.n).filter fun o => isNear tb near v o).length)) (Grow.start n1) ?_ ?_⟩
    · intro i H' hi g
      have hi' : i < a.g.n := by rw [el] at hi; simpa using hi
      rw [Int.zero_add, List.range_succ, List.map_append]
      obtain ⟨vs, ev, _⟩ := g.items
      refine ⟨rfl, _, rfl, mp, CM, dm, _, _, rfl, g.all _ _ hm, TM.cl, TM.far, rfl, _, rfl, mp, CM, dm, _, _, rfl, g.all _ _ hm, TM.cl, TM.nearest, rfl, _, rfl, a.g.n, tb, near, i, _, _, rfl, stays_tab _ _ _ _ g.all hT', stays_row _ _ _ _ g.all hN', hq, hnl, by omega, hi', hok i hi', fun H1 z e1 hz => ?_⟩
      obtain ⟨za, rfl, hza⟩ := ints_at hz
      refine ⟨za, _, rfl, .inl (SqL.of (new_sub _ _ _ _ hza)), vs, e1 _ _ ev, ?_, ?_⟩
      · rw [g.len ev, List.length_map, List.length_range]; exact size100 (by omega)
      · rw [List.length_map]
        exact Grow.push (g.on stays_N e1) (e1 _ _ ev) rfl
    · intro H' g
      rw [show ((fvs.length : Nat) : Int).toNat = a.g.n by rw [el]; simp] at g
      obtain ⟨_, us, e, hD, pu⟩ := g.done stays_N
      cases e
      rw [pairedN.1 pu, toV_ints] at hD
      refine ⟨D1, _, rfl, SqL.of hD, ?_⟩
      rw [sum_int]
      exact q _ g.all
end
end Nk
set_option Elab.async false
set_option maxRecDepth 100000
set_option maxHeartbeats 4000000
namespace Nk
open PySem PySem.Spec PyProof.Rows L2
open Kv406 (Now)
def cTimes (a : Now) (t : Nat) : Int × Option Now := if Kv402.okT t = false then (-22, none) else (((a.g.kept t).length : Nat), some { a with t := t }.made)
def cChoose (a : Now) (s : Nat) : Int × Option Now := if 2 ^ a.g.n ≤ s then (-22, none) else ((Kv405.tables ({ a with s := s } : Now).made.base ({ a with s := s } : Now).made.base.table s : Nat), some { a with s := s }.made)
def gS (a : Now) (k : Nat) : Nat := Kv404.greedy a.made.base.n a.made.base.table k a.made.base.n 0
def cGreedy (a : Now) (k : Nat) : Int × Option Now := if k = 0 ∨ 8 < k then (-22, none) else ((Kv405.tables a.made.base a.made.base.table (gS a k) : Nat), some { a.made with s := gS a k })
def cMake (a : Now) : Int × Option Now := ((a.made.base.lines.length : Nat), some a.made)
def cSend (a : Now) (u v : Nat) : Int × Option Now := if a.no u v then (-2, none) else if u = v then (-22, none) else ((Kv406.bit (a.comes u v) : Nat), some (a.sent_ u v))
def cAll (a : Now) : Int × Option Now := ((a.g.n * (a.g.n - 1) : Nat), some ((List.range a.g.n).foldl (fun w u => (List.range a.g.n).foldl (fun w v => if u = v then w else w.sent_ u v) w) a))
def cCut (a : Now) (i : Nat) : Int × Option Now := if a.g.lines.length ≤ i then (-2, none) else ((a.g.lines.length - 1 : Nat), some { a with g := { a.g with lines := a.g.lines.eraseIdx i } })
def cLine (a : Now) (x y w : Nat) : Int × Option Now := if a.no x y then (-2, none) else if x = y ∨ w = 0 ∨ 99 < w then (-22, none) else
  if 14 ≤ (others a.g.lines x y).length then (-28, none) else (((others a.g.lines x y).length + 1 : Nat), some { a with g := { a.g with lines := Kv402.put ⟨min x y, max x y, w⟩ (others a.g.lines x y) } })
def cOrder (a : Now) (l : List Nat) : Int × Option Now := if Kv403.okOrder a.g.n l = false then (-22, none) else ((Kv403.size ({ a with o := l } : Now).made.marks : Nat), some { a with o := l }.made)

/-- what each change promises -/
def spChg (CD CM : Addr) (F : Now → List Nat → Option (Int × Option Now)) : Sp := fun vs H Q _ => ∃ a nums x y r, vs = [x, y] ∧ rDesk CD CM H x a ∧ NowOk a ∧ rInts H y nums ∧ F a nums = some r ∧ ∀ H' z, Same H H' → rOut CD CM H' z r → Q z H'
def fTimes (a : Now) : List Nat → Option (Int × Option Now)
  | [t] => some (cTimes a t)
  | _ => none
def fChoose (a : Now) : List Nat → Option (Int × Option Now)
  | [t] => some (cChoose a t)
  | _ => none
def fGreedy (a : Now) : List Nat → Option (Int × Option Now)
  | [t] => some (cGreedy a t)
  | _ => none
def fMake (a : Now) : List Nat → Option (Int × Option Now) := fun _ => some (cMake a)
def fAll (a : Now) : List Nat → Option (Int × Option Now) := fun _ => some (cAll a)
def fSend (a : Now) : List Nat → Option (Int × Option Now)
  | [u, v] => some (cSend a u v)
  | _ => none
def fCut (a : Now) : List Nat → Option (Int × Option Now)
  | [t] => some (cCut a t)
  | _ => none
def fLine (a : Now) : List Nat → Option (Int × Option Now)
  | [x, y, w] => some (cLine a x y w)
  | _ => none
def fOrder (a : Now) : List Nat → Option (Int × Option Now) := fun l => some (cOrder a l)
theorem one_of {α : Type} {f : Nat → α} {F : List Nat → Option α} (h : ∀ l, F l = match l with | [t] => some (f t) | _ => none) {nums : List Nat} {r : α} (e : F nums = some r) : ∃ t, nums = [t] ∧ r = f t := by
  rw [h] at e
  split at e
  · rename_i t; exact ⟨t, rfl, (Option.some.inj e).symm⟩
  · cases e
theorem okT_iff {t : Nat} : Kv402.okT t = false ↔ (t < 1 ∨ 9 < t) := by
  unfold Kv402.okT; simp; omega
section
variable {P : Program} {w : World} {K : PySem.W.Frag} {mg : Str → Option Value} {base : Heap}
/-- a refusal -/
theorem out_no {CD CM : Addr} {H : Hp} {r : Int} {t : Addr} (h : H t = some (.tup [.int r, .non])) : rOut CD CM H (.ref t) (r, none) := ⟨t, .non, rfl, h, rfl⟩
theorem out_yes {CD CM : Addr} {H : Hp} {r : Int} {t : Addr} {x : V} {a : Now} (h : H t = some (.tup [.int r, x])) (d : rDesk CD CM H x a) : rOut CD CM H (.ref t) (r, some a) := ⟨t, x, rfl, h, d⟩

theorem k_set_times {CD CM : Addr} (B : Plain mg) (Cn : Consts mg) (TD : DeskC K CD) (TM : MadeC K CM) (kt : KeptM P w K mg base 3 CD "twin" (sp_twin CD)) (km : KeptM P w K mg base 7 CD "make" (sp_make CD CM)) (D : Here K mg "set_times" s_set_times ["desk", "numbers"]) :
    Kept P w K mg base 8 "set_times" (spChg CD CM fTimes) := by
  obtain ⟨tk, cO⟩ := Cn.outOf
  refine kept_of D sc_set_times (fun vs H Q E h => ?_) (fun f cdv A outer s H vs Q E hr h => ?_)
  · obtain ⟨a, nums, x, y, r, rfl, _⟩ := h; rfl
  · obtain ⟨a, nums, x, y, r, rfl, ⟨p, dx, l, o, m, rfl, hp, V0⟩, ok, hy, hF, q⟩ := h
    obtain ⟨t, rfl, rfl⟩ := one_of (f := cTimes a) (F := fTimes a) (fun l => by unfold fTimes; split <;> rfl) hF
    refine ⟨_, pss_cons (ps_if (PW.pt (pw_or (pt_cmpR op_lt (pe_ix ix_list (pv 1) pe_int (fun _ _ => rfl)) pe_int (nomark _)) (pw_or1 (pt_cmpR op_gt (pe_ix ix_list (pv 1) pe_int (fun _ _ => rfl)) pe_int (nomark _)))))
        (pss_one (ps_ret (pe_tup (pa_cons (pe_glob (v := .int (-22)) rfl cO ⟨_, rfl⟩) (pa_cons pe_non pa_nil))))) pss_nil)
      (pss_cons (ps_set (i := 2) sc_set_times.nd rfl (.inl rfl) (pgm0 kt TD.cl hr (pv 0)))
      (pss_cons (ps_fld (pv 2) (pe_ix ix_list (pv 1) pe_int (fun _ _ => rfl)) rfl)
      (pss_cons (ps_expr (pgm0 km TD.cl hr (pv 2)))
      (pss_one (ps_ret (pe_tup (pa_cons (pe_callB call_len_seq (by rfl) B.len PySem.boot_len (pa_cons (pe_fld (pe_fld (pv 2) rfl) rfl) pa_nil)) (pa_cons (pv 2) pa_nil)))))))), ?_⟩
    obtain ⟨ya, rfl, hya⟩ := ints_at hy
    unfold deskOf at hp
    have refuse : Kv402.okT t = false → ∀ u, H u = none → Q (.ref u) (upd H u (.tup [.int (-22), .non])) := fun h u nu => by
      refine q _ _ (same_new nu) ?_
      unfold cTimes; rw [if_pos h]; exact out_no upd_same
    refine ⟨_, rfl, ya, _, _, _, rfl, rfl, SqL.of hya, rfl, _, _, rfl, rfl, _, rfl, if2 (fun h => ?_) (fun h => ?_)⟩
    · have h1 : t < 1 := Int.ofNat_lt.1 (of_decide_eq_true h)
      exact iteT ⟨by show 2 ≤ sizeLine; decide, refuse (okT_iff.2 (.inl h1))⟩
    have h1 : ¬ t < 1 := fun z => of_decide_eq_false h (Int.ofNat_lt.2 z)
    refine ⟨_, rfl, ya, _, _, _, rfl, rfl, SqL.of hya, rfl, _, _, rfl, rfl, _, rfl, if2 (fun h => ?_) (fun h => ?_)⟩
    · have h9 : 9 < t := Int.ofNat_lt.1 (of_decide_eq_true h)
      exact ⟨by show 2 ≤ sizeLine; decide, refuse (okT_iff.2 (.inr h9))⟩
    have h9 : ¬ 9 < t := fun z => of_decide_eq_false h (Int.ofNat_lt.2 z)
    have hT : ¬ Kv402.okT t = false := fun z => by rcases okT_iff.1 z with z | z; exact h1 z; exact h9 z
    have ok' : NowOk { a with t := t } := ⟨ok.n1, ok.n8, ok.g, ok.then_n, ok.th, ok.base_n, ok.base, by show 1 ≤ t; omega, by show t ≤ 9; omega, ok.o, ok.s⟩
    refine ⟨_, rfl, p, dx, _, rfl, hp, no_twin, a.g.n, l, a.t, o, a.s, a.sent, a.lost, a.far, m, p, dx, rfl, hp, by have := ok.n8; omega, fun H1 x1 d1 e1 n1 h1 => ?_⟩
    have V1 := V0.on e1
    have hya1 := e1 _ _ hya
    refine ⟨_, rfl, ya, _, _, _, rfl, rfl, SqL.of (wo_same _ _ _ _ hya1), rfl, _, rfl, x1, CD, d1, _, rfl, h1, TD.cl, TD.times, (by rw [desk_len]; decide), ?_⟩
    rw [put_times]
    refine ⟨_, rfl, x1, d1, _, rfl, upd_same, no_make, a.g.n, a.g.lines, t, a.o, a.s, a.sent, a.lost, a.far, m, l, o, x1, d1, rfl, upd_same, by rw [wo_upd]; exact V1.l, by rw [wo_upd]; exact V1.o, Ready.of ok', fun H2 m2 e2 h2 hm => ?_⟩
    rw [wo_upd] at e2
    have hm' : rMade CM (wo H2 x1) m2 (allOf ({ a with t := t } : Now).made) := by rw [allOf_made]; exact hm
    have hd : DeskIn CD CM H2 x1 ({ a with t := t } : Now).made := ⟨d1, l, o, m2, h2, stays_lines _ _ _ _ e2 V1.l, stays_ints _ _ _ _ e2 V1.o, hm'⟩
    obtain ⟨mp, dm, ma, mb, mc, mn, md, me, mf, rfl, hmp, _, hB, _⟩ := id hm'
    obtain ⟨ba, bs, rfl, hba, pb⟩ := hB
    have w2 := wo_same H2 x1
    refine ⟨_, rfl, x1, CD, d1, _, _, rfl, h2, TD.cl, TD.made, get_made, mp, CM, dm, _, _, rfl, w2 _ _ hmp, TM.cl, TM.base, rfl, ba, bs, rfl, .inl (SqL.of (w2 _ _ hba)), _, rfl, (by show 2 ≤ sizeLine; decide), fun u nu => ?_⟩
    refine q _ _ ((e1.trans e2).trans (w2.trans (same_new nu))) ?_
    unfold cTimes; rw [if_neg hT]
    refine out_yes (upd_same.trans ?_) (stays_desk _ _ _ _ (same_new nu) hd.desk)
    rw [Paired.len pb]; rfl
end
end Nk
set_option Elab.async false
set_option maxRecDepth 100000
set_option maxHeartbeats 4000000
namespace Nk
open PySem PySem.Spec PyProof.Rows L2
open Kv406 (Now)
theorem shl_int (n : Nat) : (1 : Int) * 2 ^ ((n : Nat) : Int).toNat = ((2 ^ n : Nat) : Int) := by
  rw [Int.one_mul, Int.toNat_natCast, Int.natCast_pow]; rfl
section
variable {P : Program} {w : World} {K : PySem.W.Frag} {mg : Str → Option Value} {base : Heap}

theorem k_set_choice {CD CM : Addr} (B : Plain mg) (Cn : Consts mg) (TD : DeskC K CD) (TM : MadeC K CM) (kt : KeptM P w K mg base 3 CD "twin" (sp_twin CD)) (km : KeptM P w K mg base 7 CD "make" (sp_make CD CM)) (ke : KeptM P w K mg base 1 CM "count_entries" (sp_count_entries CM))
    (D : Here K mg "set_choice" s_set_choice ["desk", "numbers"]) : Kept P w K mg base 8 "set_choice" (spChg CD CM fChoose) := by
  obtain ⟨tk, cO⟩ := Cn.outOf
  refine kept_of D sc_set_choice (fun vs H Q E h => ?_) (fun f cdv A outer s H vs Q E hr h => ?_)
  · obtain ⟨a, nums, x, y, r, rfl, _⟩ := h; rfl
  · obtain ⟨a, nums, x, y, r, rfl, ⟨p, dx, l, o, m, rfl, hp, V0⟩, ok, hy, hF, q⟩ := h
    obtain ⟨t, rfl, rfl⟩ := one_of (f := cChoose a) (F := fChoose a) (fun l => by unfold fChoose; split <;> rfl) hF
    refine ⟨_, pss_cons (ps_if (pt_cmpR op_ge (pe_ix ix_list (pv 1) pe_int (fun _ _ => rfl)) (pe_op op_shl pe_int (pe_fld (pv 0) rfl)) (nomark _))
        (pss_one (ps_ret (pe_tup (pa_cons (pe_glob (v := .int (-22)) rfl cO ⟨_, rfl⟩) (pa_cons pe_non pa_nil))))) pss_nil)
      (pss_cons (ps_set (i := 2) sc_set_choice.nd rfl (.inl rfl) (pgm0 kt TD.cl hr (pv 0)))
      (pss_cons (ps_fld (pv 2) (pe_ix ix_list (pv 1) pe_int (fun _ _ => rfl)) rfl)
      (pss_cons (ps_expr (pgm0 km TD.cl hr (pv 2)))
      (pss_one (ps_ret (pe_tup (pa_cons (pgm0 ke TM.cl hr (pe_fld (pv 2) rfl)) (pa_cons (pv 2) pa_nil)))))))), ?_⟩
    obtain ⟨ya, rfl, hya⟩ := ints_at hy
    have hn := ok.n8
    unfold deskOf at hp
    refine ⟨_, rfl, ya, _, _, _, rfl, rfl, SqL.of hya, rfl, _, rfl, p, CD, dx, _, _, rfl, hp, TD.cl, TD.places, get_places, _, _, rfl, rfl, ⟨by omega, by omega, by decide⟩, _, _, rfl, rfl, _, rfl, if2 (fun h => ?_) (fun h => ?_)⟩
    · have h1 : 2 ^ a.g.n ≤ t := by
        have := of_decide_eq_true h
        rw [shl_int] at this
        exact Int.ofNat_le.1 this
      refine ⟨by show 2 ≤ sizeLine; decide, fun u nu => q _ _ (same_new nu) ?_⟩
      unfold cChoose; rw [if_pos h1]; exact out_no upd_same
    have h1 : ¬ 2 ^ a.g.n ≤ t := fun z => of_decide_eq_false h (by rw [shl_int]; exact Int.ofNat_le.2 z)
    have ok' : NowOk { a with s := t } := ⟨ok.n1, ok.n8, ok.g, ok.then_n, ok.th, ok.base_n, ok.base, ok.t1, ok.t9, ok.o, by show t < 2 ^ a.g.n; omega⟩
    refine ⟨_, rfl, p, dx, _, rfl, hp, no_twin, a.g.n, l, a.t, o, a.s, a.sent, a.lost, a.far, m, p, dx, rfl, hp, by omega, fun H1 x1 d1 e1 n1 h1' => ?_⟩
    have V1 := V0.on e1
    have hya1 := e1 _ _ hya
    refine ⟨_, rfl, ya, _, _, _, rfl, rfl, SqL.of (wo_same _ _ _ _ hya1), rfl, _, rfl, x1, CD, d1, _, rfl, h1', TD.cl, TD.choice, (by rw [desk_len]; decide), ?_⟩
    rw [put_choice]
    refine ⟨_, rfl, x1, d1, _, rfl, upd_same, no_make, a.g.n, a.g.lines, a.t, a.o, t, a.sent, a.lost, a.far, m, l, o, x1, d1, rfl, upd_same, by rw [wo_upd]; exact V1.l, by rw [wo_upd]; exact V1.o, Ready.of ok', fun H2 m2 e2 h2 hm => ?_⟩
    rw [wo_upd] at e2
    have hm' : rMade CM (wo H2 x1) m2 (allOf ({ a with s := t } : Now).made) := by rw [allOf_made]; exact hm
    have hd : DeskIn CD CM H2 x1 ({ a with s := t } : Now).made := ⟨d1, l, o, m2, h2, stays_lines _ _ _ _ e2 V1.l, stays_ints _ _ _ _ e2 V1.o, hm'⟩
    obtain ⟨mp, dm, ma, mb, mc, mn, md, me, mf, rfl, hmp, _⟩ := id hm'
    have w2 := wo_same H2 x1
    refine ⟨_, rfl, x1, CD, d1, _, _, rfl, h2, TD.cl, TD.made, get_made, mp, dm, _, rfl, w2 _ _ hmp, no_count_entries, ({ a with s := t } : Now).made, _, rfl, stays_made _ _ _ _ w2 hm', ok'.made, fun H3 e3 => ⟨_, rfl, (by show 2 ≤ sizeLine; decide), fun u nu => ?_⟩⟩
    refine q _ _ ((e1.trans e2).trans ((wo_same H2 x1).trans (e3.trans (same_new nu)))) ?_
    unfold cChoose; rw [if_neg h1]
    exact out_yes upd_same (stays_desk _ _ _ _ (e3.trans (same_new nu)) hd.desk)

theorem k_make_all {CD CM : Addr} (B : Plain mg) (TD : DeskC K CD) (TM : MadeC K CM) (ka : Kept P w K mg base 8 "made_anew" (sp_made_anew CD CM)) (D : Here K mg "make_all" s_make_all ["desk", "numbers"]) : Kept P w K mg base 9 "make_all" (spChg CD CM fMake) := by
  refine kept_of D sc_make_all (fun vs H Q E h => ?_) (fun f cdv A outer s H vs Q E hr h => ?_)
  · obtain ⟨a, nums, x, y, r, rfl, _⟩ := h; rfl
  · obtain ⟨a, nums, x, y, r, rfl, hd, ok, hy, hF, q⟩ := h
    cases (Option.some.inj hF)
    refine ⟨_, pss_cons (ps_set (i := 2) sc_make_all.nd rfl (.inl rfl) (pgo ka hr (pa_cons (pv 0) pa_nil)))
      (pss_one (ps_ret (pe_tup (pa_cons (pe_callB call_len_seq (by rfl) B.len PySem.boot_len (pa_cons (pe_fld (pe_fld (pv 2) rfl) rfl) pa_nil)) (pa_cons (pv 2) pa_nil))))), ?_⟩
    refine ⟨_, rfl, a, _, rfl, hd, ok, fun H1 x1 e1 n1 hd1 => ?_⟩
    obtain ⟨d1, l, o, m2, h2, V2⟩ := id hd1
    obtain ⟨mp, dm, ma, mb, mc, mn, md, me, mf, rfl, hmp, _, hB, _⟩ := V2.m
    obtain ⟨ba, bs, rfl, hba, pb⟩ := hB
    have w2 := wo_same H1 x1
    unfold deskOf at h2
    refine ⟨_, rfl, x1, CD, d1, _, _, rfl, h2, TD.cl, TD.made, get_made, mp, CM, dm, _, _, rfl, w2 _ _ hmp, TM.cl, TM.base, rfl, ba, bs, rfl, .inl (SqL.of (w2 _ _ hba)), _, rfl, (by show 2 ≤ sizeLine; decide), fun u nu => ?_⟩
    refine q _ _ (e1.trans (w2.trans (same_new nu))) ?_
    refine out_yes (upd_same.trans ?_) (stays_desk _ _ _ _ (same_new nu) hd1.desk)
    rw [Paired.len pb]; rfl

theorem made_gS {a : Now} (ok : NowOk a) (k : Nat) : ({ a.made with s := gS a k } : Now).made = { a.made with s := gS a k } := rfl
theorem greedy_lt {n : Nat} {s : List Kv402.Line} (h : Fine n s) {k : Nat} (hk : 1 ≤ k) : Kv404.greedy n (Kv402.table n s) k n 0 < 2 ^ n := by
  have key : ∀ (f ch : Nat), (left n (Kv402.table n s) k ch).length ≤ f → ch < 2 ^ n → Kv404.greedy n (Kv402.table n s) k f ch < 2 ^ n := by
    intro f
    induction f with
    | zero => intro ch _ h; exact h
    | succ f ih =>
      intro ch hl hc
      by_cases hne : left n (Kv402.table n s) k ch = []
      · rw [greedy_end n k (f + 1) ch _ hne]; exact hc
      · obtain ⟨w, _, hw, _, hl2, e⟩ := greed_turn h hk hne hl
        rw [e]
        exact ih _ hl2 (or_lt hc hw)
  exact key n 0 (by rw [left_zero]; simp) (Nat.two_pow_pos n)
theorem k_choose_by_greed {CD CM : Addr} (Cn : Consts mg) (TD : DeskC K CD) (TM : MadeC K CM) (ka : Kept P w K mg base 8 "made_anew" (sp_made_anew CD CM)) (kg : Kept P w K mg base 2 "chosen_by_greed" sp_chosen_by_greed) (km : KeptM P w K mg base 7 CD "make" (sp_make CD CM))
    (ke : KeptM P w K mg base 1 CM "count_entries" (sp_count_entries CM)) (D : Here K mg "choose_by_greed" s_choose_by_greed ["desk", "numbers"]) : Kept P w K mg base 9 "choose_by_greed" (spChg CD CM fGreedy) := by
  obtain ⟨tk, cO⟩ := Cn.outOf
  refine kept_of D sc_choose_by_greed (fun vs H Q E h => ?_) (fun f cdv A outer s H vs Q E hr h => ?_)
  · obtain ⟨a, nums, x, y, r, rfl, _⟩ := h; rfl
  · obtain ⟨a, nums, x, y, r, rfl, hd0, ok, hy, hF, q⟩ := h
    obtain ⟨t, rfl, rfl⟩ := one_of (f := cGreedy a) (F := fGreedy a) (fun l => by unfold fGreedy; split <;> rfl) hF
    refine ⟨_, pss_cons (ps_if (PW.pt (pw_or (pt_cmpR op_lt (pe_ix ix_list (pv 1) pe_int (fun _ _ => rfl)) pe_int (nomark _)) (pw_or1 (pt_cmpR op_gt (pe_ix ix_list (pv 1) pe_int (fun _ _ => rfl)) pe_int (nomark _)))))
        (pss_one (ps_ret (pe_tup (pa_cons (pe_glob (v := .int (-22)) rfl cO ⟨_, rfl⟩) (pa_cons pe_non pa_nil))))) pss_nil)
      (pss_cons (ps_set (i := 2) sc_choose_by_greed.nd rfl (.inl rfl) (pgo ka hr (pa_cons (pv 0) pa_nil)))
      (pss_cons (ps_fld (pv 2) (pgo kg hr (pa_cons (pe_fld (pe_fld (pv 2) rfl) rfl) (pa_cons (pe_ix ix_list (pv 1) pe_int (fun _ _ => rfl)) pa_nil))) rfl)
      (pss_cons (ps_expr (pgm0 km TD.cl hr (pv 2)))
      (pss_one (ps_ret (pe_tup (pa_cons (pgm0 ke TM.cl hr (pe_fld (pv 2) rfl)) (pa_cons (pv 2) pa_nil)))))))), ?_⟩
    obtain ⟨ya, rfl, hya⟩ := ints_at hy
    have hn := ok.n8
    have refuse : (t = 0 ∨ 8 < t) → ∀ u, H u = none → Q (.ref u) (upd H u (.tup [.int (-22), .non])) := fun h u nu => by
      refine q _ _ (same_new nu) ?_
      unfold cGreedy; rw [if_pos h]; exact out_no upd_same
    refine ⟨_, rfl, ya, _, _, _, rfl, rfl, SqL.of hya, rfl, _, _, rfl, rfl, _, rfl, if2 (fun h => ?_) (fun h => ?_)⟩
    · have h1 : t < 1 := Int.ofNat_lt.1 (of_decide_eq_true h)
      exact iteT ⟨by show 2 ≤ sizeLine; decide, refuse (.inl (by omega))⟩
    have h1 : ¬ t < 1 := fun z => of_decide_eq_false h (Int.ofNat_lt.2 z)
    refine ⟨_, rfl, ya, _, _, _, rfl, rfl, SqL.of hya, rfl, _, _, rfl, rfl, _, rfl, if2 (fun h => ?_) (fun h => ?_)⟩
    · have h9 : 8 < t := Int.ofNat_lt.1 (of_decide_eq_true h)
      exact ⟨by show 2 ≤ sizeLine; decide, refuse (.inr h9)⟩
    have h9 : ¬ 8 < t := fun z => of_decide_eq_false h (Int.ofNat_lt.2 z)
    refine ⟨_, rfl, a, _, rfl, hd0, ok, fun H1 x1 e1 n1 hd1 => ?_⟩
    obtain ⟨d1, l, o, m2, h2, V1⟩ := id hd1
    obtain ⟨mp, dm, ma, mb, mc, mn, md, me, mf, rfl, hmp, _, hB, hT, _⟩ := V1.m
    have w1 := wo_same H1 x1
    have hya1 := w1 _ _ (e1 _ _ hya)
    have okm := ok.made
    unfold deskOf at h2
    refine ⟨_, rfl, x1, CD, d1, _, _, rfl, h2, TD.cl, TD.made, get_made, mp, CM, dm, _, _, rfl, w1 _ _ hmp, TM.cl, TM.far, rfl, _, rfl, ya, _, _, _, rfl, rfl, SqL.of hya1, rfl, a.g.n, a.made.base.lines, t, _, rfl, stays_tab _ _ _ _ w1 hT, okm.base.fine, ok.n1, by omega, by omega, fun H2 e2 => ?_⟩
    have egs : Kv404.greedy a.g.n (Kv402.table a.g.n a.made.base.lines) t a.g.n 0 = gS a t := rfl
    rw [egs]
    have hgs : gS a t < 2 ^ a.g.n := greedy_lt okm.base.fine (by omega)
    have h2' := e2 _ _ h2
    have wo12 : Same (wo H1 x1) (wo H2 x1) := wo_mono e2
    have V2 := V1.on wo12
    refine ⟨_, rfl, x1, CD, d1, _, rfl, h2', TD.cl, TD.choice, (by rw [desk_len]; decide), ?_⟩
    rw [put_choice]
    have ok' : NowOk { a.made with s := gS a t } := ⟨okm.n1, okm.n8, okm.g, okm.then_n, okm.th, okm.base_n, okm.base, okm.t1, okm.t9, okm.o, hgs⟩
    refine ⟨_, rfl, x1, d1, _, rfl, upd_same, no_make, a.g.n, a.g.lines, a.t, a.o, gS a t, a.sent, a.lost, a.far, _, l, o, x1, d1, rfl, upd_same, by rw [wo_upd]; exact V2.l, by rw [wo_upd]; exact V2.o, Ready.of ok', fun H3 m3 e3 h3 hm => ?_⟩
    rw [wo_upd] at e3
    have hm' : rMade CM (wo H3 x1) m3 (allOf { a.made with s := gS a t }) := by rw [← made_gS ok, allOf_made]; exact hm
    have hd : DeskIn CD CM H3 x1 { a.made with s := gS a t } := ⟨d1, l, o, m3, h3, stays_lines _ _ _ _ e3 V2.l, stays_ints _ _ _ _ e3 V2.o, hm'⟩
    obtain ⟨mp', dm', ma', mb', mc', mn', md', me', mf', rfl, hmp', _⟩ := id hm'
    have w3 := wo_same H3 x1
    refine ⟨_, rfl, x1, CD, d1, _, _, rfl, h3, TD.cl, TD.made, get_made, mp', dm', _, rfl, w3 _ _ hmp', no_count_entries, { a.made with s := gS a t }, _, rfl, stays_made _ _ _ _ w3 hm', ok', fun H4 e4 => ⟨_, rfl, (by show 2 ≤ sizeLine; decide), fun u nu => ?_⟩⟩
    refine q _ _ ((e1.trans (wo12.trans e3)).trans ((wo_same H3 x1).trans (e4.trans (same_new nu)))) ?_
    unfold cGreedy; rw [if_neg (by omega)]
    exact out_yes upd_same (stays_desk _ _ _ _ (e4.trans (same_new nu)) hd.desk)
end
end Nk
set_option Elab.async false
set_option maxRecDepth 100000
set_option maxHeartbeats 4000000
namespace Nk
open PySem PySem.Spec PyProof.Rows L2
open Kv406 (Now)
theorem no_eq (a : Now) (u v : Nat) : a.no u v = !(decide (u < a.g.n) && decide (v < a.g.n)) := by
  unfold Kv406.Now.no
  rw [Bool.eq_iff_iff]; simp
theorem no_eq2 (a : Now) (u v : Nat) : a.no u v = !([u, v].all fun k => decide (k < a.g.n)) := by
  rw [no_eq]
  show _ = !(decide (u < a.g.n) && (decide (v < a.g.n) && true))
  rw [Bool.and_true]
theorem cut_drop (xs : List V) (k : Nat) : cutV xs (some (k : Int)) none = xs.drop k := by
  unfold cutV
  rw [HT.sIx_none, HT.sIx_nat]
  rcases Nat.le_total k xs.length with h | h
  · rw [Nat.min_eq_left h, List.take_of_length_le (by rw [List.length_drop]; omega)]
  · rw [Nat.min_eq_right h, Nat.sub_self, List.take_zero, List.drop_of_length_le h]
theorem paired_take {α β : Type} {F : α → β → Prop} : ∀ {l : List α} {m : List β} (k : Nat), Paired F l m → Paired F (l.take k) (m.take k)
  | _, _, 0, _ => by simp; exact .nil
  | _, _, _ + 1, .nil => .nil
  | _, _, k + 1, .cons a b => .cons a (paired_take k b)
theorem paired_drop {α β : Type} {F : α → β → Prop} : ∀ {l : List α} {m : List β} (k : Nat), Paired F l m → Paired F (l.drop k) (m.drop k)
  | _, _, 0, h => h
  | _, _, _ + 1, .nil => .nil
  | _, _, k + 1, .cons _ b => paired_drop k b
theorem paired_append {α β : Type} {F : α → β → Prop} : ∀ {l l' : List α} {m m' : List β}, Paired F l m → Paired F l' m' → Paired F (l ++ l') (m ++ m')
  | _, _, _, _, .nil, h => h
  | _, _, _, _, .cons a b, h => .cons a (paired_append b h)
section
variable {P : Program} {w : World} {K : PySem.W.Frag} {mg : Str → Option Value} {base : Heap}
theorem fSend_inv {a : Now} {nums : List Nat} {r : Int × Option Now} (e : fSend a nums = some r) : ∃ t u, nums = [t, u] ∧ r = cSend a t u := by
  unfold fSend at e
  split at e
  · rename_i t u; exact ⟨t, u, rfl, (Option.some.inj e).symm⟩
  · cases e
theorem k_send_one {CD CM : Addr} (Cn : Consts mg) (TD : DeskC K CD) (kh : KeptM P w K mg base 1 CD "has_places" (sp_has_places CD)) (kt : KeptM P w K mg base 3 CD "twin" (sp_twin CD)) (kp : KeptM P w K mg base 5 CD "post" (sp_post CD CM))
    (D : Here K mg "send_one" s_send_one ["desk", "numbers"]) : Kept P w K mg base 6 "send_one" (spChg CD CM fSend) := by
  obtain ⟨tk, cO⟩ := Cn.outOf
  obtain ⟨tk2, cN⟩ := Cn.noSuch
  refine kept_of D sc_send_one (fun vs H Q E h => ?_) (fun f cdv A outer s H vs Q E hr h => ?_)
  · obtain ⟨a, nums, x, y, r, rfl, _⟩ := h; rfl
  · obtain ⟨a, nums, x, y, r, rfl, ⟨p, dx, l, o, m, rfl, hp, V0⟩, ok, hy, hF, q⟩ := h
    obtain ⟨u, v, rfl, rfl⟩ := fSend_inv hF
    -- desk 0, numbers 1, u 2, v 3, after 4, comes 5
    refine ⟨_, pss_cons (ps_set (i := 2) sc_send_one.nd rfl (.inl rfl) (pe_ix ix_list (pv 1) pe_int (fun _ _ => rfl)))
      (pss_cons (ps_set (i := 3) sc_send_one.nd rfl (.inl rfl) (pe_ix ix_list (pv 1) pe_int (fun _ _ => rfl)))
      (pss_cons (ps_if (pt_not (pt_val (pgm kh TD.cl hr (pv 0) (pa_cons (pe_lst (pa_cons (pv 2) (pa_cons (pv 3) pa_nil))) pa_nil)))) (pss_one (ps_ret (pe_tup (pa_cons (pe_glob (v := .int (-2)) rfl cN ⟨_, rfl⟩) (pa_cons pe_non pa_nil))))) pss_nil)
      (pss_cons (ps_if (pt_cmpR op_eq (pv 2) (pv 3) (nomark _)) (pss_one (ps_ret (pe_tup (pa_cons (pe_glob (v := .int (-22)) rfl cO ⟨_, rfl⟩) (pa_cons pe_non pa_nil))))) pss_nil)
      (pss_cons (ps_set (i := 4) sc_send_one.nd rfl (.inl rfl) (pgm0 kt TD.cl hr (pv 0)))
      (pss_cons (ps_set (i := 5) sc_send_one.nd rfl (.inl rfl) (pgm kp TD.cl hr (pv 4) (pa_cons (pv 2) (pa_cons (pv 3) pa_nil))))
      (pss_one (ps_ret (pe_tup (pa_cons (pv 5) (pa_cons (pv 4) pa_nil)))))))))), ?_⟩
    obtain ⟨ya, rfl, hya⟩ := ints_at hy
    have hn := ok.n8
    unfold deskOf at hp
    refine ⟨_, rfl, ya, _, _, _, rfl, rfl, SqL.of hya, rfl, ?_⟩
    refine ⟨_, rfl, ya, _, _, _, rfl, rfl, SqL.of hya, rfl, ?_⟩
    refine ⟨_, rfl, p, dx, _, rfl, hp, no_has_places, _, rfl, _, rfl, (by show 2 ≤ sizeLine; decide), fun t0 nt0 => ?_⟩
    refine ⟨a.g.n, l, a.t, o, a.s, a.sent, a.lost, a.far, m, p, dx, [u, v], _, rfl, (same_new nt0) _ _ hp, ⟨t0, _, rfl, upd_same, pairedN.2 rfl⟩, (by show 2 ≤ 100; decide), fun H e0 => ⟨_, rfl, ?_⟩⟩
    have sH := (same_new nt0).trans e0
    have hp := sH _ _ hp
    have V0 := V0.on sH
    have q := fun H' z s h => q H' z (sH.trans s) h
    show if (!([u, v].all fun k => decide (k < a.g.n))) = true then _ else _
    rw [← no_eq2]
    refine if2 (fun h => ?_) (fun h => ?_)
    · refine ⟨by show 2 ≤ sizeLine; decide, fun t nt => q _ _ (same_new nt) ?_⟩
      unfold cSend; rw [if_pos h]; exact out_no upd_same
    have hno := h
    have huv : u < a.g.n ∧ v < a.g.n := by rw [no_eq] at h; simpa using h
    refine ⟨_, rfl, _, rfl, rfl, _, rfl, ?_⟩
    show if decide (nV u = nV v) = true then _ else _
    rw [nV_dec]
    refine if2 (fun h => ?_) (fun h => ?_)
    · refine ⟨by show 2 ≤ sizeLine; decide, fun t nt => q _ _ (same_new nt) ?_⟩
      unfold cSend; rw [if_neg (by rw [hno]; exact Bool.false_ne_true), if_pos (of_decide_eq_true h)]; exact out_no upd_same
    refine ⟨_, rfl, p, dx, _, rfl, hp, no_twin, a.g.n, l, a.t, o, a.s, a.sent, a.lost, a.far, m, p, dx, rfl, hp, by omega, fun H1 x1 d1 e1 n1 h1 => ?_⟩
    have hd1 : DeskIn CD CM H1 x1 a := twin_in e1 h1 V0
    refine ⟨_, rfl, x1, d1, _, rfl, h1, no_post, _, rfl, _, rfl, a, u, v, x1, rfl, hd1, ok, huv.1, huv.2, fun H2 e2 hd2 => ?_⟩
    refine ⟨_, rfl, _, rfl, (by show 2 ≤ sizeLine; decide), fun t nt => q _ _ ((e1.trans e2).trans ((wo_same H2 x1).trans (same_new nt))) ?_⟩
    unfold cSend; rw [if_neg (by rw [hno]; exact Bool.false_ne_true), if_neg (of_decide_eq_false h)]
    exact out_yes upd_same (stays_desk _ _ _ _ (same_new nt) hd2.desk)

/-- the messages from u to the first j places -/
def sendTo (u : Nat) (w : Now) (v : Nat) : Now := if u = v then w else w.sent_ u v
def sendRow (n : Nat) (w : Now) (u : Nat) : Now := (List.range n).foldl (sendTo u) w
theorem cAll_un (a : Now) : cAll a = (((a.g.n * (a.g.n - 1) : Nat) : Int), some ((List.range a.g.n).foldl (sendRow a.g.n) a)) := rfl
theorem sent_g (a : Now) (u v : Nat) : (a.sent_ u v).g = a.g ∧ (a.sent_ u v).sent = a.sent + 1 := by
  unfold Kv406.Now.sent_; split <;> exact ⟨rfl, rfl⟩
theorem sendTo_ok {u : Nat} : ∀ (l : List Nat) (a : Now), NowOk a → NowOk (l.foldl (sendTo u) a) ∧ (l.foldl (sendTo u) a).g = a.g
  | [], _, h => ⟨h, rfl⟩
  | v :: l, a, h => by
    have h1 : NowOk (sendTo u a v) ∧ (sendTo u a v).g = a.g := by
      unfold sendTo
      split
      · exact ⟨h, rfl⟩
      · exact ⟨h.sent u v, (sent_g a u v).1⟩
    obtain ⟨h2, h3⟩ := sendTo_ok l (sendTo u a v) h1.1
    exact ⟨h2, h3.trans h1.2⟩
theorem sendTo_count {u : Nat} : ∀ (j : Nat) (a : Now), ((List.range j).foldl (sendTo u) a).sent = a.sent + (if u < j then j - 1 else j)
  | 0, a => by simp
  | j + 1, a => by
    rw [List.range_succ, List.foldl_append, List.foldl_cons, List.foldl_nil]
    have ih := sendTo_count (u := u) j a
    unfold sendTo at ih ⊢
    by_cases h : u = j
    · rw [if_pos h, ih, if_neg (by omega), if_pos (by omega)]; rfl
    · rw [if_neg h, (sent_g _ _ _).2, ih]
      by_cases hlt : u < j
      · rw [if_pos hlt, if_pos (by omega)]; omega
      · rw [if_neg hlt, if_neg (by omega)]; omega
theorem sendRow_ok {n : Nat} : ∀ (l : List Nat) (a : Now), NowOk a → NowOk (l.foldl (sendRow n) a) ∧ (l.foldl (sendRow n) a).g = a.g
  | [], _, h => ⟨h, rfl⟩
  | u :: l, a, h => by
    have h1 := sendTo_ok (u := u) (List.range n) a h
    obtain ⟨h2, h3⟩ := sendRow_ok (n := n) l (sendRow n a u) h1.1
    exact ⟨h2, h3.trans h1.2⟩
theorem sendRow_count {n : Nat} : ∀ (i : Nat) (a : Now), i ≤ n → ((List.range i).foldl (sendRow n) a).sent = a.sent + i * (n - 1)
  | 0, a, _ => by simp
  | i + 1, a, hi => by
    rw [List.range_succ, List.foldl_append, List.foldl_cons, List.foldl_nil]
    have ih := sendRow_count (n := n) i a (by omega)
    unfold sendRow at ih ⊢
    rw [sendTo_count, ih, if_pos (by omega), Nat.add_mul, Nat.one_mul]; omega
theorem k_send_all {CD CM : Addr} (B : Plain mg) (TD : DeskC K CD) (kt : KeptM P w K mg base 3 CD "twin" (sp_twin CD)) (kp : KeptM P w K mg base 5 CD "post" (sp_post CD CM))
    (D : Here K mg "send_all" s_send_all ["desk", "numbers"]) : Kept P w K mg base 6 "send_all" (spChg CD CM fAll) := by
  refine kept_of D sc_send_all (fun vs H Q E h => ?_) (fun f cdv A outer s H vs Q E hr h => ?_)
  · obtain ⟨a, nums, x, y, r, rfl, _⟩ := h; rfl
  · obtain ⟨a, nums, x, y, r, rfl, ⟨p, dx, l, o, m, rfl, hp, V0⟩, ok, hy, hF, q⟩ := h
    cases (Option.some.inj hF)
    rw [cAll_un] at q
    -- desk 0, numbers 1, after 2, u 3, v 4
    refine ⟨_, pss_cons (ps_set (i := 2) sc_send_all.nd rfl (.inl rfl) (pgm0 kt TD.cl hr (pv 0)))
      (pss_cons (ps_for PassesOwn.never rfl (pi_range1 rfl B.range (pa_cons (pe_fld (pv 0) rfl) pa_nil)) (pg_name (i := 3) sc_send_all.nd rfl (.inl rfl))
        (pss_one (ps_for PassesOwn.never rfl (pi_range1 rfl B.range (pa_cons (pe_fld (pv 0) rfl) pa_nil)) (pg_name (i := 4) sc_send_all.nd rfl (.inl rfl))
          (pss_one (ps_if (pt_cmpR op_ne (pv 3) (pv 4) (nomark _)) (pss_one (ps_expr (pgm kp TD.cl hr (pv 2) (pa_cons (pv 3) (pa_cons (pv 4) pa_nil))))) pss_nil)))))
      (pss_one (ps_ret (pe_tup (pa_cons (pe_op op_sub (pe_fld (pv 2) rfl) (pe_fld (pv 0) rfl)) (pa_cons (pv 2) pa_nil)))))), ?_⟩
    have hn := ok.n8
    unfold deskOf at hp
    refine ⟨_, rfl, p, dx, _, rfl, hp, no_twin, a.g.n, l, a.t, o, a.s, a.sent, a.lost, a.far, m, p, dx, rfl, hp, by omega, fun H1 x1 d1 e1 n1 h1 => ?_⟩
    have hd1 : DeskIn CD CM H1 x1 a := twin_in e1 h1 V0
    have w1 : Same H H1 := e1.trans (wo_same _ _)
    refine ⟨_, rfl, p, CD, dx, _, _, rfl, w1 _ _ hp, TD.cl, TD.places, get_places, (a.g.n : Nat), rfl, by omega, by omega, for_range (lo := 0) (n := ((a.g.n : Nat) : Int).toNat)
      (fun i σ H' => (∃ c d, σ = [some (.ref p), some y, some (.ref x1), c, d]) ∧ Same H (wo H' x1) ∧ DeskIn CD CM H' x1 ((List.range i).foldl (sendRow a.g.n) a)) ⟨⟨_, _, rfl⟩, e1, hd1⟩ ?_ ?_⟩
    · rintro i σ H2 hi ⟨⟨c, d, rfl⟩, e2, hd2⟩
      have hi' : i < a.g.n := by simpa using hi
      rw [Int.zero_add, List.range_succ, List.foldl_append, List.foldl_cons, List.foldl_nil]
      obtain ⟨okB, gB⟩ := sendRow_ok (n := a.g.n) (List.range i) a ok
      generalize (List.range i).foldl (sendRow a.g.n) a = b at hd2 okB gB
      refine ⟨_, rfl, p, CD, dx, _, _, rfl, wo_same _ _ _ _ (e2 _ _ hp), TD.cl, TD.places, get_places, (a.g.n : Nat), rfl, by omega, by omega, for_range (lo := 0) (n := ((a.g.n : Nat) : Int).toNat)
        (fun j σ H' => (∃ d, σ = [some (.ref p), some y, some (.ref x1), some (nV i), d]) ∧ Same H (wo H' x1) ∧ DeskIn CD CM H' x1 ((List.range j).foldl (sendTo i) b)) ⟨⟨_, rfl⟩, e2, hd2⟩ ?_ ?_⟩
      · rintro j σ H3 hj ⟨⟨d, rfl⟩, e3, hd3⟩
        have hj' : j < a.g.n := by simpa using hj
        rw [Int.zero_add, List.range_succ, List.foldl_append, List.foldl_cons, List.foldl_nil]
        obtain ⟨okC, gC⟩ := sendTo_ok (u := i) (List.range j) b okB
        generalize (List.range j).foldl (sendTo i) b = c at hd3 okC gC
        refine ⟨_, rfl, _, rfl, rfl, _, rfl, ?_⟩
        show if (!decide (nV i = nV j)) = true then _ else _
        rw [nV_dec]
        unfold sendTo
        refine if2 (fun h => ?_) (fun h => ?_)
        · have hne : ¬ i = j := by simpa using h
          rw [if_neg hne]
          obtain ⟨d3, l3, o3, m3, h3, V3⟩ := id hd3
          have gn : c.g.n = a.g.n := by rw [gC, gB]
          refine ⟨_, rfl, x1, d3, _, rfl, h3, no_post, _, rfl, _, rfl, c, i, j, x1, rfl, hd3, okC, by omega, by omega, fun H4 e4 hd4 => ⟨⟨_, rfl⟩, e3.trans e4, hd4⟩⟩
        · have he : i = j := by simpa using h
          rw [if_pos he]
          exact ⟨⟨_, rfl⟩, e3, hd3⟩
      · rintro σ H3 ⟨⟨d, rfl⟩, e3, hd3⟩
        rw [show ((a.g.n : Nat) : Int).toNat = a.g.n by simp] at hd3
        exact ⟨⟨_, _, rfl⟩, e3, hd3⟩
    · rintro σ H2 ⟨⟨c, d, rfl⟩, e2, hd2⟩
      rw [show ((a.g.n : Nat) : Int).toNat = a.g.n by simp] at hd2
      have hcnt := sendRow_count (n := a.g.n) a.g.n a (Nat.le_refl _)
      generalize (List.range a.g.n).foldl (sendRow a.g.n) a = b at hd2 q hcnt
      obtain ⟨d3, l3, o3, m3, h3, V3⟩ := id hd2
      unfold deskOf at h3
      refine ⟨_, rfl, x1, CD, d3, _, _, rfl, h3, TD.cl, TD.sent, get_sent, _, rfl, p, CD, dx, _, _, rfl, wo_same _ _ _ _ (e2 _ _ hp), TD.cl, TD.sent, get_sent, _, _, rfl, rfl, _, rfl, (by show 2 ≤ sizeLine; decide), fun t nt => ?_⟩
      refine q _ _ (e2.trans ((wo_same H2 x1).trans (same_new nt))) (out_yes (upd_same.trans ?_) (stays_desk _ _ _ _ (same_new nt) hd2.desk))
      rw [hcnt]
      show some (HO.tup [V.int (((a.sent + a.g.n * (a.g.n - 1) : Nat) : Int) - ((a.sent : Nat) : Int)), V.ref x1]) = some (HO.tup [V.int ((a.g.n * (a.g.n - 1) : Nat) : Int), V.ref x1])
      congr 4
      omega

theorem k_cut_line {CD CM : Addr} (B : Plain mg) (Cn : Consts mg) (TD : DeskC K CD) (kt : KeptM P w K mg base 3 CD "twin" (sp_twin CD)) (D : Here K mg "cut_line" s_cut_line ["desk", "numbers"]) : Kept P w K mg base 4 "cut_line" (spChg CD CM fCut) := by
  obtain ⟨tk2, cN⟩ := Cn.noSuch
  refine kept_of D sc_cut_line (fun vs H Q E h => ?_) (fun f cdv A outer s H vs Q E hr h => ?_)
  · obtain ⟨a, nums, x, y, r, rfl, _⟩ := h; rfl
  · obtain ⟨a, nums, x, y, r, rfl, ⟨p, dx, l, o, m, rfl, hp, V0⟩, ok, hy, hF, q⟩ := h
    obtain ⟨i, rfl, rfl⟩ := one_of (f := cCut a) (F := fCut a) (fun l => by unfold fCut; split <;> rfl) hF
    -- desk 0, numbers 1, number 2, after 3
    refine ⟨_, pss_cons (ps_set (i := 2) sc_cut_line.nd rfl (.inl rfl) (pe_ix ix_list (pv 1) pe_int (fun _ _ => rfl)))
      (pss_cons (ps_if (pt_cmpR op_ge (pv 2) (pe_callB call_len_seq (by rfl) B.len PySem.boot_len (pa_cons (pe_fld (pv 0) rfl) pa_nil)) (nomark _)) (pss_one (ps_ret (pe_tup (pa_cons (pe_glob (v := .int (-2)) rfl cN ⟨_, rfl⟩) (pa_cons pe_non pa_nil))))) pss_nil)
      (pss_cons (ps_set (i := 3) sc_cut_line.nd rfl (.inl rfl) (pgm0 kt TD.cl hr (pv 0)))
      (pss_cons (ps_fld (pv 3) (pe_op op_cat (pe_slice sl_list (pe_fld (pv 0) rfl) po_none (po_some (pv 2))) (pe_slice sl_list (pe_fld (pv 0) rfl) (po_some (pe_op op_add (pv 2) pe_int)) po_none)) rfl)
      (pss_one (ps_ret (pe_tup (pa_cons (pe_callB call_len_seq (by rfl) B.len PySem.boot_len (pa_cons (pe_fld (pv 3) rfl) pa_nil)) (pa_cons (pv 3) pa_nil)))))))), ?_⟩
    obtain ⟨ya, rfl, hya⟩ := ints_at hy
    obtain ⟨la, ls, rfl, hla, pl⟩ := id V0.l
    have hn := ok.n8
    have hlen := Paired.len pl
    have hfew := ok.g.few
    unfold deskOf at hp
    refine ⟨_, rfl, ya, _, _, _, rfl, rfl, SqL.of hya, rfl, ?_⟩
    refine ⟨_, rfl, _, rfl, p, CD, dx, _, _, rfl, hp, TD.cl, TD.lines, get_lines, la, ls, rfl, .inl (SqL.of hla), _, _, rfl, rfl, _, rfl, if2 (fun h => ?_) (fun h => ?_)⟩
    · have h1 : a.g.lines.length ≤ i := by rw [← hlen]; exact Int.ofNat_le.1 (of_decide_eq_true h)
      refine ⟨by show 2 ≤ sizeLine; decide, fun t nt => q _ _ (same_new nt) ?_⟩
      unfold cCut; rw [if_pos h1]; exact out_no upd_same
    have h1 : ¬ a.g.lines.length ≤ i := by rw [← hlen]; exact fun z => of_decide_eq_false h (Int.ofNat_le.2 z)
    refine ⟨_, rfl, p, dx, _, rfl, hp, no_twin, a.g.n, _, a.t, o, a.s, a.sent, a.lost, a.far, m, p, dx, rfl, hp, by omega, fun H1 x1 d1 e1 n1 hx1 => ?_⟩
    have w1 : Same H H1 := e1.trans (wo_same _ _)
    have V1 := V0.on e1
    refine ⟨_, rfl, p, CD, dx, _, _, rfl, w1 _ _ hp, TD.cl, TD.lines, get_lines, _, rfl, (i : Nat), rfl, la, ls, rfl, SqL.of (w1 _ _ hla), fun t1 nt1 => ?_⟩
    have e2 := same_new (o := .lst (cutV ls none (some ((i : Nat) : Int)))) nt1
    refine ⟨_, rfl, p, CD, dx, _, _, rfl, e2 _ _ (w1 _ _ hp), TD.cl, TD.lines, get_lines, _, rfl, _, _, rfl, rfl, ((i + 1 : Nat) : Int), rfl, la, ls, rfl, SqL.of (e2 _ _ (w1 _ _ hla)), fun t2 nt2 => ?_⟩
    have n12 : t1 ≠ t2 := fun e => by rw [e, upd_same] at nt2; cases nt2
    have e3 := same_new (o := .lst (cutV ls (some ((i + 1 : Nat) : Int)) none)) nt2
    refine ⟨t1, t2, _, _, rfl, rfl, (upd_ne n12).trans upd_same, upd_same, ?_, fun t3 nt3 => ?_⟩
    · rw [cut_take, cut_drop, List.length_take, List.length_drop]
      exact Nat.le_of_lt (size100 (by omega))
    rw [cut_take, cut_drop] at *
    have e4 := same_new (o := .lst (ls.take i ++ ls.drop (i + 1))) nt3
    have s4 : Same H1 (upd (upd (upd H1 t1 (.lst (ls.take i))) t2 (.lst (ls.drop (i + 1)))) t3 (.lst (ls.take i ++ ls.drop (i + 1)))) := e2.trans (e3.trans e4)
    have h43 : (upd (upd (upd H1 t1 (.lst (ls.take i))) t2 (.lst (ls.drop (i + 1)))) t3 (.lst (ls.take i ++ ls.drop (i + 1)))) t3 = some (.lst (ls.take i ++ ls.drop (i + 1))) := upd_same
    generalize upd (upd (upd H1 t1 (.lst (ls.take i))) t2 (.lst (ls.drop (i + 1)))) t3 (.lst (ls.take i ++ ls.drop (i + 1))) = H4 at s4 h43
    have hx4 := s4 _ _ hx1
    refine ⟨_, rfl, x1, CD, d1, _, rfl, hx4, TD.cl, TD.lines, (by rw [desk_len]; decide), ?_⟩
    rw [put_lines]
    have w4 : Same (wo H1 x1) (wo H4 x1) := wo_mono s4
    have V4 := V1.on w4
    have n3x : t3 ≠ x1 := ne_of h43 hx4 (by intro z; cases z)
    have hnl : rLines (wo H4 x1) (.ref t3) (a.g.lines.eraseIdx i) := by
      refine ⟨t3, _, rfl, by rw [wo_ne n3x]; exact h43, ?_⟩
      rw [List.eraseIdx_eq_take_drop_succ]
      have pl4 := Paired.mono (fun _ _ z => stays_line _ _ _ _ (e1.trans w4) z) pl
      exact paired_append (paired_take i pl4) (paired_drop (i + 1) pl4)
    have hd : DeskIn CD CM (upd H4 x1 (.ins CD d1 (deskF a.g.n (.ref t3) a.t o a.s a.sent a.lost a.far m))) x1 { a with g := { a.g with lines := a.g.lines.eraseIdx i } } :=
      ⟨d1, .ref t3, o, m, upd_same, by rw [wo_upd]; exact ⟨hnl, V4.o, V4.m⟩⟩
    refine ⟨_, rfl, x1, CD, d1, _, _, rfl, upd_same, TD.cl, TD.lines, get_lines, t3, _, rfl, .inl (SqL.of ((upd_ne n3x).trans h43)), _, rfl, (by show 2 ≤ sizeLine; decide), fun t nt => ?_⟩
    refine q _ _ (((e1.trans w4).trans upd_over).trans (same_new nt)) ?_
    unfold cCut; rw [if_neg h1]
    refine out_yes (upd_same.trans ?_) (stays_desk _ _ _ _ (same_new nt) hd.desk)
    rw [List.length_append, List.length_take, List.length_drop]
    show some (HO.tup [V.int ((min i ls.length + (ls.length - (i + 1)) : Nat) : Int), V.ref x1]) = some (HO.tup [V.int ((a.g.lines.length - 1 : Nat) : Int), V.ref x1])
    congr 4
    omega
end
end Nk
set_option Elab.async false
set_option maxRecDepth 100000
set_option maxHeartbeats 4000000
namespace Nk
open PySem PySem.Spec PyProof.Rows L2
open Kv406 (Now)
/-! ## lists of whole numbers as data -/
theorem dp_ints {K : PySem.W.Frag} {H : Hp} : ∀ (ns : List Int), DpAll K H (ns.map V.int) (ns.map PyData.int)
  | [] => .nil
  | n :: r => .cons (.int n) (dp_ints r)
theorem lay_ints : ∀ (ns : List Int), PyData.canLayAll0 (ns.map PyData.int) = true
  | [] => rfl
  | n :: r => by
    rw [List.map_cons]
    show (true && PyData.canLayAll0 (r.map PyData.int)) = true
    rw [lay_ints r]; rfl
theorem depth_ints : ∀ (ns : List Int), PyData.depthAll (ns.map PyData.int) = 0
  | [] => rfl
  | n :: r => by
    rw [List.map_cons]
    show max 0 (PyData.depthAll (r.map PyData.int)) = 0
    rw [depth_ints r]; rfl
theorem shaped_ints (ns : List Int) : SeqAt.shaped (.list (ns.map PyData.int)) = true := by
  unfold SeqAt.shaped
  rw [Bool.and_eq_true]
  refine ⟨lay_ints ns, decide_eq_true ?_⟩
  show PyData.depthAll (ns.map PyData.int) + 1 ≤ 64
  rw [depth_ints]; decide
theorem eqv_ints : ∀ (ns ms : List Int), PyData.eqvAll (ns.map PyData.int) (ms.map PyData.int) = decide (ns = ms)
  | [], [] => rfl
  | [], _ :: _ => rfl
  | _ :: _, [] => rfl
  | n :: r, m :: s => by
    rw [List.map_cons, List.map_cons]
    show ((n == m) && PyData.eqvAll (r.map PyData.int) (s.map PyData.int)) = _
    rw [eqv_ints r s, Bool.eq_iff_iff]
    simp
theorem map_ofNat_inj : ∀ {l m : List Nat}, l.map Int.ofNat = m.map Int.ofNat → l = m
  | [], [], _ => rfl
  | [], _ :: _, h => by cases h
  | _ :: _, [], h => by cases h
  | x :: l, y :: m, h => by
    rw [List.map_cons, List.map_cons] at h
    have h1 := (List.cons.inj h)
    rw [Int.ofNat.inj h1.1, map_ofNat_inj h1.2]
/-- a row in order is the places, just where it has each place once -/
theorem sorted_order {n : Nat} {l : List Nat} {ns : List Int} (hp : ns.Perm (l.map Int.ofNat)) (hs : ns.Pairwise (· ≤ ·)) : ns = (List.range n).map Int.ofNat ↔ Kv403.okOrder n l = true := by
  rw [okOrder_iff]
  constructor
  · intro e
    have h2 : ((List.range n).map Int.ofNat).Perm (l.map Int.ofNat) := e ▸ hp
    have hm : ∀ v, v < n → v ∈ l := by
      intro v hv
      have : Int.ofNat v ∈ l.map Int.ofNat := h2.mem_iff.1 (List.mem_map.2 ⟨v, List.mem_range.2 hv, rfl⟩)
      obtain ⟨x, hx, ex⟩ := List.mem_map.1 this
      rw [← Int.ofNat.inj ex]; exact hx
    have hl := h2.length_eq
    rw [List.length_map, List.length_map, List.length_range] at hl
    exact ⟨hl.symm, hm⟩
  · intro h
    have h1 := (pigeon n l h.1 h.2).map Int.ofNat
    refine List.Perm.eq_of_pairwise (le := (· ≤ ·)) (fun a b _ _ hab hba => Int.le_antisymm hab hba) hs ?_ (hp.trans h1)
    rw [List.pairwise_map]
    exact List.pairwise_lt_range.imp fun h => Int.ofNat_le.2 (Nat.le_of_lt h)
theorem code3 (w a b : Nat) : TS.code 100 [((w : Nat) : Int), ((a : Nat) : Int), ((b : Nat) : Int)] = (w : Int) * 10000 + ((a : Int) * 100 + (b : Int)) := by
  show (w : Int) * 100 ^ 2 + ((a : Int) * 100 ^ 1 + ((b : Int) * 100 ^ 0 + 0)) = _
  have e2 : (100 : Int) ^ 2 = 10000 := by decide
  have e1 : (100 : Int) ^ 1 = 100 := by decide
  have e0 : (100 : Int) ^ 0 = 1 := by decide
  rw [e2, e1, e0]; omega
section
variable {P : Program} {w : World} {K : PySem.W.Frag} {mg : Str → Option Value} {base : Heap}
theorem k_set_order {CD CM : Addr} (B : Plain mg) (Cn : Consts mg) (TD : DeskC K CD) (TM : MadeC K CM) (kt : KeptM P w K mg base 3 CD "twin" (sp_twin CD)) (km : KeptM P w K mg base 7 CD "make" (sp_make CD CM)) (ke : KeptM P w K mg base 1 CM "count_marks" (sp_count_marks CM))
    (D : Here K mg "set_order" s_set_order ["desk", "row"]) : Kept P w K mg base 8 "set_order" (spChg CD CM fOrder) := by
  obtain ⟨tk, cO⟩ := Cn.outOf
  refine kept_of D sc_set_order (fun vs H Q E h => ?_) (fun f cdv A outer s H vs Q E hr h => ?_)
  · obtain ⟨a, nums, x, y, r, rfl, _⟩ := h; rfl
  · obtain ⟨a, nums, x, y, r, rfl, ⟨p, dx, l, o, m, rfl, hp, V0⟩, ok, hy, hF, q⟩ := h
    cases (Option.some.inj hF)
    -- desk 0, row 1, after 2
    refine ⟨_, pss_cons (ps_if (pt_cmpR (op_neD hr.units) (pe_callB cr_sortedI (by rfl) B.sorted (by decide +kernel) (pa_cons (pv 1) pa_nil)) (pe_listRg rfl rfl B.list (prg_1 rfl B.range (pe_fld (pv 0) rfl))) (nomark _))
        (pss_one (ps_ret (pe_tup (pa_cons (pe_glob (v := .int (-22)) rfl cO ⟨_, rfl⟩) (pa_cons pe_non pa_nil))))) pss_nil)
      (pss_cons (ps_set (i := 2) sc_set_order.nd rfl (.inl rfl) (pgm0 kt TD.cl hr (pv 0)))
      (pss_cons (ps_fld (pv 2) (pe_callTy call_list_of (by rfl) B.list (by decide +kernel) (pa_cons (pv 1) pa_nil)) rfl)
      (pss_cons (ps_expr (pgm0 km TD.cl hr (pv 2)))
      (pss_one (ps_ret (pe_tup (pa_cons (pgm0 ke TM.cl hr (pe_fld (pv 2) rfl)) (pa_cons (pv 2) pa_nil)))))))), ?_⟩
    obtain ⟨ya, rfl, hya⟩ := ints_at hy
    have hn := ok.n8
    unfold deskOf at hp
    have hyi : H ya = some (.lst ((nums.map Int.ofNat).map V.int)) := by rw [← toV_ints]; exact hya
    refine ⟨_, rfl, ya, nums.map Int.ofNat, rfl, SqL.of hyi, fun ns t1 perm srt nt1 => ?_⟩
    have e1 : Same H (upd H t1 (.lst (ns.map V.int))) := same_new nt1
    refine ⟨_, rfl, p, CD, dx, _, _, rfl, e1 _ _ hp, TD.cl, TD.places, get_places, (a.g.n : Nat), rfl, RgOk.of_le (by omega) (by omega) (by omega) (by omega), fun t2 nt2 => ?_⟩
    have e2 := same_new (o := .lst (rgV 0 ((a.g.n : Nat) : Int))) nt2
    have n12 : t1 ≠ t2 := fun e => by rw [e, upd_same] at nt2; cases nt2
    refine ⟨.list (ns.map PyData.int), .list (((List.range a.g.n).map Int.ofNat).map PyData.int), .lst (SqL.of ((upd_ne n12).trans upd_same)) (dp_ints ns), .lst (SqL.of upd_same) (by rw [rg_ints, toV_ints]; exact dp_ints _), shaped_ints ns, shaped_ints _, _, rfl, ?_⟩
    show if (!PyData.eqvAll (ns.map PyData.int) (((List.range a.g.n).map Int.ofNat).map PyData.int)) = true then _ else _
    rw [eqv_ints]
    have sH := e1.trans e2
    generalize upd (upd H t1 (.lst (ns.map V.int))) t2 (.lst (rgV 0 ((a.g.n : Nat) : Int))) = H0 at sH
    refine if2 (fun h => ?_) (fun h => ?_)
    · have h1 : Kv403.okOrder a.g.n nums = false := by
        cases e : Kv403.okOrder a.g.n nums with
        | false => rfl
        | true =>
          have := (sorted_order perm srt).2 e
          rw [this] at h; simp at h
      refine ⟨by show 2 ≤ sizeLine; decide, fun u nu => q _ _ (sH.trans (same_new nu)) ?_⟩
      unfold cOrder; rw [if_pos h1]; exact out_no upd_same
    have hns : ns = (List.range a.g.n).map Int.ofNat := by
      have : decide (ns = (List.range a.g.n).map Int.ofNat) = true := by simpa using h
      exact of_decide_eq_true this
    have h1 : Kv403.okOrder a.g.n nums = true := (sorted_order perm srt).1 hns
    have hord := okOrder_iff.1 h1
    have ok' : NowOk { a with o := nums } := ⟨ok.n1, ok.n8, ok.g, ok.then_n, ok.th, ok.base_n, ok.base, ok.t1, ok.t9, hord, ok.s⟩
    have hp0 := sH _ _ hp
    refine ⟨_, rfl, p, dx, _, rfl, hp0, no_twin, a.g.n, l, a.t, o, a.s, a.sent, a.lost, a.far, m, p, dx, rfl, hp0, by omega, fun H1 x1 d1 e3 n1 hx1 => ?_⟩
    have V1 := V0.on (sH.trans e3)
    have hya1 := wo_same _ _ _ _ (e3 _ _ (sH _ _ hya))
    refine ⟨_, rfl, ya, _, rfl, .inl (SqL.of hya1), fun t3 nt3 => ?_⟩
    have hx1' := (same_new (o := .lst (nums.map nV)) nt3) _ _ hx1
    have n3x : t3 ≠ x1 := fun e => by rw [e] at nt3; rw [nt3] at hx1; cases hx1
    refine ⟨_, rfl, x1, CD, d1, _, rfl, hx1', TD.cl, TD.order, (by rw [desk_len]; decide), ?_⟩
    rw [put_order]
    have w3 : Same (wo H1 x1) (wo (upd H1 t3 (.lst (nums.map nV))) x1) := wo_mono (same_new nt3)
    have hno : rInts (wo (upd H1 t3 (.lst (nums.map nV))) x1) (.ref t3) nums := ⟨t3, _, rfl, by rw [wo_ne n3x]; exact upd_same, pairedN.2 rfl⟩
    have V3 := V1.on w3
    refine ⟨_, rfl, x1, d1, _, rfl, upd_same, no_make, a.g.n, a.g.lines, a.t, nums, a.s, a.sent, a.lost, a.far, m, l, _, x1, d1, rfl, upd_same, by rw [wo_upd]; exact V3.l, by rw [wo_upd]; exact hno, Ready.of ok', fun H2 m2 e4 h2 hm => ?_⟩
    rw [wo_upd] at e4
    have hm' : rMade CM (wo H2 x1) m2 (allOf ({ a with o := nums } : Now).made) := by rw [allOf_made]; exact hm
    have hd : DeskIn CD CM H2 x1 ({ a with o := nums } : Now).made := ⟨d1, l, _, m2, h2, stays_lines _ _ _ _ e4 V3.l, stays_ints _ _ _ _ e4 hno, hm'⟩
    obtain ⟨mp, dm, ma, mb, mc, mn, md, me, mf, rfl, hmp, _⟩ := id hm'
    have w2 := wo_same H2 x1
    refine ⟨_, rfl, x1, CD, d1, _, _, rfl, h2, TD.cl, TD.made, get_made, mp, dm, _, rfl, w2 _ _ hmp, no_count_marks, ({ a with o := nums } : Now).made, _, rfl, stays_made _ _ _ _ w2 hm', ok'.made, fun H3 e5 => ⟨_, rfl, (by show 2 ≤ sizeLine; decide), fun u nu => ?_⟩⟩
    refine q _ _ ((sH.trans (e3.trans (w3.trans e4))).trans ((wo_same H2 x1).trans (e5.trans (same_new nu)))) ?_
    unfold cOrder; rw [if_neg (by rw [h1]; exact Bool.noConfusion)]
    exact out_yes upd_same (stays_desk _ _ _ _ (e5.trans (same_new nu)) hd.desk)
end
end Nk
set_option Elab.async false
set_option maxRecDepth 100000
set_option maxHeartbeats 4000000
namespace Nk
open PySem PySem.Spec PyProof.Rows L2
open Kv406 (Now)
theorem fLine_inv {a : Now} {nums : List Nat} {r : Int × Option Now} (e : fLine a nums = some r) : ∃ x y w, nums = [x, y, w] ∧ r = cLine a x y w := by
  unfold fLine at e
  split at e
  · rename_i t u v; exact ⟨t, u, v, rfl, (Option.some.inj e).symm⟩
  · cases e
/-- the line that a value stands for -/
def lineAt (H : Hp) (v : V) : Kv402.Line := match v with
  | .ref t => match H t with
    | some (.tup [.int w, .int a, .int b]) => ⟨a.toNat, b.toNat, w.toNat⟩
    | _ => ⟨0, 0, 0⟩
  | _ => ⟨0, 0, 0⟩
theorem lineAt_eq {H : Hp} {v : V} {l : Kv402.Line} (h : rLine H v l) : lineAt H v = l := by
  obtain ⟨a, rfl, ha⟩ := h
  show (match H a with | some (.tup [.int w, .int a, .int b]) => (⟨a.toNat, b.toNat, w.toNat⟩ : Kv402.Line) | _ => ⟨0, 0, 0⟩) = l
  rw [ha]
  show (⟨((l.a : Nat) : Int).toNat, ((l.b : Nat) : Int).toNat, ((l.w : Nat) : Int).toNat⟩ : Kv402.Line) = l
  rw [Int.toNat_natCast, Int.toNat_natCast, Int.toNat_natCast]
theorem paired_lines {H : Hp} : ∀ {vs : List V}, (∀ v ∈ vs, ∃ l, rLine H v l) → Paired (rLine H) vs (vs.map (lineAt H))
  | [], _ => .nil
  | v :: vs, h => by
    obtain ⟨l, hl⟩ := h v (List.mem_cons_self ..)
    refine .cons (by rw [lineAt_eq hl]; exact hl) (paired_lines fun x hx => h x (List.mem_cons_of_mem _ hx))
theorem line_tup {K : PySem.W.Frag} {H : Hp} {v : V} {l : Kv402.Line} (h : rLine H v l) : TupI K H v [((l.w : Nat) : Int), ((l.a : Nat) : Int), ((l.b : Nat) : Int)] := by
  obtain ⟨a, rfl, ha⟩ := h
  exact ⟨a, rfl, SqT.of ha⟩
section
variable {P : Program} {w : World} {K : PySem.W.Frag} {mg : Str → Option Value} {base : Heap}
theorem k_put_line {CD CM : Addr} (B : Plain mg) (Cn : Consts mg) (TD : DeskC K CD) (kh : KeptM P w K mg base 1 CD "has_places" (sp_has_places CD)) (kj : Kept P w K mg base 1 "joins" sp_joins) (kt : KeptM P w K mg base 3 CD "twin" (sp_twin CD))
    (D : Here K mg "put_line" s_put_line ["desk", "numbers"]) : Kept P w K mg base 4 "put_line" (spChg CD CM fLine) := by
  obtain ⟨tk, cO⟩ := Cn.outOf
  obtain ⟨tk2, cN⟩ := Cn.noSuch
  obtain ⟨tk3, cM⟩ := Cn.tooMany
  obtain ⟨tk4, cL⟩ := Cn.mostLines
  refine kept_of D sc_put_line (fun vs H Q E h => ?_) (fun f cdv A outer s H vs Q E hr h => ?_)
  · obtain ⟨a, nums, x, y, r, rfl, _⟩ := h; rfl
  · obtain ⟨a, nums, x, y, r, rfl, ⟨p, dx, l, o, m, rfl, hp, V0⟩, ok, hy, hF, q⟩ := h
    obtain ⟨u, v, lw, rfl, rfl⟩ := fLine_inv hF
    -- desk 0, numbers 1, a 2, b 3, length 4, others 5, after 6, line 7; cells: a, b
    refine ⟨_, pss_cons (ps_set (i := 2) sc_put_line.nd rfl (.inr rfl) (pe_ix ix_list (pv 1) pe_int (fun _ _ => rfl)))
      (pss_cons (ps_set (i := 3) sc_put_line.nd rfl (.inr rfl) (pe_ix ix_list (pv 1) pe_int (fun _ _ => rfl)))
      (pss_cons (ps_set (i := 4) sc_put_line.nd rfl (.inl rfl) (pe_ix ix_list (pv 1) pe_int (fun _ _ => rfl)))
      (pss_cons (ps_if (pt_not (pt_val (pgm kh TD.cl hr (pv 0) (pa_cons (pe_lst (pa_cons (pv 2) (pa_cons (pv 3) pa_nil))) pa_nil)))) (pss_one (ps_ret (pe_tup (pa_cons (pe_glob (v := .int (-2)) rfl cN ⟨_, rfl⟩) (pa_cons pe_non pa_nil))))) pss_nil)
      (pss_cons (ps_if (PW.pt (pw_or (pt_cmpR op_eq (pv 2) (pv 3) (nomark _)) (pw_or (pt_cmpR op_lt (pv 4) pe_int (nomark _)) (pw_or1 (pt_cmpR op_gt (pv 4) pe_int (nomark _)))))) (pss_one (ps_ret (pe_tup (pa_cons (pe_glob (v := .int (-22)) rfl cO ⟨_, rfl⟩) (pa_cons pe_non pa_nil))))) pss_nil)
      (pss_cons (ps_setLc (i := 5) (own := [("line", 7)]) (g := gName 7) (tt := tNot (tB (tCall sp_joins [] E0 (tCons (tVar 7) (tCons (tVar 2) (tCons (tVar 3) tNil)))))) (te := tVar 7) rfl sc_put_line.nd rfl rfl (sw_true rfl rfl rfl (by decide +kernel)) (pi_list (pe_fld (pv 0) rfl))
          (blkOk_by (N := n_put_line) (sc := defScope s_put_line) (by decide +kernel)) (fun _ _ _ _ _ => pg_name (i := 7) sc_put_line.nd rfl (.inl rfl))
          (fun _ _ _ _ _ => pts_one (pt_not (pt_val (pgo kj hr (pa_cons (pv 7) (pa_cons (pv 2) (pa_cons (pv 3) pa_nil))))))) (fun _ _ _ _ _ => pv 7))
      (pss_cons (ps_if (pt_cmpR op_ge (pe_callB call_len_seq (by rfl) B.len PySem.boot_len (pa_cons (pv 5) pa_nil)) (pe_glob (v := .int 14) rfl cL ⟨_, rfl⟩) (nomark _)) (pss_one (ps_ret (pe_tup (pa_cons (pe_glob (v := .int (-28)) rfl cM ⟨_, rfl⟩) (pa_cons pe_non pa_nil))))) pss_nil)
      (pss_cons (ps_set (i := 6) sc_put_line.nd rfl (.inl rfl) (pgm0 kt TD.cl hr (pv 0)))
      (pss_cons (ps_fld (pv 6) (pe_callB (cr_sortT (d := 3) (B := 100) (by decide)) (by rfl) B.sorted (by decide +kernel) (pa_cons (pe_op op_cat (pv 5) (pe_lst (pa_cons (pe_tup (pa_cons (pv 4)
          (pa_cons (pe_callB (call_min2 rfl) (by rfl) B.min (by decide +kernel) (pa_cons (pv 2) (pa_cons (pv 3) pa_nil))) (pa_cons (pe_callB (call_max2 rfl) (by rfl) B.max (by decide +kernel) (pa_cons (pv 2) (pa_cons (pv 3) pa_nil))) pa_nil)))) pa_nil))) pa_nil)) rfl)
      (pss_one (ps_ret (pe_tup (pa_cons (pe_callB call_len_seq (by rfl) B.len PySem.boot_len (pa_cons (pe_fld (pv 6) rfl) pa_nil)) (pa_cons (pv 6) pa_nil))))))))))))), ?_⟩
    obtain ⟨ya, rfl, hya⟩ := ints_at hy
    obtain ⟨la, ls, rfl, hla, pl⟩ := id V0.l
    have hn := ok.n8
    have hlen := Paired.len pl
    have hfew := ok.g.few
    unfold deskOf at hp
    refine ⟨_, rfl, ya, _, _, _, rfl, rfl, SqL.of hya, rfl, ?_⟩
    refine ⟨_, rfl, ya, _, _, _, rfl, rfl, SqL.of hya, rfl, ?_⟩
    refine ⟨_, rfl, ya, _, _, _, rfl, rfl, SqL.of hya, rfl, ?_⟩
    refine ⟨_, rfl, p, dx, _, rfl, hp, no_has_places, _, rfl, _, rfl, (by show 2 ≤ sizeLine; decide), fun t0 nt0 => ?_⟩
    refine ⟨a.g.n, .ref la, a.t, o, a.s, a.sent, a.lost, a.far, m, p, dx, [u, v], _, rfl, (same_new nt0) _ _ hp, ⟨t0, _, rfl, upd_same, pairedN.2 rfl⟩, (by show 2 ≤ 100; decide), fun H e0 => ⟨_, rfl, ?_⟩⟩
    have sH := (same_new nt0).trans e0
    have hp := sH _ _ hp
    have hla := sH _ _ hla
    have pl := Paired.mono (fun _ _ z => stays_line _ _ _ _ sH z) pl
    have V0 := V0.on sH
    have q := fun H' z s h => q H' z (sH.trans s) h
    show if (!([u, v].all fun k => decide (k < a.g.n))) = true then _ else _
    rw [← no_eq2]
    refine if2 (fun h => ?_) (fun h => ?_)
    · refine ⟨by show 2 ≤ sizeLine; decide, fun t nt => q _ _ (same_new nt) ?_⟩
      unfold cLine; rw [if_pos h]; exact out_no upd_same
    have hno : ¬ a.no u v = true := by rw [h]; exact Bool.false_ne_true
    have huv : u < a.g.n ∧ v < a.g.n := by rw [no_eq] at h; simpa using h
    have refuse : (u = v ∨ lw = 0 ∨ 99 < lw) → 2 ≤ sizeLine ∧ ∀ t, H t = none → Q (.ref t) (upd H t (.tup [.int (-22), .non])) := fun z => ⟨by decide, fun t nt => by
      refine q _ _ (same_new nt) ?_
      unfold cLine; rw [if_neg hno, if_pos z]; exact out_no upd_same⟩
    refine ⟨_, rfl, _, rfl, rfl, _, rfl, ?_⟩
    show if decide (nV u = nV v) = true then _ else _
    rw [nV_dec]
    refine if2 (fun h1 => iteT (refuse (.inl (of_decide_eq_true h1)))) (fun h1 => ?_)
    refine ⟨_, rfl, _, _, rfl, rfl, _, rfl, if2 (fun h2 => ?_) (fun h2 => ?_)⟩
    · have : lw < 1 := Int.ofNat_lt.1 (of_decide_eq_true h2)
      exact iteT (refuse (.inr (.inl (by omega))))
    refine ⟨_, rfl, _, _, rfl, rfl, _, rfl, if2 (fun h3 => ?_) (fun h3 => ?_)⟩
    · have : 99 < lw := Int.ofNat_lt.1 (of_decide_eq_true h3)
      exact refuse (.inr (.inr this))
    have hne : ¬ u = v := of_decide_eq_false h1
    have hw1 : ¬ lw < 1 := fun z => of_decide_eq_false h2 (Int.ofNat_lt.2 z)
    have hw9 : ¬ 99 < lw := fun z => of_decide_eq_false h3 (Int.ofNat_lt.2 z)
    have hbad : ¬ (u = v ∨ lw = 0 ∨ 99 < lw) := by omega
    -- the others
    refine ⟨_, rfl, p, CD, dx, _, _, rfl, hp, TD.cl, TD.lines, get_lines, la, rfl, ⟨_, SqL.of hla⟩, fun D1 n1 => lc_list (K := K) (a := la) (xs := ls) (fun i H' => Grow rLine H H' D1 (others (a.g.lines.take i) u v)) (Grow.start n1) ?_ ?_ ?_⟩
    · intro i H' _ g
      exact SqL.of (g.all _ _ hla)
    · intro i y H' hy' g
      obtain ⟨k, ek, rk⟩ := Paired.getL pl hy'
      have hk : k ∈ a.g.lines := List.mem_of_getElem? ek
      refine ⟨rfl, _, rfl, _, rfl, _, rfl, k, _, u, v, rfl, stays_line _ _ _ _ g.all rk, ok.g.fine.lt k hk, _, rfl, ?_⟩
      have eo : others (a.g.lines.take (i + 1)) u v = others (a.g.lines.take i) u v ++ (if (!Kv402.ends k u v) = true then [k] else []) := by
        unfold others
        rw [take_snoc ek, List.filter_append]
        congr 1
        by_cases hz : (!Kv402.ends k u v) = true
        · rw [if_pos hz, List.filter_cons_of_pos (p := fun m => !Kv402.ends m u v) hz]; rfl
        · rw [if_neg hz, List.filter_cons_of_neg (p := fun m => !Kv402.ends m u v) hz]; rfl
      rw [eo]
      show if (!Kv402.ends k u v) = true then _ else _
      refine if2 (fun hz => ?_) (fun hz => ?_)
      · obtain ⟨vs, ev, _⟩ := g.items
        rw [if_pos hz]
        refine ⟨_, rfl, vs, ev, ?_, Grow.push g ev (stays_line _ _ _ _ g.same rk)⟩
        rw [g.len ev]
        have h4 := List.length_filter_le (fun m => !Kv402.ends m u v) (a.g.lines.take i)
        rw [List.length_take] at h4
        unfold others
        exact size100 (by omega)
      · rw [if_neg (by rw [hz]; exact Bool.false_ne_true), List.append_nil]
        exact g
    intro H1 g1
    rw [hlen, List.take_of_length_le (Nat.le_refl _)] at g1
    obtain ⟨_, os, e, hD, po⟩ := g1.done stays_line
    cases e
    have olen := Paired.len po
    have s01 := g1.all
    refine ⟨_, rfl, D1, os, rfl, .inl (SqL.of hD), _, _, rfl, rfl, _, rfl, if2 (fun h4 => ?_) (fun h4 => ?_)⟩
    · have : 14 ≤ (others a.g.lines u v).length := by rw [← olen]; exact Int.ofNat_le.1 (of_decide_eq_true h4)
      refine ⟨by show 2 ≤ sizeLine; decide, fun t nt => q _ _ (s01.trans (same_new nt)) ?_⟩
      unfold cLine; rw [if_neg hno, if_neg hbad, if_pos this]; exact out_no upd_same
    have hfo : ¬ 14 ≤ (others a.g.lines u v).length := by rw [← olen]; exact fun z => of_decide_eq_false h4 (Int.ofNat_le.2 z)
    have hp1 := s01 _ _ hp
    refine ⟨_, rfl, p, dx, _, rfl, hp1, no_twin, a.g.n, _, a.t, o, a.s, a.sent, a.lost, a.far, m, p, dx, rfl, hp1, by omega, fun H2 x1 d1 e2 n2 hx1 => ?_⟩
    have V2 := V0.on (s01.trans e2)
    have hD2 := wo_same _ _ _ _ (e2 _ _ hD)
    have em : (if ((v : Nat) : Int) < ((u : Nat) : Int) then ((v : Nat) : Int) else ((u : Nat) : Int)) = ((min u v : Nat) : Int) := by split <;> omega
    have eM : (if ((v : Nat) : Int) > ((u : Nat) : Int) then ((v : Nat) : Int) else ((u : Nat) : Int)) = ((max u v : Nat) : Int) := by split <;> omega
    refine ⟨_, rfl, _, rfl, _, rfl, _, rfl, _, _, rfl, _, rfl, _, rfl, _, _, rfl, (by show 3 ≤ sizeLine; decide), fun t1 nt1 => ?_⟩
    rw [show V.int (if ((v : Nat) : Int) < ((u : Nat) : Int) then ((v : Nat) : Int) else ((u : Nat) : Int)) = nV (min u v) from congrArg V.int em, show V.int (if ((v : Nat) : Int) > ((u : Nat) : Int) then ((v : Nat) : Int) else ((u : Nat) : Int)) = nV (max u v) from congrArg V.int eM]
    have f1 : Same H2 (upd H2 t1 (.tup [nV lw, nV (min u v), nV (max u v)])) := same_new nt1
    refine ⟨(by show 1 ≤ sizeLine; decide), fun t2 nt2 => ?_⟩
    have f2 := same_new (o := .lst [.ref t1]) nt2
    have hD3 := f2 _ _ (f1 _ _ hD2)
    refine ⟨D1, t2, os, _, rfl, rfl, hD3, upd_same, ?_, fun t3 nt3 => ?_⟩
    · show os.length + 1 ≤ sizeLine
      rw [olen]
      exact Nat.le_of_lt (size100 (by omega))
    have f3 := same_new (o := .lst (os ++ [.ref t1])) nt3
    have s23 : Same H2 (upd (upd (upd H2 t1 (.tup [nV lw, nV (min u v), nV (max u v)])) t2 (.lst [.ref t1])) t3 (.lst (os ++ [.ref t1]))) := f1.trans (f2.trans f3)
    have ht3 : (upd (upd (upd H2 t1 (.tup [nV lw, nV (min u v), nV (max u v)])) t2 (.lst [.ref t1])) t3 (.lst (os ++ [.ref t1]))) t3 = some (.lst (os ++ [.ref t1])) := upd_same
    have ht1 : (upd (upd (upd H2 t1 (.tup [nV lw, nV (min u v), nV (max u v)])) t2 (.lst [.ref t1])) t3 (.lst (os ++ [.ref t1]))) t1 = some (.tup [nV lw, nV (min u v), nV (max u v)]) := f3 _ _ (f2 _ _ upd_same)
    generalize upd (upd (upd H2 t1 (.tup [nV lw, nV (min u v), nV (max u v)])) t2 (.lst [.ref t1])) t3 (.lst (os ++ [.ref t1])) = H3 at s23 ht3 ht1
    have hnew : rLine H3 (.ref t1) ⟨min u v, max u v, lw⟩ := ⟨t1, rfl, ht1⟩
    have po3 : Paired (rLine H3) os (others a.g.lines u v) := Paired.mono (fun _ _ z => stays_line _ _ _ _ (e2.trans ((wo_same _ _).trans s23)) z) po
    have hitem : ∀ z ∈ os ++ [.ref t1], ∃ k, (k = (⟨min u v, max u v, lw⟩ : Kv402.Line) ∨ k ∈ others a.g.lines u v) ∧ rLine H3 z k := by
      intro z hz
      rcases List.mem_append.1 hz with hz | hz
      · obtain ⟨k, hk, rk⟩ := Paired.mem po3 hz
        exact ⟨k, .inr hk, rk⟩
      · rw [List.mem_singleton.1 hz]
        exact ⟨_, .inl rfl, hnew⟩
    have hoL : LinesOk a.g.n (others a.g.lines u v) := ok.g.sub List.filter_sublist
    have hbd : ∀ k : Kv402.Line, (k = (⟨min u v, max u v, lw⟩ : Kv402.Line) ∨ k ∈ others a.g.lines u v) → k.w ≤ 99 ∧ k.a < 100 ∧ k.b < 100 := by
      rintro k (rfl | hk)
      · refine ⟨?_, ?_, ?_⟩ <;> simp only <;> omega
      · have h1 := hoL.most k hk
        have h2 := hoL.fine.lt k hk
        have h3 := hoL.fine.ltn k hk
        omega
    refine ⟨t3, _, rfl, SqL.of ht3, ?_, fun z hz => ?_, fun ys t4 perm pw nt4 => ?_⟩
    · rw [List.length_append, olen]
      show (others a.g.lines u v).length + 1 < 64
      omega
    · obtain ⟨k, hk, rk⟩ := hitem z hz
      obtain ⟨b1, b2, b3⟩ := hbd k hk
      refine ⟨_, line_tup rk, rfl, fun c hc => ?_⟩
      simp only [List.mem_cons, List.not_mem_nil, or_false] at hc
      rcases hc with rfl | rfl | rfl <;> omega
    -- the lines in order
    have hys : ys.map (lineAt H3) = Kv402.put ⟨min u v, max u v, lw⟩ (others a.g.lines u v) := by
      refine put_unique hoL.sorted (others_ne (s := a.g.lines) (x := u) (y := v)) ?_ ?_
      · have h1 : (ys.map (lineAt H3)).Perm ((os ++ [V.ref t1]).map (lineAt H3)) := perm.map _
        have h2 : (os ++ [V.ref t1]).map (lineAt H3) = others a.g.lines u v ++ [⟨min u v, max u v, lw⟩] := by
          rw [List.map_append, Paired.map_eq (g := id) (fun x y h => lineAt_eq h) po3, List.map_id]
          show _ ++ [lineAt H3 (.ref t1)] = _
          rw [lineAt_eq hnew]
        rw [h2] at h1
        exact h1.trans (List.perm_append_comm (l₁ := others a.g.lines u v) (l₂ := [_]))
      · rw [List.pairwise_map]
        refine List.Pairwise.imp_of_mem (fun {z z'} hz hz' hc => ?_) pw
        obtain ⟨k, hk, rk⟩ := hitem z (perm.mem_iff.1 hz)
        obtain ⟨k', hk', rk'⟩ := hitem z' (perm.mem_iff.1 hz')
        rw [lineAt_eq rk, lineAt_eq rk']
        have hle := hc _ _ (line_tup rk) (line_tup rk')
        rw [code3, code3] at hle
        obtain ⟨b1, b2, b3⟩ := hbd k hk
        obtain ⟨b1', b2', b3'⟩ := hbd k' hk'
        unfold Before
        omega
    have hx3 := s23 _ _ hx1
    have f4 := same_new (o := .lst ys) nt4
    have hx4 := f4 _ _ hx3
    refine ⟨_, rfl, x1, CD, d1, _, rfl, hx4, TD.cl, TD.lines, (by rw [desk_len]; decide), ?_⟩
    rw [put_lines]
    have n4x : t4 ≠ x1 := fun e => by rw [e] at nt4; rw [nt4] at hx3; cases hx3
    have w24 : Same (wo H2 x1) (wo (upd H3 t4 (.lst ys)) x1) := wo_mono (s23.trans f4)
    have hnl : rLines (wo (upd H3 t4 (.lst ys)) x1) (.ref t4) (Kv402.put ⟨min u v, max u v, lw⟩ (others a.g.lines u v)) := by
      refine off_lines _ _ _ _ _ _ _ hx4 ⟨t4, ys, rfl, upd_same, ?_⟩
      rw [← hys]
      exact Paired.mono (fun _ _ z => stays_line _ _ _ _ f4 z) (paired_lines fun z hz => by
        obtain ⟨k, _, rk⟩ := hitem z (perm.mem_iff.1 hz)
        exact ⟨k, rk⟩)
    have V4 := V2.on w24
    have h44 : (upd H3 t4 (.lst ys)) t4 = some (.lst ys) := upd_same
    generalize upd H3 t4 (.lst ys) = H4 at hx4 w24 hnl V4 h44
    have hd : DeskIn CD CM (upd H4 x1 (.ins CD d1 (deskF a.g.n (.ref t4) a.t o a.s a.sent a.lost a.far m))) x1 { a with g := { a.g with lines := Kv402.put ⟨min u v, max u v, lw⟩ (others a.g.lines u v) } } :=
      ⟨d1, .ref t4, o, m, upd_same, by rw [wo_upd]; exact ⟨hnl, V4.o, V4.m⟩⟩
    refine ⟨_, rfl, x1, CD, d1, _, _, rfl, upd_same, TD.cl, TD.lines, get_lines, t4, ys, rfl, .inl (SqL.of ((upd_ne n4x).trans h44)), _, rfl, (by show 2 ≤ sizeLine; decide), fun t nt => ?_⟩
    refine q _ _ (((s01.trans e2).trans (w24.trans upd_over)).trans (same_new nt)) ?_
    unfold cLine; rw [if_neg hno, if_neg hbad, if_neg hfo]
    refine out_yes (upd_same.trans ?_) (stays_desk _ _ _ _ (same_new nt) hd.desk)
    rw [perm.length_eq, List.length_append, olen]; rfl
end
end Nk
set_option Elab.async false
set_option maxRecDepth 100000
set_option maxHeartbeats 4000000
/-! A dict of the text's top: its items read by a number. -/
namespace Nk
open PySem PySem.Spec PyProof.Rows L2
/-- at a the top has written a dict with these pairs -/
structure KD (P : Program) (w : World) (K : PySem.W.Frag) (a : Addr) (kvs : List (Key × V)) : Prop where
  sys : (a == sysModules) = false
  ex : ∃ vs, KV kvs vs ∧ ∀ h : Heap, K.In h → h.DictOf (mixKind P w) a vs
def tKGet (a : Addr) (kvs : List (Key × V)) (td ty : TE) : TE := fun σ H Q => td σ H fun x H1 => ty σ H1 fun y H2 => ∃ k v, x = V.ref a ∧ y = kV k ∧ valV kvs k = some v ∧ Q v H2
def tKIn (a : Addr) (kvs : List (Key × V)) (ty td : TE) : TE := fun σ H Q => ty σ H fun y H1 => td σ H1 fun x H2 => ∃ k, x = V.ref a ∧ y = kV k ∧ Q (.bl (valV kvs k).isSome) H2
section
variable {X : Cx} {a : Addr} {kvs : List (Key × V)} {o i : Expr} {pos : Pos} {td ty : TE}
theorem pe_kget (D : KD X.prog X.w X.K a kvs) (ho : PE X o td) (hi : PE X i ty) (hs : NoSl i) : PE X (.Subscript o i pos) (tKGet a kvs td ty) := by
  obtain ⟨vs, rel, dd⟩ := D.ex
  refine ⟨fun pins s σ H Q I h => ?_⟩
  refine subD_of PySem.F.slot_dict_getitem.lookup hs (thn (ho.run pins s σ H _ I h) fun u s1 ⟨x, H1, I1, rx, q1⟩ => thn (hi.run pins s1 σ H1 _ I1 q1) fun iv s2 ⟨y, H2, I2, ry, k, v, ex, ey, l, q2⟩ => ?_)
  subst ex ey
  obtain rfl : u = Value.ref a := rx
  have d2 := dd _ I2.kIn
  obtain ⟨w', hw, rw'⟩ := RelO.some_of (v := v) (o := valueAt vs k) (by rw [← l]; exact rel.val k)
  exact ⟨d2.typeIs, wpAny_getItem_of (kV_is ry) d2.mapOf hw ⟨v, H2, I2.tok _, rw', q2⟩⟩
theorem pc_kin (D : KD X.prog X.w X.K a kvs) (hi : PE X i ty) (ho : PE X o td) : PC X .In i o (tKIn a kvs ty td) := by
  obtain ⟨vs, rel, dd⟩ := D.ex
  refine ⟨fun pins s σ H Q I h => ?_⟩
  refine thn (hi.run pins s σ H _ I h) fun iv s1 ⟨y, H1, I1, ry, q1⟩ => thn (ho.run pins s1 σ H1 _ I1 q1) fun u s2 ⟨x, H2, I2, rx, k, ex, ey, q2⟩ => ?_
  subst ex ey
  obtain rfl : u = Value.ref a := rx
  have d2 := dd _ I2.kIn
  refine wpAny_in_of (kV_is ry) D.sys d2.mapOf ?_
  refine ⟨.bl (valV kvs k).isSome, H2, I2.tok _, ?_, q2⟩
  rw [(rel.val k).isSome_eq]; rfl
end
/-- a dict from numbers to defs -/
def defsKV (l : List (Nat × Addr)) : List (Key × V) := l.map fun q => (Sum.inl ((q.1 : Nat) : Int), V.ref q.2)
/-- the entries of such a dict -/
inductive Entries : List DictEntry → List (Nat × Addr) → Prop
  | nil : Entries [] []
  | cons {n : Nat} {f : Addr} {t : Tok} {h : Int} {es : List DictEntry} {l : List (Nat × Addr)} : h = hashInt ((n : Nat) : Int) → Entries es l → Entries (⟨h, .int ((n : Nat) : Int) t, .ref f⟩ :: es) ((n, f) :: l)
end Nk
namespace Nk
open PySem PySem.Spec PyProof.Rows L2
open Kv406 (Now)
section
variable {P : Program} {w : World} {K : PySem.W.Frag} {mg : Str → Option Value} {base : Heap}
/-- at f a def stands that keeps the promise sp -/
structure HeldLe (P : Program) (w : World) (K : PySem.W.Frag) (mg : Str → Option Value) (base : Heap) (m : Nat) (f : Addr) (sp : Sp) : Prop where
  ex : ∃ (k : Nat) (fd : FuncData) (ps : List Str), k ≤ m ∧ FnOk P w K mg base CX0 k f fd ps sp ∧ PySem.W.keepIn K (.ref f) = true ∧ Binds K fd ps []
theorem held_of {k m : Nat} {x : Str} {sp : Sp} {f : Addr} (c : Kept P w K mg base k x sp) (h : mg x = some (.ref f)) (hk : k ≤ m) : HeldLe P w K mg base m f sp := by
  obtain ⟨f', fd, ps, F, hm, kp, b⟩ := c.ex
  rw [h] at hm; cases hm
  exact ⟨k, fd, ps, hk, F, kp, b⟩
end
section
variable {X : Cx} {m j i : Nat} {x : Str} {f : Addr} {sp : Sp} {p pos : Pos} {e : Expr} {es : List Expr} {t : TA}
/-- a call of the def that the i-th slot holds -/
theorem pgl (c : HeldLe X.prog X.w X.K X.mg X.base m f sp) (hr : Room j X.A) (ha : PA X (e :: es) t) (hN : X.N[i]? = some x := by rfl) (hv : Vis X.env.scope x := by exact Or.inl rfl) (hk : m ≤ j := by decide)
    (hdb : (x == ("__debug__" : Str)) = false := by decide) (hcd : (x == ("__classdict__" : Str)) = false := by decide)
    (he : starEach (e :: es) X.env = (false, eval e X.env) :: starEach es X.env := by rfl) (hpl : (backTo pos (starEach es X.env)).any (·.1) = false := by rfl) : PE X (.Call (.Name x p) (e :: es) [] pos) (tCallL i f sp [] E0 t) := by
  obtain ⟨k, fd, ps, hkm, F, kp, b⟩ := c.ex
  exact pe_callL F (hr.mono (Nat.le_trans hkm hk)) hN hv kp b .nil pass0 ha hdb hcd he hpl
end
def chgF : Nat → Now → List Nat → Option (Int × Option Now)
  | 1 => fLine
  | 2 => fCut
  | 3 => fTimes
  | 4 => fOrder
  | 5 => fChoose
  | 6 => fGreedy
  | 7 => fMake
  | 8 => fSend
  | 9 => fAll
  | _ => fun _ _ => none
section
variable {P : Program} {w : World} {K : PySem.W.Frag} {mg : Str → Option Value} {base : Heap}
/-- the dict of changes -/
structure Changes (P : Program) (w : World) (K : PySem.W.Frag) (mg : Str → Option Value) (base : Heap) (CD CM : Addr) (a : Addr) (kvs : List (Key × V)) : Prop where
  d : KD P w K a kvs
  g : mg "CHANGES" = some (.ref a)
  yes : ∀ p : Nat, 1 ≤ p → p ≤ 9 → ∃ f, valV kvs (Sum.inl ((p : Nat) : Int)) = some (.ref f) ∧ HeldLe P w K mg base 9 f (spChg CD CM (chgF p))
  no : ∀ p : Nat, p = 0 ∨ 9 < p → valV kvs (Sum.inl ((p : Nat) : Int)) = none
def sp_is_change : Sp := fun vs H Q _ => ∃ p : Nat, vs = [nV p] ∧ Q (.bl (decide (1 ≤ p ∧ p ≤ 9))) H
theorem k_is_change {CD CM a : Addr} {kvs : List (Key × V)} (T : Changes P w K mg base CD CM a kvs) (D : Here K mg "is_change" s_is_change ["call"]) : Kept P w K mg base 1 "is_change" sp_is_change := by
  refine kept_of D sc_is_change (fun vs H Q E h => ?_) (fun f cdv A outer s H vs Q E hr h => ?_)
  · obtain ⟨p, rfl, _⟩ := h; rfl
  · obtain ⟨p, rfl, q⟩ := h
    refine ⟨_, pss_one (ps_ret (pe_cmp (pc_kin T.d (pv 0) (pe_glob (v := .ref a) rfl T.g rfl)))), ?_⟩
    refine ⟨_, rfl, Sum.inl ((p : Nat) : Int), rfl, rfl, ?_⟩
    have e : (valV kvs (Sum.inl ((p : Nat) : Int))).isSome = decide (1 ≤ p ∧ p ≤ 9) := by
      by_cases h : 1 ≤ p ∧ p ≤ 9
      · obtain ⟨f, hf, _⟩ := T.yes p h.1 h.2
        rw [hf, decide_eq_true h]; rfl
      · rw [T.no p (by omega), decide_eq_false h]; rfl
    rw [e]; exact q
def sp_change (CD CM : Addr) : Sp := fun vs H Q _ => ∃ a p nums x y r, vs = [x, nV p, y] ∧ rDesk CD CM H x a ∧ NowOk a ∧ rInts H y nums ∧ 1 ≤ p ∧ p ≤ 9 ∧ chgF p a nums = some r ∧ ∀ H' z, Same H H' → rOut CD CM H' z r → Q z H'
theorem k_change {CD CM a : Addr} {kvs : List (Key × V)} (T : Changes P w K mg base CD CM a kvs) (D : Here K mg "change" s_change ["desk", "call", "numbers"]) : Kept P w K mg base 10 "change" (sp_change CD CM) := by
  refine kept_of D sc_change (fun vs H Q E h => ?_) (fun f cdv A outer s H vs Q E hr h => ?_)
  · obtain ⟨a, p, nums, x, y, r, rfl, _⟩ := h; rfl
  · obtain ⟨b, p, nums, x, y, r, rfl, hx, ok, hy, h1, h9, hF, q⟩ := h
    obtain ⟨f1, hf, C1⟩ := T.yes p h1 h9
    refine ⟨_, pss_cons (ps_set (i := 3) sc_change.nd rfl (.inl rfl) (pe_kget T.d (pe_glob (v := .ref a) rfl T.g rfl) (pv 1) (fun _ _ => rfl)))
      (pss_one (ps_ret (pgl (i := 3) C1 hr (pa_cons (pv 0) (pa_cons (pv 2) pa_nil))))), ?_⟩
    refine ⟨_, rfl, Sum.inl ((p : Nat) : Int), _, rfl, rfl, hf, ?_⟩
    exact ⟨rfl, _, rfl, _, rfl, b, nums, x, y, r, rfl, hx, ok, hy, hF, q⟩
end
/-- what comes of an answer and a state, or of a refusal -/
def outcome (a : Now) (past : List Now) (r : Int × Option Now) : Kv406.Abs × Kv406.Ans := match r.2 with
  | none => (⟨a, past⟩, Kv406.say r.1)
  | some w => (⟨w, (a :: past).take 10⟩, ⟨r.1, []⟩)
/-- what a change does, in the specification's words -/
theorem chg_does {a : Now} {past : List Now} {p : Nat} {nums : List Nat} {c : Kv406.Call} (hc : Req p nums c) (hp : 1 ≤ p) (hp9 : p ≤ 9) :
    ∃ r, chgF p a nums = some r ∧ (Kv406.Abs.mk a past).does c = outcome a past r := by
  cases hc with
  | begin_ => omega
  | line x y w _ _ _ =>
    refine ⟨cLine a x y w, rfl, ?_⟩
    unfold cLine
    show (if a.no x y then ((⟨a, past⟩ : Kv406.Abs), Kv406.say (-2)) else if x = y ∨ w = 0 ∨ 99 < w then (⟨a, past⟩, Kv406.say (-22)) else
      if 14 ≤ (others a.g.lines x y).length then (⟨a, past⟩, Kv406.say (-28)) else _) = _
    split
    · rfl
    · split
      · rfl
      · split <;> rfl
  | cut i _ =>
    refine ⟨cCut a i, rfl, ?_⟩
    unfold cCut
    show (if a.g.lines.length ≤ i then ((⟨a, past⟩ : Kv406.Abs), Kv406.say (-2)) else _) = _
    split <;> rfl
  | times t _ =>
    refine ⟨cTimes a t, rfl, ?_⟩
    unfold cTimes
    show (if Kv402.okT t = false then ((⟨a, past⟩ : Kv406.Abs), Kv406.say (-22)) else _) = _
    split <;> rfl
  | order l _ _ =>
    refine ⟨cOrder a nums, rfl, ?_⟩
    unfold cOrder
    show (if Kv403.okOrder a.g.n nums = false then ((⟨a, past⟩ : Kv406.Abs), Kv406.say (-22)) else _) = _
    split <;> rfl
  | choose s _ =>
    refine ⟨cChoose a s, rfl, ?_⟩
    unfold cChoose
    show (if 2 ^ a.g.n ≤ s then ((⟨a, past⟩ : Kv406.Abs), Kv406.say (-22)) else _) = _
    split <;> rfl
  | greedy k _ =>
    refine ⟨cGreedy a k, rfl, ?_⟩
    unfold cGreedy
    show (if k = 0 ∨ 8 < k then ((⟨a, past⟩ : Kv406.Abs), Kv406.say (-22)) else _) = _
    split <;> rfl
  | make => exact ⟨cMake a, rfl, rfl⟩
  | send u v _ _ =>
    refine ⟨cSend a u v, rfl, ?_⟩
    unfold cSend
    show (if a.no u v then ((⟨a, past⟩ : Kv406.Abs), Kv406.say (-2)) else if u = v then (⟨a, past⟩, Kv406.say (-22)) else _) = _
    split
    · rfl
    · split <;> rfl
  | all => exact ⟨cAll a, rfl, rfl⟩
  | _ => omega
theorem chg_ok {a : Now} (ok : NowOk a) {p : Nat} {nums : List Nat} {r : Int × Option Now} {b : Now} (h : chgF p a nums = some r) (hb : r.2 = some b) : NowOk b := by
  unfold chgF at h
  split at h
  · obtain ⟨x, y, w, rfl, rfl⟩ := fLine_inv h
    unfold cLine at hb
    split at hb
    · cases hb
    · rename_i hno
      split at hb
      · cases hb
      · rename_i hbad
        split at hb
        · cases hb
        · rename_i hfew
          have hxy : x < a.g.n ∧ y < a.g.n := by
            rw [no_eq] at hno; simpa using hno
          have e := Option.some.inj hb
          subst e
          exact ⟨ok.n1, ok.n8, ok.g.put hxy.1 hxy.2 (by omega) (by omega) (by omega) (by omega), ok.then_n, ok.th, ok.base_n, ok.base, ok.t1, ok.t9, ok.o, ok.s⟩
  · obtain ⟨i, rfl, rfl⟩ := one_of (f := cCut a) (F := fCut a) (fun l => by unfold fCut; split <;> rfl) h
    unfold cCut at hb
    split at hb
    · cases hb
    · have e := Option.some.inj hb
      subst e
      exact ⟨ok.n1, ok.n8, ok.g.sub (List.eraseIdx_sublist _ _), ok.then_n, ok.th, ok.base_n, ok.base, ok.t1, ok.t9, ok.o, ok.s⟩
  · obtain ⟨t, rfl, rfl⟩ := one_of (f := cTimes a) (F := fTimes a) (fun l => by unfold fTimes; split <;> rfl) h
    unfold cTimes at hb
    split at hb
    · cases hb
    · rename_i ht
      have ht' : ¬ (t < 1 ∨ 9 < t) := fun z => ht (okT_iff.2 z)
      have e := Option.some.inj hb
      subst e
      exact NowOk.made ⟨ok.n1, ok.n8, ok.g, ok.then_n, ok.th, ok.base_n, ok.base, by show 1 ≤ t; omega, by show t ≤ 9; omega, ok.o, ok.s⟩
  · cases (Option.some.inj h)
    unfold cOrder at hb
    split at hb
    · cases hb
    · rename_i ho
      have e := Option.some.inj hb
      subst e
      exact NowOk.made ⟨ok.n1, ok.n8, ok.g, ok.then_n, ok.th, ok.base_n, ok.base, ok.t1, ok.t9, okOrder_iff.1 (by simpa using ho), ok.s⟩
  · obtain ⟨t, rfl, rfl⟩ := one_of (f := cChoose a) (F := fChoose a) (fun l => by unfold fChoose; split <;> rfl) h
    unfold cChoose at hb
    split at hb
    · cases hb
    · rename_i hs
      have e := Option.some.inj hb
      subst e
      exact NowOk.made ⟨ok.n1, ok.n8, ok.g, ok.then_n, ok.th, ok.base_n, ok.base, ok.t1, ok.t9, ok.o, by show t < 2 ^ a.g.n; omega⟩
  · obtain ⟨k, rfl, rfl⟩ := one_of (f := cGreedy a) (F := fGreedy a) (fun l => by unfold fGreedy; split <;> rfl) h
    unfold cGreedy at hb
    split at hb
    · cases hb
    · rename_i hk
      have e := Option.some.inj hb
      subst e
      have okm := ok.made
      exact ⟨okm.n1, okm.n8, okm.g, okm.then_n, okm.th, okm.base_n, okm.base, okm.t1, okm.t9, okm.o, greedy_lt okm.base.fine (by omega)⟩
  · cases (Option.some.inj h)
    have e := Option.some.inj hb
    subst e
    exact ok.made
  · obtain ⟨u, v, rfl, rfl⟩ := fSend_inv h
    unfold cSend at hb
    split at hb
    · cases hb
    · split at hb
      · cases hb
      · have e := Option.some.inj hb
        subst e
        exact ok.sent u v
  · cases (Option.some.inj h)
    rw [cAll_un] at hb
    have e := Option.some.inj hb
    subst e
    exact (sendRow_ok _ a ok).1
  · cases h
end Nk
set_option Elab.async false
set_option maxRecDepth 100000
set_option maxHeartbeats 4000000
namespace Nk
open PySem PySem.Spec PyProof.Rows L2
open Kv406 (Now)
def officeF (d p : V) : List (Str × V) := [("desk", d), ("past", p)]
theorem put_desk {d p : V} (z : V) : putF "desk" z (officeF d p) = officeF z p := rfl
theorem put_past {d p : V} (z : V) : putF "past" z (officeF d p) = officeF d z := rfl
theorem get_desk {d p : V} : (officeF d p).lookup ("desk" : Str) = some d := rfl
theorem get_past {d p : V} : (officeF d p).lookup ("past" : Str) = some p := rfl
theorem office_len {d p : V} : (officeF d p).length = 2 := rfl
theorem no_answer {d p : V} : (officeF d p).lookup ("answer" : Str) = none := rfl
theorem no_begin {d p : V} : (officeF d p).lookup ("begin" : Str) = none := rfl
theorem no_take_on {d p : V} : (officeF d p).lookup ("take_on" : Str) = none := rfl
theorem no_tell_state {d p : V} : (officeF d p).lookup ("tell_state" : Str) = none := rfl
theorem no_take_back {d p : V} : (officeF d p).lookup ("take_back" : Str) = none := rfl
structure OfficeC (K : PySem.W.Frag) (C : Addr) : Prop where
  cl : Cls K C
  desk : NoAttr K C "desk"
  past : NoAttr K C "past"
/-- what holds of a state -/
structure AbsOk (a : Kv406.Abs) : Prop where
  now : NowOk a.now
  past : ∀ x ∈ a.past, NowOk x
  few : a.past.length ≤ 10
/-- an office's fields tell a state -/
def OffV (CD CM : Addr) (H : Hp) (d p : V) : Kv406.State → Prop
  | none => d = .non
  | some a => rDesk CD CM H d a.now ∧ LOf (rDesk CD CM) H p a.past.reverse ∧ AbsOk a
theorem OffV.on {CD CM : Addr} {H H' : Hp} {d p : V} {st : Kv406.State} (h : OffV CD CM H d p st) (s : Same H H') : OffV CD CM H' d p st := by
  cases st with
  | none => exact h
  | some a => exact ⟨stays_desk _ _ _ _ s h.1, stays_L stays_desk _ _ _ _ s h.2.1, h.2.2⟩
def OffIn (CO CD CM : Addr) (H : Hp) (po : Addr) (st : Kv406.State) : Prop := ∃ dx d p, H po = some (.ins CO dx (officeF d p)) ∧ OffV CD CM (wo H po) d p st
/-- a list of whole numbers, also below 0 -/
def rZs : Rep (List Int) := fun H v zs => ∃ a, v = .ref a ∧ H a = some (.lst (zs.map V.int))
theorem stays_zs : Stays rZs := fun _ _ _ _ s ⟨a, e, h⟩ => ⟨a, e, s _ _ h⟩
/-- the office is not among what is told besides it -/
theorem off_desk {CD CM CO : Addr} {H : Hp} {v : V} {a : Now} {po d : Addr} {fs : List (Str × V)} (hp : H po = some (.ins CO d fs)) (hv : v ≠ .ref po) (hm : ∀ p dx l o m, v = .ref p → H p = some (.ins CD dx (deskOf a l o m)) → m ≠ .ref po) (h : rDesk CD CM H v a) : rDesk CD CM (wo H po) v a := by
  obtain ⟨p, dx, l, o, m, rfl, hh, V0⟩ := h
  have hne : p ≠ po := fun z => hv (by rw [z])
  exact ⟨p, dx, l, o, m, rfl, by rw [wo_ne hne]; exact hh, off_lines _ _ _ _ _ _ _ hp V0.l, off_ints _ _ _ _ _ _ _ hp V0.o, off_made hp (hm p dx l o m rfl hh) V0.m⟩
/-- an instance of another class -/
theorem off_desk_cls {CD CM CO : Addr} {H : Hp} {v : V} {a : Now} {po d : Addr} {fs : List (Str × V)} (hp : H po = some (.ins CO d fs)) (h1 : CO ≠ CD) (h2 : CO ≠ CM) (h : rDesk CD CM H v a) : rDesk CD CM (wo H po) v a := by
  obtain ⟨p, dx, l, o, m, rfl, hh, V0⟩ := id h
  refine off_desk hp ?_ ?_ h
  · intro z; cases z
    rw [hp] at hh; cases hh; exact h1 rfl
  · intro p' dx' l' o' m' e hh' z
    cases e
    have e2 : HO.ins CD dx (deskOf a l o m) = HO.ins CD dx' (deskOf a l' o' m') := Option.some.inj (hh.symm.trans hh')
    have e3 : deskOf a l o m = deskOf a l' o' m' := by injection e2
    have e4 : m = m' := by
      have e5 : (deskOf a l o m).lookup ("made" : Str) = (deskOf a l' o' m').lookup ("made" : Str) := by rw [e3]
      exact Option.some.inj e5
    obtain ⟨q, dq, b1, b2, b3, b3n, b4, b5, b6, eq, hq, _⟩ := V0.m
    rw [e4, z] at eq; cases eq
    rw [hp] at hq; cases hq; exact h2 rfl
section
variable {P : Program} {w : World} {K : PySem.W.Frag} {mg : Str → Option Value} {base : Heap}
theorem begin_act (st : Kv406.State) (n : Nat) : Kv406.act st (.begin_ n) = if n = 0 ∨ 8 < n then (st, Kv406.say (-22)) else (some (Kv406.begun n), Kv406.say 0) := by
  cases st with
  | none =>
    show (if (((Kv406.begun 1).does (.begin_ n)).2.ret < 0) then ((none : Kv406.State), ((Kv406.begun 1).does (.begin_ n)).2) else (some ((Kv406.begun 1).does (.begin_ n)).1, ((Kv406.begun 1).does (.begin_ n)).2)) = _
    have e : (Kv406.begun 1).does (.begin_ n) = if n = 0 ∨ 8 < n then (Kv406.begun 1, Kv406.say (-22)) else (Kv406.begun n, Kv406.say 0) := rfl
    rw [e]
    by_cases h : n = 0 ∨ 8 < n
    · simp only [if_pos h]; rfl
    · simp only [if_neg h]; rfl
  | some a =>
    show (some (a.does (.begin_ n)).1, (a.does (.begin_ n)).2) = _
    have e : a.does (.begin_ n) = if n = 0 ∨ 8 < n then (a, Kv406.say (-22)) else (Kv406.begun n, Kv406.say 0) := rfl
    rw [e]
    by_cases h : n = 0 ∨ 8 < n
    · simp only [if_pos h]
    · simp only [if_neg h]
def sp_begin (CO CD CM : Addr) : Sp := fun vs H Q _ => ∃ n po st, vs = [.ref po, nV n] ∧ OffIn CO CD CM H po st ∧
  ∀ H' z, Same (wo H po) (wo H' po) → OffIn CO CD CM H' po (Kv406.act st (.begin_ n)).1 → rZs H' z (Kv406Neutral.row (Kv406.act st (.begin_ n)).2) → Q z H'
theorem k_begin {CO CD CM : Addr} (h1 : CO ≠ CD) (h2 : CO ≠ CM) (Cn : Consts mg) (TO : OfficeC K CO) (kn : Kept P w K mg base 8 "new_desk" (sp_new_desk CD CM)) (D : HereM K CO "begin" "Office.begin" s_Office_begin ["self", "places"]) : KeptM P w K mg base 9 CO "begin" (sp_begin CO CD CM) := by
  obtain ⟨tk, cO⟩ := Cn.outOf
  obtain ⟨tk2, cP⟩ := Cn.mostPlaces
  refine keptM_of D sc_Office_begin (fun vs H Q E h => ?_) (fun f cdv A outer s H vs Q E hr h => ?_)
  · obtain ⟨n, po, st, rfl, _⟩ := h; rfl
  · obtain ⟨n, po, st, rfl, ⟨dx, d, p, hp, V0⟩, q⟩ := h
    refine ⟨_, pss_cons (ps_if (PW.pt (pw_or (pt_cmpR op_lt (pv 1) pe_int (nomark _)) (pw_or1 (pt_cmpR op_gt (pv 1) (pe_glob (v := .int 8) rfl cP ⟨_, rfl⟩) (nomark _))))) (pss_one (ps_ret (pe_lst (pa_cons (pe_glob (v := .int (-22)) rfl cO ⟨_, rfl⟩) pa_nil)))) pss_nil)
      (pss_cons (ps_fld (pv 0) (pgo kn hr (pa_cons (pv 1) pa_nil)) rfl)
      (pss_cons (ps_fld (pv 0) (pe_lst pa_nil) rfl)
      (pss_one (ps_ret (pe_lst (pa_cons pe_int pa_nil)))))), ?_⟩
    rw [begin_act] at q
    have refuse : (n = 0 ∨ 8 < n) → 1 ≤ sizeLine ∧ ∀ t, H t = none → Q (.ref t) (upd H t (.lst [.int (-22)])) := fun z => ⟨by decide, fun t nt => by
      rw [if_pos z] at q
      have npt : po ≠ t := ne_of_none hp nt
      refine q _ _ (wo_mono (same_new nt)) ⟨dx, d, p, (upd_ne npt).trans hp, V0.on (wo_mono (same_new nt))⟩ ⟨t, rfl, upd_same⟩⟩
    refine ⟨_, rfl, _, _, rfl, rfl, _, rfl, if2 (fun h => ?_) (fun h => ?_)⟩
    · have : n < 1 := Int.ofNat_lt.1 (of_decide_eq_true h)
      exact iteT (refuse (.inl (by omega)))
    have hn1 : ¬ n < 1 := fun z => of_decide_eq_false h (Int.ofNat_lt.2 z)
    refine ⟨_, rfl, _, _, rfl, rfl, _, rfl, if2 (fun h => ?_) (fun h => ?_)⟩
    · have : 8 < n := Int.ofNat_lt.1 (of_decide_eq_true h)
      exact refuse (.inr this)
    have hn8 : ¬ 8 < n := fun z => of_decide_eq_false h (Int.ofNat_lt.2 z)
    rw [if_neg (by omega)] at q
    refine ⟨_, rfl, n, rfl, by omega, by omega, fun H1 v1 e1 d1 => ?_⟩
    have hp1 := e1 _ _ hp
    refine ⟨_, rfl, po, CO, dx, _, rfl, hp1, TO.cl, TO.desk, (by rw [office_len]; decide), ?_⟩
    rw [put_desk]
    refine ⟨Nat.zero_le _, fun t nt => ?_⟩
    have npt : po ≠ t := fun e => by rw [e, upd_same] at nt; cases nt
    have nt1 : H1 t = none := by rw [upd_ne npt.symm] at nt; exact nt
    refine ⟨_, rfl, po, CO, dx, _, rfl, (upd_ne npt).trans upd_same, TO.cl, TO.past, (by rw [office_len]; decide), ?_⟩
    rw [put_past]
    refine ⟨by show 1 ≤ sizeLine; decide, fun u nu => ?_⟩
    have npu : po ≠ u := fun e => by rw [e, upd_same] at nu; cases nu
    have ew : wo (upd (upd (upd (upd H1 po (.ins CO dx (officeF v1 p))) t (.lst [])) po (.ins CO dx (officeF v1 (.ref t)))) u (.lst [.int 0])) po = upd (upd (wo H1 po) t (.lst [])) u (.lst [.int 0]) := by
      rw [wo_upd_ne npu.symm, wo_upd, wo_upd_ne npt.symm, wo_upd]
    have ntu : t ≠ u := fun e => by rw [e, upd_ne npu.symm, upd_same] at nu; cases nu
    have nu1 : H1 u = none := by rw [upd_ne npu.symm, upd_ne ntu.symm, upd_ne npu.symm] at nu; exact nu
    have s1 : Same (wo H1 po) (upd (wo H1 po) t (.lst [])) := same_new (wo_none nt1)
    have s2 : Same (upd (wo H1 po) t (.lst [])) (upd (upd (wo H1 po) t (.lst [])) u (.lst [.int 0])) := same_new (by rw [upd_ne ntu.symm]; exact wo_none nu1)
    refine q _ _ (by rw [ew]; exact (wo_mono e1).trans (s1.trans s2)) ⟨dx, v1, .ref t, (upd_ne npu).trans upd_same, ?_⟩ ⟨u, rfl, upd_same⟩
    rw [ew]
    refine ⟨stays_desk _ _ _ _ (s1.trans s2) (off_desk_cls hp1 h1 h2 d1), ⟨t, [], rfl, s2 _ _ upd_same, .nil⟩, ⟨begun_ok (by omega) (by omega), ?_, ?_⟩⟩
    · intro x hx; cases hx
    · exact Nat.zero_le _
end
end Nk
set_option Elab.async false
set_option maxRecDepth 100000
set_option maxHeartbeats 4000000
namespace Nk
open PySem PySem.Spec PyProof.Rows L2
open Kv406 (Now)
theorem cut_last (xs : List V) (k : Nat) (hk : 1 ≤ k) : cutV xs (some (-((k : Nat) : Int))) none = xs.drop (xs.length - k) := by
  unfold cutV
  have e1 : HT.sIx xs.length xs.length none = xs.length := rfl
  have e2 : HT.sIx xs.length 0 (some (-((k : Nat) : Int))) = xs.length - k := by
    show (if -((k : Nat) : Int) < 0 then (-((k : Nat) : Int) + (xs.length : Int)).toNat else _) = _
    rw [if_pos (by omega)]; omega
  rw [e1, e2, List.take_of_length_le (by rw [List.length_drop]; omega)]
theorem cut_butlast (xs : List V) : cutV xs none (some (-1)) = xs.take (xs.length - 1) := by
  unfold cutV
  have e2 : HT.sIx xs.length xs.length (some (-1)) = xs.length - 1 := by
    show (if (-1 : Int) < 0 then (-1 + (xs.length : Int)).toNat else min (-1 : Int).toNat xs.length) = _
    rw [if_pos (by decide)]; omega
  have e1 : HT.sIx xs.length 0 none = 0 := rfl
  rw [e1, e2, List.drop_zero, Nat.sub_zero]
theorem past_rev (now : Now) (past : List Now) : ((now :: past).take 10).reverse = (past.reverse ++ [now]).drop ((past.reverse ++ [now]).length - 10) := by
  rw [List.reverse_take, List.reverse_cons, List.length_append, List.length_reverse]; rfl
section
variable {P : Program} {w : World} {K : PySem.W.Frag} {mg : Str → Option Value} {base : Heap}
def sp_take_on (CO CD CM : Addr) : Sp := fun vs H Q _ => ∃ po x a r, vs = [.ref po, x] ∧ OffIn CO CD CM H po (some a) ∧ rOut CD CM H x r ∧ (∀ b, r.2 = some b → NowOk b) ∧
  ∀ H' z, Same (wo H po) (wo H' po) → OffIn CO CD CM H' po (some (outcome a.now a.past r).1) → rZs H' z [r.1] → Q z H'
theorem k_take_on {CO CD CM : Addr} (h1 : CO ≠ CD) (h2 : CO ≠ CM) (Cn : Consts mg) (TO : OfficeC K CO) (D : HereM K CO "take_on" "Office.take_on" s_Office_take_on ["self", "outcome"]) : KeptM P w K mg base 1 CO "take_on" (sp_take_on CO CD CM) := by
  obtain ⟨tk2, cB⟩ := Cn.mostBack
  refine keptM_of D sc_Office_take_on (fun vs H Q E h => ?_) (fun f cdv A outer s H vs Q E hr h => ?_)
  · obtain ⟨po, x, a, r, rfl, _⟩ := h; rfl
  · obtain ⟨po, x, a, r, rfl, ⟨dx, d, p, hp, hd, hP, ok⟩, ⟨t, xv, rfl, ht, hx⟩, hok, q⟩ := h
    refine ⟨_, pss_cons (ps_if (pt_cmpR op_notN (pe_ix ix_tup (pv 1) pe_int (fun _ _ => rfl)) pe_non (nomark _))
        (pss_cons (ps_fld (pv 0) (pe_slice sl_list (pe_op op_cat (pe_fld (pv 0) rfl) (pe_lst (pa_cons (pe_fld (pv 0) rfl) pa_nil))) (po_some (pe_un un_neg (pe_glob (v := .int 10) rfl cB ⟨_, rfl⟩))) po_none) rfl)
        (pss_one (ps_fld (pv 0) (pe_ix ix_tup (pv 1) pe_int (fun _ _ => rfl)) rfl))) pss_nil)
      (pss_one (ps_ret (pe_lst (pa_cons (pe_ix ix_tup (pv 1) pe_int (fun _ _ => rfl)) pa_nil)))), ?_⟩
    have ntp : t ≠ po := ne_of ht hp (by intro z; cases z)
    refine ⟨_, rfl, t, _, _, _, rfl, rfl, SqT.of ht, rfl, rfl, _, rfl, ?_⟩
    cases hr2 : r.2 with
    | none =>
      rw [hr2] at hx
      cases (show xv = .non from hx)
      have eo : (outcome a.now a.past r).1 = a := by unfold outcome; rw [hr2]
      rw [eo] at q
      refine iteF ⟨_, rfl, t, _, _, _, rfl, rfl, SqT.of ht, rfl, (by show 1 ≤ sizeLine; decide), fun u nu => ?_⟩
      have npu : po ≠ u := ne_of_none hp nu
      exact q _ _ (wo_mono (same_new nu)) ⟨dx, d, p, (upd_ne npu).trans hp, stays_desk _ _ _ _ (wo_mono (same_new nu)) hd, stays_L stays_desk _ _ _ _ (wo_mono (same_new nu)) hP, ok⟩ ⟨u, rfl, upd_same⟩
    | some b =>
      rw [hr2] at hx
      have hx : rDesk CD CM H xv b := hx
      have okb := hok b hr2
      have eo : (outcome a.now a.past r).1 = ⟨b, (a.now :: a.past).take 10⟩ := by unfold outcome; rw [hr2]
      rw [eo] at q
      obtain ⟨xa, xd, xl, xo, xm, rfl, hxa, _⟩ := id hx
      obtain ⟨pa, ps, rfl, hpa, pp⟩ := hP
      have plen := Paired.len pp
      rw [List.length_reverse] at plen
      have hfew := ok.few
      have w0 := wo_same H po
      refine iteT ⟨_, rfl, po, CO, dx, _, _, rfl, hp, TO.cl, TO.past, get_past, _, rfl, po, CO, dx, _, _, rfl, hp, TO.cl, TO.desk, get_desk, (by show 1 ≤ sizeLine; decide), fun t1 nt1 => ?_⟩
      have e1 := same_new (o := .lst [d]) nt1
      refine ⟨pa, t1, ps, [d], rfl, rfl, e1 _ _ (w0 _ _ hpa), upd_same, ?_, fun t2 nt2 => ?_⟩
      · show ps.length + 1 ≤ sizeLine
        exact Nat.le_of_lt (size100 (by omega))
      have e2 := same_new (o := .lst (ps ++ [d])) nt2
      refine ⟨_, rfl, _, rfl, t2, ps ++ [d], rfl, SqL.of upd_same, fun t3 nt3 => ?_⟩
      rw [show cutV (ps ++ [d]) (some (-10)) none = (ps ++ [d]).drop ((ps ++ [d]).length - 10) from cut_last _ 10 (by decide)] at *
      have e3 := same_new (o := .lst ((ps ++ [d]).drop ((ps ++ [d]).length - 10))) nt3
      have s3 : Same H (upd (upd (upd H t1 (.lst [d])) t2 (.lst (ps ++ [d]))) t3 (.lst ((ps ++ [d]).drop ((ps ++ [d]).length - 10)))) := e1.trans (e2.trans e3)
      have h33 : (upd (upd (upd H t1 (.lst [d])) t2 (.lst (ps ++ [d]))) t3 (.lst ((ps ++ [d]).drop ((ps ++ [d]).length - 10)))) t3 = some (.lst ((ps ++ [d]).drop ((ps ++ [d]).length - 10))) := upd_same
      generalize upd (upd (upd H t1 (.lst [d])) t2 (.lst (ps ++ [d]))) t3 (.lst ((ps ++ [d]).drop ((ps ++ [d]).length - 10))) = H3 at s3 h33
      have hp3 := s3 _ _ hp
      have n3p : t3 ≠ po := ne_of h33 hp3 (by intro z; cases z)
      have w3 : Same (wo H po) (wo H3 po) := wo_mono s3
      refine ⟨_, rfl, po, CO, dx, _, rfl, hp3, TO.cl, TO.past, (by rw [office_len]; decide), ?_⟩
      rw [put_past]
      refine ⟨_, rfl, t, _, _, _, rfl, rfl, SqT.of ((upd_ne ntp).trans (s3 _ _ ht)), rfl, _, rfl, po, CO, dx, _, rfl, upd_same, TO.cl, TO.desk, (by rw [office_len]; decide), ?_⟩
      rw [upd_upd, put_desk]
      have hd3 : rDesk CD CM (wo H3 po) (.ref xa) b := off_desk_cls hp3 h1 h2 (stays_desk _ _ _ _ s3 hx)
      have hP3 : LOf (rDesk CD CM) (wo H3 po) (.ref t3) ((a.now :: a.past).take 10).reverse := by
        refine ⟨t3, _, rfl, by rw [wo_ne n3p]; exact h33, ?_⟩
        rw [past_rev]
        have pl : Paired (rDesk CD CM (wo H3 po)) (ps ++ [d]) (a.past.reverse ++ [a.now]) := paired_append (Paired.mono (fun _ _ z => stays_desk _ _ _ _ w3 z) pp) (.cons (stays_desk _ _ _ _ w3 hd) .nil)
        have := paired_drop ((ps ++ [d]).length - 10) pl
        rw [show (a.past.reverse ++ [a.now]).length = (ps ++ [d]).length from (Paired.len pl).symm]
        exact this
      have okA : AbsOk ⟨b, (a.now :: a.past).take 10⟩ := by
        refine ⟨okb, fun y hy => ?_, ?_⟩
        · rcases List.mem_cons.1 (List.mem_of_mem_take hy) with rfl | hy
          · exact ok.now
          · exact ok.past y hy
        · show ((a.now :: a.past).take 10).length ≤ 10
          rw [List.length_take]; omega
      refine ⟨_, rfl, t, _, _, _, rfl, rfl, SqT.of ((upd_ne ntp).trans (s3 _ _ ht)), rfl, (by show 1 ≤ sizeLine; decide), fun u nu => ?_⟩
      have npu : po ≠ u := fun e => by rw [e, upd_same] at nu; cases nu
      have nu3 : H3 u = none := by rw [upd_ne npu.symm] at nu; exact nu
      have ew : wo (upd (upd H3 po (.ins CO dx (officeF (.ref xa) (.ref t3)))) u (.lst [.int r.1])) po = upd (wo H3 po) u (.lst [.int r.1]) := by rw [wo_upd_ne npu.symm, wo_upd]
      have su : Same (wo H3 po) (upd (wo H3 po) u (.lst [.int r.1])) := same_new (wo_none nu3)
      refine q _ _ (by rw [ew]; exact w3.trans su) ⟨dx, _, _, (upd_ne npu).trans upd_same, ?_⟩ ⟨u, rfl, upd_same⟩
      rw [ew]
      exact ⟨stays_desk _ _ _ _ su hd3, stays_L stays_desk _ _ _ _ su hP3, okA⟩

def sp_take_back (CO CD CM : Addr) : Sp := fun vs H Q _ => ∃ po a, vs = [.ref po] ∧ OffIn CO CD CM H po (some a) ∧
  ∀ H' z, Same (wo H po) (wo H' po) → OffIn CO CD CM H' po (some (a.does .back).1) → rZs H' z (Kv406Neutral.row (a.does .back).2) → Q z H'
theorem k_take_back {CO CD CM : Addr} (B : Plain mg) (Cn : Consts mg) (TO : OfficeC K CO) (D : HereM K CO "take_back" "Office.take_back" s_Office_take_back ["self"]) : KeptM P w K mg base 1 CO "take_back" (sp_take_back CO CD CM) := by
  obtain ⟨tk2, cN⟩ := Cn.noChange
  refine keptM_of D sc_Office_take_back (fun vs H Q E h => ?_) (fun f cdv A outer s H vs Q E hr h => ?_)
  · obtain ⟨po, a, rfl, _⟩ := h; rfl
  · obtain ⟨po, a, rfl, ⟨dx, d, p, hp, hd, hP, ok⟩, q⟩ := h
    refine ⟨_, pss_cons (ps_if (pt_cmpR op_eq (pe_callB call_len_seq (by rfl) B.len PySem.boot_len (pa_cons (pe_fld (pv 0) rfl) pa_nil)) pe_int (nomark _)) (pss_one (ps_ret (pe_lst (pa_cons (pe_glob (v := .int (-6)) rfl cN ⟨_, rfl⟩) pa_nil)))) pss_nil)
      (pss_cons (ps_fld (pv 0) (pe_ix ix_list (pe_fld (pv 0) rfl) (pe_un un_neg pe_int) (fun _ _ => rfl)) rfl)
      (pss_cons (ps_fld (pv 0) (pe_slice sl_list (pe_fld (pv 0) rfl) po_none (po_some (pe_un un_neg pe_int))) rfl)
      (pss_one (ps_ret (pe_lst (pa_cons (pe_callB call_len_seq (by rfl) B.len PySem.boot_len (pa_cons (pe_fld (pv 0) rfl) pa_nil)) pa_nil)))))), ?_⟩
    obtain ⟨pa, ps, rfl, hpa, pp⟩ := hP
    have plen := Paired.len pp
    rw [List.length_reverse] at plen
    have w0 := wo_same H po
    have hpa' := w0 _ _ hpa
    have npa : pa ≠ po := ne_of hpa' hp (by intro z; cases z)
    refine ⟨_, rfl, po, CO, dx, _, _, rfl, hp, TO.cl, TO.past, get_past, pa, ps, rfl, .inl (SqL.of hpa'), rfl, _, rfl, ?_⟩
    show if decide (nV ps.length = nV 0) = true then _ else _
    rw [nV_dec, plen]
    cases hpast : a.past with
    | nil =>
      have ed : a.does .back = (a, Kv406.say (-6)) := by
        show (match a.past with | [] => (a, Kv406.say (-6)) | w :: l => (⟨w, l⟩, Kv406.num l.length)) = _
        rw [hpast]
      rw [ed] at q
      refine iteT ⟨(by show 1 ≤ sizeLine; decide), fun u nu => ?_⟩
      have npu : po ≠ u := ne_of_none hp nu
      exact q _ _ (wo_mono (same_new nu)) ⟨dx, d, _, (upd_ne npu).trans hp, stays_desk _ _ _ _ (wo_mono (same_new nu)) hd, stays_L stays_desk _ _ _ _ (wo_mono (same_new nu)) ⟨pa, ps, rfl, hpa, pp⟩, ok⟩ ⟨u, rfl, upd_same⟩
    | cons b l =>
      have ed : a.does .back = (⟨b, l⟩, Kv406.num l.length) := by
        show (match a.past with | [] => (a, Kv406.say (-6)) | w :: l => (⟨w, l⟩, Kv406.num l.length)) = _
        rw [hpast]
      rw [ed] at q
      rw [hpast, List.reverse_cons] at pp
      rw [hpast] at plen
      have hpsne : ps ≠ [] := fun z => by rw [z] at plen; cases plen
      obtain ⟨ps0, pl, rfl⟩ : ∃ ps0 pl, ps = ps0 ++ [pl] := ⟨ps.dropLast, ps.getLast hpsne, (List.dropLast_concat_getLast hpsne).symm⟩
      have plen0 : ps0.length = l.length := by rw [List.length_append] at plen; simp at plen; exact plen
      have pp0 : Paired (rDesk CD CM (wo H po)) ps0 l.reverse := by
        have := paired_take ps0.length pp
        rw [List.take_left, plen0, ← List.length_reverse (as := l), List.take_left] at this
        exact this
      have hb : rDesk CD CM (wo H po) pl b := by
        obtain ⟨y, ey, hy⟩ := Paired.getL pp (i := ps0.length) (x := pl) (by simp)
        rw [plen0, ← List.length_reverse (as := l)] at ey
        simp at ey
        rw [ey]; exact hy
      obtain ⟨ba, bd, bl, bo, bm, rfl, hba, _⟩ := id hb
      refine iteF ⟨_, rfl, po, CO, dx, _, _, rfl, hp, TO.cl, TO.past, get_past, _, rfl, pa, _, _, _, rfl, rfl, SqL.of hpa', atI_last ps0 _, _, rfl, po, CO, dx, _, rfl, hp, TO.cl, TO.desk, (by rw [office_len]; decide), ?_⟩
      rw [put_desk]
      refine ⟨_, rfl, po, CO, dx, _, _, rfl, upd_same, TO.cl, TO.past, get_past, _, rfl, _, rfl, pa, _, rfl, SqL.of ((upd_ne npa).trans hpa'), fun t nt => ?_⟩
      rw [show cutV (ps0 ++ [V.ref ba]) none (some (-1)) = ps0 from by rw [cut_butlast, List.length_append, List.length_singleton, Nat.add_sub_cancel, List.take_left]] at *
      have npt : po ≠ t := fun e => by rw [e, upd_same] at nt; cases nt
      have nt0 : H t = none := by rw [upd_ne npt.symm] at nt; exact nt
      refine ⟨_, rfl, po, CO, dx, _, rfl, (upd_ne npt).trans upd_same, TO.cl, TO.past, (by rw [office_len]; decide), ?_⟩
      rw [put_past]
      refine ⟨_, rfl, po, CO, dx, _, _, rfl, upd_same, TO.cl, TO.past, get_past, t, ps0, rfl, .inl (SqL.of ((upd_ne npt.symm).trans upd_same)), (by show 1 ≤ sizeLine; decide), fun u nu => ?_⟩
      have npu : po ≠ u := fun e => by rw [e, upd_same] at nu; cases nu
      have ntu : t ≠ u := fun e => by rw [e, upd_ne npu.symm, upd_same] at nu; cases nu
      have nu0 : H u = none := by rw [upd_ne npu.symm, upd_ne ntu.symm, upd_ne npu.symm] at nu; exact nu
      have ew : wo (upd (upd (upd (upd H po (.ins CO dx (officeF (.ref ba) (.ref pa)))) t (.lst ps0)) po (.ins CO dx (officeF (.ref ba) (.ref t)))) u (.lst [.int ((ps0.length : Nat) : Int)])) po = upd (upd (wo H po) t (.lst ps0)) u (.lst [.int ((ps0.length : Nat) : Int)]) := by
        rw [wo_upd_ne npu.symm, wo_upd, wo_upd_ne npt.symm, wo_upd]
      have s1 : Same (wo H po) (upd (wo H po) t (.lst ps0)) := same_new (wo_none nt0)
      have s2 : Same (upd (wo H po) t (.lst ps0)) (upd (upd (wo H po) t (.lst ps0)) u (.lst [.int ((ps0.length : Nat) : Int)])) := same_new (by rw [upd_ne ntu.symm]; exact wo_none nu0)
      refine q _ _ (by rw [ew]; exact s1.trans s2) ⟨dx, _, _, (upd_ne npu).trans upd_same, ?_⟩ ⟨u, rfl, by rw [upd_same, plen0]; rfl⟩
      rw [ew]
      refine ⟨stays_desk _ _ _ _ (s1.trans s2) hb, ⟨t, ps0, rfl, s2 _ _ upd_same, Paired.mono (fun _ _ z => stays_desk _ _ _ _ (s1.trans s2) z) pp0⟩, ⟨ok.past b (by rw [hpast]; exact List.mem_cons_self ..), fun y hy => ok.past y (by rw [hpast]; exact List.mem_cons_of_mem _ hy), ?_⟩⟩
      have := ok.few
      rw [hpast] at this
      show l.length ≤ 10
      simp at this; omega
end
end Nk
set_option Elab.async false
set_option maxRecDepth 100000
set_option maxHeartbeats 4000000
namespace Nk
open PySem PySem.Spec PyProof.Rows L2
open Kv406 (Now)
/-! ## what is locked is told by none of these -/
def OffF {α : Type} (F : Rep α) : Prop := ∀ H v x r o u, H r = some (.frz o u) → F H v x → F (wo H r) v x
theorem fz_N : OffF rN := fun _ _ _ _ _ _ _ h => h
theorem fz_O : OffF rO := fun _ _ _ _ _ _ _ h => h
theorem fz_line : OffF rLine := fun H v x r o u hr ⟨a, e, h⟩ => ⟨a, e, by rw [wo_ne (ne_of h hr (by intro z; cases z))]; exact h⟩
theorem fz_mark : OffF rMark := fun H v x r o u hr ⟨a, e, h⟩ => ⟨a, e, by rw [wo_ne (ne_of h hr (by intro z; cases z))]; exact h⟩
theorem fz_dict : OffF rDict := fun H v x r o u hr ⟨a, e, h⟩ => ⟨a, e, by rw [wo_ne (ne_of h hr (by intro z; cases z))]; exact h⟩
theorem fz_addr : OffF rAddr := fun H v x r o u hr h => by
  cases x with
  | none => exact h
  | some x => obtain ⟨a, e, h⟩ := h; exact ⟨a, e, by rw [wo_ne (ne_of h hr (by intro z; cases z))]; exact h⟩
theorem fz_L {α : Type} {F : Rep α} (hF : OffF F) : OffF (LOf F) := fun H v x r o u hr ⟨a, vs, e, h, p⟩ =>
  ⟨a, vs, e, by rw [wo_ne (ne_of h hr (by intro z; cases z))]; exact h, Paired.mono (fun _ _ q => hF _ _ _ _ _ _ hr q) p⟩
theorem fz_made {CM : Addr} : OffF (rMade CM) := fun H v x r o u hr ⟨p, dx, a, b, c, nn, d, e, f, h0, h1, h2, h3, h4, hn, h5, h6, h7⟩ =>
  ⟨p, dx, a, b, c, nn, d, e, f, h0, by rw [wo_ne (ne_of h1 hr (by intro z; cases z))]; exact h1, fz_L fz_line _ _ _ _ _ _ hr h2, fz_L fz_line _ _ _ _ _ _ hr h3, fz_L (fz_L fz_O) _ _ _ _ _ _ hr h4, fz_L fz_O _ _ _ _ _ _ hr hn, fz_L (fz_L fz_mark) _ _ _ _ _ _ hr h5, fz_L fz_dict _ _ _ _ _ _ hr h6, fz_L fz_addr _ _ _ _ _ _ hr h7⟩
theorem fz_desk {CD CM : Addr} : OffF (rDesk CD CM) := fun H v x r o u hr ⟨p, dx, l, o', m, e, h, V0⟩ =>
  ⟨p, dx, l, o', m, e, by rw [wo_ne (ne_of h hr (by intro z; cases z))]; exact h, fz_L fz_line _ _ _ _ _ _ hr V0.l, fz_L fz_N _ _ _ _ _ _ hr V0.o, fz_made _ _ _ _ _ _ hr V0.m⟩
theorem fz_off {CD CM : Addr} {H : Hp} {d p : V} {st : Kv406.State} {r : Addr} {o : Obj} {u : HO} (hr : H r = some (.frz o u)) (h : OffV CD CM H d p st) : OffV CD CM (wo H r) d p st := by
  cases st with
  | none => exact h
  | some a => exact ⟨fz_desk _ _ _ _ _ _ hr h.1, fz_L fz_desk _ _ _ _ _ _ hr h.2.1, h.2.2⟩
/-- where the fourth slot stands -/
def atOf (σ : L2.St) : Nat := match σ[3]? with
  | some (some (V.int c)) => c.toNat
  | _ => 0
theorem toInts_nV (l : List Nat) : (toInts l).map V.int = l.map nV := by unfold toInts; rw [List.map_map]; rfl
/-- how many numbers stand behind each call's number -/
def numbersL : List Nat := [1, 3, 1, 1, 0, 1, 1, 0, 2, 0, 0, 0, 0, 2, 2, 1, 2, 0, 2, 2, 2, 2, 0, 2, 0, 0, 0]
theorem req_num {p : Nat} {nums : List Nat} {c : Kv406.Call} (h : Req p nums c) : ∃ k, numbersL[p]? = some k ∧ (p ≠ 4 → nums.length = k) := by
  cases h with
  | order l _ _ => exact ⟨0, rfl, fun z => absurd rfl z⟩
  | _ => exact ⟨_, rfl, fun _ => rfl⟩
theorem cut_mid (xs : List V) (i j : Nat) (hij : i ≤ j) (hj : j ≤ xs.length) : cutV xs (some (i : Int)) (some (j : Int)) = (xs.drop i).take (j - i) := by
  unfold cutV
  rw [HT.sIx_nat, HT.sIx_nat, Nat.min_eq_left hj, Nat.min_eq_left (Nat.le_trans hij hj)]
section
variable {P : Program} {w : World} {K : PySem.W.Frag} {mg : Str → Option Value} {base : Heap}
def sp_Office_init (CO : Addr) : Sp := fun vs H Q _ => ∃ po dx, vs = [.ref po] ∧ H po = some (.ins CO dx []) ∧ ∀ H' p, Same (wo H po) (wo H' po) → H' po = some (.ins CO dx (officeF .non p)) → Q .non H'
theorem k_Office_init {CO : Addr} (TO : OfficeC K CO) (D : HereC K mg CO "Office" "Office.__init__" s_Office_init ["self"]) : KeptC P w K mg base 1 CO "Office" (sp_Office_init CO) := by
  refine keptC_of D sc_Office_init (fun vs H Q E h => ?_) (fun f cdv A outer s H vs Q E hr h => ?_)
  · obtain ⟨po, dx, rfl, _⟩ := h; rfl
  · obtain ⟨po, dx, rfl, hp, q⟩ := h
    refine ⟨_, pss_cons (ps_fld (pv 0) pe_non rfl) (pss_one (ps_fld (pv 0) (pe_lst pa_nil) rfl)), ?_⟩
    refine ⟨_, rfl, po, CO, dx, _, rfl, hp, TO.cl, TO.desk, (by show 0 < 1000; decide), ?_⟩
    refine ⟨Nat.zero_le _, fun t nt => ?_⟩
    have npt : po ≠ t := fun e => by rw [e, upd_same] at nt; cases nt
    have nt0 : H t = none := by rw [upd_ne npt.symm] at nt; exact nt
    refine ⟨_, rfl, po, CO, dx, _, rfl, (upd_ne npt).trans upd_same, TO.cl, TO.past, (by show 1 < 1000; decide), ?_⟩
    refine q _ (.ref t) ?_ upd_same
    rw [wo_upd, wo_upd_ne npt.symm, wo_upd]
    exact same_new (wo_none nt0)
def sp_answer (CO CD CM : Addr) : Sp := fun vs H Q _ => ∃ po st p nums c y, vs = [.ref po, nV p, y] ∧ OffIn CO CD CM H po st ∧ rInts H y nums ∧ Req p nums c ∧
  ∀ H' z, Same (wo H po) (wo H' po) → OffIn CO CD CM H' po (Kv406.act st c).1 → rZs H' z (Kv406Neutral.row (Kv406.act st c).2) → Q z H'
/-- the tuple of the text's top that tells how many numbers stand behind a call's -/
structure Numbers (K : PySem.W.Frag) (mg : Str → Option Value) (a : Addr) : Prop where
  g : mg "NUMBERS" = some (.ref a)
  t : ∀ H, SqT K H a (numbersL.map nV)
  o : ∃ t, mg "ORDER" = some (.int 4 t)
def sp_answers (K : PySem.W.Frag) : Sp := fun vs H Q _ => ∃ (a : Addr) (ns : List Int), vs = [.ref a] ∧ SqL K H a (ns.map V.int) ∧ PyKv406.answers_asked ns = true ∧ ns.length ≤ 4000 ∧
  ∀ (H' : Hp) (p : Addr), H' p = some (.lst ((PyKv406.answers ns).map V.int)) → Q (.ref p) H'
theorem ok_answers {CO CD CM aN f : Addr} {fd : FuncData} (B : Plain mg) (TO : OfficeC K CO) (Nm : Numbers K mg aN) (ki : KeptC P w K mg base 1 CO "Office" (sp_Office_init CO)) (ka : KeptM P w K mg base 12 CO "answer" (sp_answer CO CD CM)) (D : Fun K "answers" "answers" s_answers f fd) :
    FnOk P w K mg base CX0 13 f fd ["calls"] (sp_answers K) := by
  obtain ⟨tkO, cO⟩ := Nm.o
  refine D.ok sc_answers (fun vs H Q E h => ?_) (fun cdv A outer s H vs Q E hr h => ?_)
  · obtain ⟨a, ns, rfl, _⟩ := h; rfl
  · obtain ⟨a, ns, rfl, hS, hask, hlen, q⟩ := h
    obtain ⟨cs0, hreads, hcs, hdue, hshort⟩ := answers_due hask
    rw [hdue] at q
    obtain ⟨fI, fdI, psI, FI, MI, mI, bI⟩ := ki.ex
    -- calls 0, office 1, told 2, at 3, call 4, start 5, size 6, answer 7
    refine ⟨_, pss_cons (ps_set (i := 1) sc_answers.nd rfl (.inl rfl) (pe_make0 MI FI (hr.mono (by decide)) rfl mI bI .nil pass0))
      (pss_cons (ps_set (i := 2) sc_answers.nd rfl (.inl rfl) (pe_lst pa_nil))
      (pss_cons (ps_set (i := 3) sc_answers.nd rfl (.inl rfl) pe_int)
      (pss_cons (ps_while PassesOwn.never (pt_cmpR op_lt (pv 3) (pe_callB call_len_seq (by rfl) B.len PySem.boot_len (pa_cons (pv 0) pa_nil)) (nomark _))
        (pss_cons (ps_set (i := 4) sc_answers.nd rfl (.inl rfl) (pe_ix ix_list (pv 0) (pv 3) (fun _ _ => rfl)))
        (pss_cons (ps_set (i := 5) sc_answers.nd rfl (.inl rfl) (pe_op op_add (pv 3) pe_int))
        (pss_cons (ps_set (i := 6) sc_answers.nd rfl (.inl rfl) (pe_ix ix_tup (pe_glob (v := .ref aN) rfl Nm.g rfl) (pv 4) (fun _ _ => rfl)))
        (C8.pss_cut (ps_if (pt_cmpR op_eq (pv 4) (pe_glob (v := .int 4) rfl cO ⟨_, rfl⟩) (nomark _)) (pss_cons (ps_set (i := 6) sc_answers.nd rfl (.inl rfl) (pe_ix ix_list (pv 0) (pv 5) (fun _ _ => rfl))) (pss_one (ps_aug (i := 5) sc_answers.nd rfl (.inl rfl) pe_int ip_add))) pss_nil)
        (pss_cons (ps_set (i := 3) sc_answers.nd rfl (.inl rfl) (pe_op op_add (pv 5) (pv 6)))
        (pss_cons (ps_lock (ps_set (i := 7) sc_answers.nd rfl (.inl rfl) (pgm ka TO.cl hr (pv 1) (pa_cons (pv 4) (pa_cons (pe_slice sl_list (pv 0) (po_some (pv 5)) (po_some (pv 3))) pa_nil)))))
        (pss_cons (ps_expr (pe_bm PySem.F.plainAttrs_list PySem.F.slot_list_append PySem.F.type_list_append mt_append (pv 2) (pa_cons (pe_callB call_len_seq (by rfl) B.len PySem.boot_len (pa_cons (pv 7) pa_nil)) pa_nil)))
        (pss_one (ps_expr (pe_bm PySem.F.plainAttrs_list PySem.F.slot_list_extend PySem.F.type_list_extend mt_extend (pv 2) (pa_cons (pv 7) pa_nil))))))))))))
      (pss_one (ps_ret (pv 2)))))), ?_⟩
    intro po dx npo ndx nex
    refine ⟨po, dx, rfl, upd_same, fun H1 p1 e1 hpo => ⟨rfl, ?_⟩⟩
    have sH1 : Same H (wo H1 po) := fun b u e => by
      refine e1 b u ?_
      rw [wo_upd, wo_ne (ne_of_none e npo), upd_ne (ne_of_none e ndx)]; exact e
    refine ⟨Nat.zero_le _, fun tl ntl => ?_⟩
    have ntp : tl ≠ po := fun e => by rw [e] at ntl; rw [ntl] at hpo; cases hpo
    refine while_by (fun σ H' => ∃ (k : Nat) (st : Kv406.State) (cs : List (List (List Int))) (out : List Int) (c d e g : Option V), σ = [some (.ref a), some (.ref po), some (.ref tl), some (nV k), c, d, e, g] ∧ k ≤ ns.length ∧ Reads (ns.drop k) cs ∧
        out ++ due st cs = due none cs0 ∧ Same H (wo (wo H' po) tl) ∧ H' tl = some (.lst (out.map V.int)) ∧ ∃ dx d p, H' po = some (.ins CO dx (officeF d p)) ∧ OffV CD CM (wo (wo H' po) tl) d p st)
      (fun σ _ => ns.length - atOf σ) ?_ ?_ ?_
    · refine ⟨0, none, cs0, [], _, _, _, _, rfl, Nat.zero_le _, by rw [List.drop_zero]; exact hreads, rfl, ?_, upd_same, dx, .non, p1, (upd_ne ntp.symm).trans hpo, rfl⟩
      rw [wo_upd_ne ntp, wo_upd]
      exact same_wo sH1 (sH1.free (wo_none ntl))
    · rintro σ H2 ⟨k, st, cs, out, c, d, e, g, rfl, hk, hR, hD, hs2, htl, dx2, d2, p2, hpo2, V2⟩
      have sAll : Same H H2 := hs2.trans ((wo_same _ _).trans (wo_same _ _))
      refine ⟨_, rfl, _, rfl, a, _, rfl, .inl (sAll.seq hS), _, _, rfl, rfl, _, rfl, if2 (fun h => ?_) (fun h => ?_)⟩
      · have hlt : k < ns.length := by
          have := of_decide_eq_true h
          rw [List.length_map] at this
          exact Int.ofNat_lt.1 this
        -- the call that stands there
        obtain ⟨p, nums, z, t, cs', hreq, eR, eC, hR'⟩ : ∃ p nums z t cs', Req p nums z ∧ ns.drop k = spell p nums ++ t ∧ cs = rowsOf p nums :: cs' ∧ Reads t cs' := by
          cases hR' : ns.drop k with
          | nil =>
            have := congrArg List.length hR'
            rw [List.length_drop] at this
            simp at this; omega
          | cons x l =>
            rw [hR'] at hR
            generalize hL : x :: l = L at hR
            cases hR with
            | nil => cases hL
            | cons hq ht => exact ⟨_, _, _, _, _, hq, rfl, rfl, ht⟩
        subst eC
        obtain ⟨km, ekm, hkm⟩ := req_num hreq
        have hnum : (numbersL.map nV)[p]? = some (nV km) := by rw [List.getElem?_map, ekm]; rfl
        have hget : ∀ i, (ns.drop k)[i]? = ns[k + i]? := fun i => List.getElem?_drop
        have hcall : ns[k]? = some ((p : Nat) : Int) := by
          have := hget 0
          rw [eR, Nat.add_zero] at this
          rw [← this]
          unfold spell
          split
          · rename_i e4; rw [e4]; rfl
          · rfl
        have hcallV : (ns.map V.int)[k]? = some (nV p) := by rw [List.getElem?_map, hcall]; rfl
        refine ⟨_, rfl, _, rfl, a, _, _, _, rfl, rfl, sAll.seq hS, atI_nat hcallV, ?_⟩
        refine ⟨_, rfl, _, _, rfl, rfl, ?_⟩
        refine ⟨_, rfl, aN, _, _, _, rfl, rfl, Nm.t _, atI_nat hnum, ?_⟩
        refine ⟨fun σ' H' => H' = H2 ∧ ∃ s, σ' = [some (.ref a), some (.ref po), some (.ref tl), some (nV k), some (nV p), some (nV s), some (nV nums.length), g] ∧ ns.drop s = toInts nums ++ t ∧ k < s ∧ s ≤ ns.length, ?_, ?_⟩
        · refine ⟨_, rfl, rfl, _, rfl, ?_⟩
          show if decide (nV p = nV 4) = true then _ else _
          rw [nV_dec]
          refine if2 (fun h4 => ?_) (fun h4 => ?_)
          · have hp4 : p = 4 := of_decide_eq_true h4
            have eR4 : ns.drop k = 4 :: ((nums.length : Nat) : Int) :: (toInts nums ++ t) := by
              rw [eR]; unfold spell; rw [if_pos hp4]; rfl
            have hl1 : (ns.map V.int)[k + 1]? = some (nV nums.length) := by
              have := hget 1
              rw [eR4] at this
              rw [List.getElem?_map, ← this]; rfl
            refine ⟨_, rfl, _, rfl, a, _, _, _, rfl, rfl, sAll.seq hS, atI_nat hl1, ?_⟩
            have h2l : k + 2 ≤ ns.length := by
              have := congrArg List.length eR4
              rw [List.length_drop, List.length_cons, List.length_cons] at this
              omega
            refine ⟨_, rfl, _, _, rfl, rfl, rfl, k + 2, rfl, ?_, by omega, h2l⟩
            have : ns.drop (k + 2) = (ns.drop k).drop 2 := by rw [List.drop_drop]
            rw [this, eR4]; rfl
          · have hp4 : ¬ p = 4 := of_decide_eq_false h4
            refine ⟨rfl, k + 1, ?_, ?_, by omega, by omega⟩
            · rw [← hkm hp4]; rfl
            · have : ns.drop (k + 1) = (ns.drop k).drop 1 := by rw [List.drop_drop]
              rw [this, eR]; unfold spell; rw [if_neg hp4]; rfl
        · rintro σ' H2 ⟨rfl, s0, rfl, eS, hks, hs0⟩
          have htoL : (toInts nums).length = nums.length := by unfold toInts; rw [List.length_map]
          have hslen : s0 + nums.length ≤ ns.length := by
            have := congrArg List.length eS
            rw [List.length_drop, List.length_append, htoL] at this
            omega
          have eT : ns.drop (s0 + nums.length) = t := by
            rw [← List.drop_drop, eS, ← htoL, List.drop_left]
          have eN : (ns.drop s0).take nums.length = toInts nums := by
            rw [eS, ← htoL, List.take_left]
          refine ⟨_, rfl, _, rfl, _, _, rfl, rfl, ?_⟩
          refine ⟨tl, _, htl, trivial, fun od => ?_⟩
          have hpl : (upd H2 tl (.frz od (.lst (out.map V.int)))) po = some (.ins CO dx2 (officeF d2 p2)) := (upd_ne ntp.symm).trans hpo2
          have hfl : (upd H2 tl (.frz od (.lst (out.map V.int)))) tl = some (.frz od (.lst (out.map V.int))) := upd_same
          have sl : Same (wo (wo H2 po) tl) (wo (upd H2 tl (.frz od (.lst (out.map V.int)))) po) := fun b u eb => by
            have hbt : b ≠ tl := fun z => by rw [z, wo_at] at eb; cases eb
            rw [wo_ne hbt] at eb
            have hbp : b ≠ po := fun z => by rw [z, wo_at] at eb; cases eb
            rw [wo_ne hbp] at eb
            rw [wo_ne hbp, upd_ne hbt]; exact eb
          generalize upd H2 tl (.frz od (.lst (out.map V.int))) = Hl at hpl hfl sl
          have sHl : Same H Hl := hs2.trans (sl.trans (wo_same _ _))
          refine ⟨_, rfl, po, dx2, _, rfl, hpl, no_answer, _, rfl, _, rfl, _, rfl, ((s0 : Nat) : Int), rfl, _, rfl, ((s0 + nums.length : Nat) : Int), rfl, a, _, rfl, sHl.seq hS, fun t1 nt1 => ?_⟩
          rw [cut_mid _ _ _ (by omega) (by rw [List.length_map]; exact hslen), Nat.add_sub_cancel_left, ← List.map_drop, ← List.map_take, eN, toInts_nV] at *
          have e1' := same_new (o := .lst (nums.map nV)) nt1
          have w1 : Same (wo Hl po) (wo (upd Hl t1 (.lst (nums.map nV))) po) := wo_mono e1'
          refine ⟨po, st, p, nums, z, _, rfl, ⟨dx2, d2, p2, e1' _ _ hpl, V2.on (sl.trans w1)⟩, ⟨t1, _, rfl, upd_same, pairedN.2 rfl⟩, hreq, fun H3 zz e3 off3 hz => ?_⟩
          have hf3 : H3 tl = some (.frz od (.lst (out.map V.int))) := (wo_ne (H := H3) ntp).symm.trans (e3 _ _ (w1 _ _ ((wo_ne ntp).trans hfl)))
          refine ⟨hf3, ?_⟩
          obtain ⟨dx3, d3, p3, hpo3, V3⟩ := off3
          obtain ⟨za, rfl, hza⟩ := hz
          have hzt : za ≠ tl := ne_of hza hf3 (by intro z; cases z)
          have hzp : za ≠ po := ne_of hza hpo3 (by intro z; cases z)
          have V3' : OffV CD CM (wo (wo H3 po) tl) d3 p3 (Kv406.act st z).1 := fz_off (by rw [wo_ne ntp]; exact hf3) V3
          have s3 : Same H (wo (wo H3 po) tl) := by
            refine same_wo ((hs2.trans sl).trans (w1.trans e3)) ?_
            cases hz0 : H tl with
            | none => rfl
            | some o0 =>
              have := hs2 _ _ hz0
              rw [wo_at] at this; cases this
          rw [due_cons hreq] at hD
          generalize Kv406Neutral.row (Kv406.act st z).2 = row at hD hza
          have hbig : out.length + 1 + row.length ≤ 10000000 := by
            rw [← hD] at hshort
            rw [List.length_append, List.cons_append, List.length_cons, List.length_append] at hshort
            omega
          have hsz : 10000000 < sizeLine := by decide
          refine ⟨_, rfl, .inl ⟨rfl, _, SqL.of upd_same⟩, _, rfl, za, _, rfl, .inl (SqL.of ((upd_ne hzt).trans hza)), tl, _, _, rfl, rfl, upd_same, ?_, ?_⟩
          · rw [List.length_map]; omega
          rw [upd_upd]
          refine ⟨_, rfl, .inl ⟨rfl, _, SqL.of upd_same⟩, _, rfl, tl, za, _, _, rfl, rfl, upd_same, (upd_ne hzt).trans hza, ?_, ?_⟩
          · rw [List.length_append, List.length_map, List.length_map, List.length_singleton]; omega
          rw [upd_upd]
          have ew : ∀ o', wo (wo (upd H3 tl o') po) tl = wo (wo H3 po) tl := fun o' => by rw [wo_upd_ne ntp, wo_upd]
          refine ⟨⟨s0 + nums.length, (Kv406.act st z).1, cs', out ++ [((row.length : Nat) : Int)] ++ row, _, _, _, _, rfl, hslen, by rw [eT]; exact hR', ?_, by rw [ew]; exact s3, ?_, dx3, d3, p3, (upd_ne ntp.symm).trans hpo3, by rw [ew]; exact V3'⟩, ?_⟩
          · rw [← hD]; simp
          · rw [upd_same, List.map_append, List.map_append, List.length_map]; rfl
          · show ns.length - (((s0 + nums.length : Nat) : Int)).toNat < ns.length - (((k : Nat) : Int)).toNat
            rw [Int.toNat_natCast, Int.toNat_natCast]; omega
      · have hge : ns.length ≤ k := by
          have := of_decide_eq_false h
          rw [List.length_map] at this
          omega
        have hnil : ns.drop k = [] := List.drop_of_length_le hge
        rw [hnil] at hR
        generalize hL : ([] : List Int) = L at hR
        cases hR with
        | nil =>
          rw [due_nil, List.append_nil] at hD
          refine ⟨_, rfl, q _ tl ?_⟩
          rw [← hD]; exact htl
        | cons hq ht =>
          exfalso
          unfold spell at hL
          split at hL <;> cases hL
    · rintro σ H2 Q1 Q2 hQ ⟨v, hv, v2, hv2, p, ys, e, hs, i, j, e1, e2, b, e3, qq⟩
      exact ⟨v, hv, v2, hv2, p, ys, e, hs, i, j, e1, e2, b, e3, hQ _ _ qq⟩
end
end Nk
set_option Elab.async false
set_option maxRecDepth 100000
set_option maxHeartbeats 4000000
/-! The calls that only look, in the specification's words. -/
namespace Nk
open PySem PySem.Spec PyProof.Rows L2
open Kv406 (Now)
/-- what a look answers -/
def lk (a : Now) (c : Kv406.Call) : Kv406.Ans := ((Kv406.Abs.mk a []).does c).2
theorem look_does {a : Now} {past : List Now} {p : Nat} {nums : List Nat} {c : Kv406.Call} (h : Req p nums c) (h1 : 10 ≤ p) (h2 : p ≤ 24) : (Kv406.Abs.mk a past).does c = (⟨a, past⟩, lk a c) := by
  cases h with
  | lines => rfl
  | base => rfl
  | fresh => rfl
  | dist u v _ _ => show (if a.no u v then _ else _) = (_, (if a.no u v then _ else _ : Kv406.Abs × Kv406.Ans).2); split <;> rfl
  | kept u v _ _ => show (if a.no u v then _ else _) = (_, (if a.no u v then _ else _ : Kv406.Abs × Kv406.Ans).2); split <;> rfl
  | marks v _ => show (if a.g.n ≤ v then _ else _) = (_, (if a.g.n ≤ v then _ else _ : Kv406.Abs × Kv406.Ans).2); split <;> rfl
  | bymarks u v _ _ => show (if a.no u v then _ else _) = (_, (if a.no u v then _ else _ : Kv406.Abs × Kv406.Ans).2); split <;> rfl
  | chosen => rfl
  | bychosen u v _ _ => show (if a.no u v then _ else _) = (_, (if a.no u v then _ else _ : Kv406.Abs × Kv406.Ans).2); split <;> rfl
  | route u v _ _ => show (if a.no u v then _ else _) = (_, (if a.no u v then _ else _ : Kv406.Abs × Kv406.Ans).2); split <;> rfl
  | comes u v _ _ => show (if a.no u v then _ else _) = (_, (if a.no u v then _ else _ : Kv406.Abs × Kv406.Ans).2); split <;> rfl
  | length u v _ _ =>
    show (if a.no u v then _ else if a.comes u v = false then _ else _) = (_, (if a.no u v then _ else if a.comes u v = false then _ else _ : Kv406.Abs × Kv406.Ans).2)
    split
    · rfl
    · split <;> rfl
  | sizes => rfl
  | compare u v _ _ => show (if a.no u v then _ else _) = (_, (if a.no u v then _ else _ : Kv406.Abs × Kv406.Ans).2); split <;> rfl
  | count => rfl
  | _ => omega
/-- two places asked for: refused if one isn't there -/
def pairAns (a : Now) (u v : Nat) (r : List Int) : List Int := if u < a.g.n ∧ v < a.g.n then r else [-2]
theorem no_iff {a : Now} {u v : Nat} : a.no u v = true ↔ ¬ (u < a.g.n ∧ v < a.g.n) := by
  unfold Kv406.Now.no
  rw [Bool.or_eq_true, decide_eq_true_iff, decide_eq_true_iff]; omega
/-- the row of an answer that may be missing -/
def optR (x : Option Nat) : List Int := match x with
  | none => [-33]
  | some d => [((d : Nat) : Int)]
theorem row_opt (x : Option Nat) : Kv406Neutral.row (Kv406.opt x) = optR x := by cases x <;> rfl
theorem pair_if (a : Now) (u v : Nat) (past : List Now) (x : Kv406.Ans) : Kv406Neutral.row (if a.no u v then ((⟨a, past⟩ : Kv406.Abs), Kv406.say (-2)) else (⟨a, past⟩, x)).2 = pairAns a u v (Kv406Neutral.row x) := by
  unfold pairAns
  by_cases h : u < a.g.n ∧ v < a.g.n
  · rw [if_pos h, if_neg (by rw [no_iff]; exact fun z => z h)]
  · rw [if_neg h, if_pos (no_iff.2 h)]; rfl
/-- the answers' rows, call by call -/
theorem lk_lines (a : Now) : Kv406Neutral.row (lk a .lines) = ((a.g.lines.length : Nat) : Int) :: (a.g.lines.flatMap fun x => [x.a, x.b, x.w]).map Int.ofNat := rfl
theorem lk_base (a : Now) : Kv406Neutral.row (lk a .base) = ((a.base.lines.length : Nat) : Int) :: (a.base.lines.flatMap fun x => [x.a, x.b, x.w]).map Int.ofNat := rfl
theorem lk_fresh (a : Now) : Kv406Neutral.row (lk a .fresh) = [((Kv406.bit (a.g == a.then_) : Nat) : Int)] := rfl
theorem lk_dist (a : Now) (u v : Nat) : Kv406Neutral.row (lk a (.dist u v)) = pairAns a u v (optR (Kv402.at_ a.g.table u v)) := by rw [← row_opt]; exact pair_if a u v [] _
theorem lk_kept (a : Now) (u v : Nat) : Kv406Neutral.row (lk a (.kept u v)) = pairAns a u v (optR (Kv402.at_ a.base.table u v)) := by rw [← row_opt]; exact pair_if a u v [] _
theorem lk_marks (a : Now) (v : Nat) : Kv406Neutral.row (lk a (.marks v)) = if v < a.g.n then (((a.marks.getD v []).length : Nat) : Int) :: (Kv403.flat (a.marks.getD v [])).map Int.ofNat else [-2] := by
  show Kv406Neutral.row (if a.g.n ≤ v then _ else _ : Kv406.Abs × Kv406.Ans).2 = _
  by_cases h : v < a.g.n
  · rw [if_pos h, if_neg (by omega)]; rfl
  · rw [if_neg h, if_pos (by omega)]; rfl
theorem lk_bymarks (a : Now) (u v : Nat) : Kv406Neutral.row (lk a (.bymarks u v)) = pairAns a u v (optR (Kv403.told (a.marks.getD u []) (a.marks.getD v []))) := by rw [← row_opt]; exact pair_if a u v [] _
theorem lk_chosen (a : Now) : Kv406Neutral.row (lk a .chosen) = (((Kv404.list_ a.g.n a.s).length : Nat) : Int) :: (Kv404.list_ a.g.n a.s).map Int.ofNat := rfl
theorem lk_bychosen (a : Now) (u v : Nat) : Kv406Neutral.row (lk a (.bychosen u v)) = pairAns a u v (optR (Kv404.told a.base.n a.base.table a.s u v)) := by rw [← row_opt]; exact pair_if a u v [] _
theorem lk_route (a : Now) (u v : Nat) : Kv406Neutral.row (lk a (.route u v)) = pairAns a u v ((((a.route u v).length : Nat) : Int) :: (a.route u v).map Int.ofNat) := pair_if a u v [] _
theorem lk_comes (a : Now) (u v : Nat) : Kv406Neutral.row (lk a (.comes u v)) = pairAns a u v [((Kv406.bit (a.comes u v) : Nat) : Int)] := pair_if a u v [] _
theorem lk_length (a : Now) (u v : Nat) : Kv406Neutral.row (lk a (.length u v)) = pairAns a u v (optR (howFar a.g.lines (a.route u v) v)) := by
  rw [howFar_eq]
  show Kv406Neutral.row (if a.no u v then _ else if a.comes u v = false then _ else _ : Kv406.Abs × Kv406.Ans).2 = _
  unfold pairAns
  by_cases h : u < a.g.n ∧ v < a.g.n
  · rw [if_pos h, if_neg (by rw [no_iff]; exact fun z => z h)]
    cases hc : a.comes u v <;> rfl
  · rw [if_neg h, if_pos (no_iff.2 h)]; rfl
theorem lk_sizes (a : Now) : Kv406Neutral.row (lk a .sizes) = 4 :: a.sizes.map Int.ofNat := rfl
theorem lk_count (a : Now) : Kv406Neutral.row (lk a .count) = [((a.sent : Nat) : Int), ((a.lost : Nat) : Int), ((a.far : Nat) : Int)] := rfl
theorem lk_compare (a : Now) (u v : Nat) : Kv406Neutral.row (lk a (.compare u v)) = pairAns a u v [0, Kv406.num' (Kv402.at_ a.g.table u v), Kv406.num' (Kv402.at_ a.base.table u v), Kv406.num' (Kv403.told (a.marks.getD u []) (a.marks.getD v [])),
    Kv406.num' (Kv404.told a.base.n a.base.table a.s u v), Kv406.num' (howFar a.g.lines (a.route u v) v)] := by
  have e : Kv406.num' (howFar a.g.lines (a.route u v) v) = if a.comes u v then ((Kv405.len a.g (a.route u v) : Nat) : Int) else -1 := by
    rw [howFar_eq]; split <;> rfl
  rw [e]; exact pair_if a u v [] _
/-- what each look promises -/
def spLook (CD CM : Addr) (p : Nat) : Sp := fun vs H Q _ => ∃ a nums x y c, vs = [x, y] ∧ rDesk CD CM H x a ∧ NowOk a ∧ rInts H y nums ∧ (∀ k ∈ nums, k < a.g.n) ∧ Req p nums c ∧ ∀ H' z, Same H H' → rZs H' z (Kv406Neutral.row (lk a c)) → Q z H'
/-- told of two places -/
abbrev PF := Now → Nat → Nat → Option Nat
def pLand : PF := fun a u v => Kv402.at_ a.g.table u v
def pBase : PF := fun a u v => Kv402.at_ a.base.table u v
def pMarks : PF := fun a u v => Kv403.told (a.marks.getD u []) (a.marks.getD v [])
def pChosen : PF := fun a u v => Kv404.told a.base.n a.base.table a.s u v
def pMessage : PF := fun a u v => howFar a.g.lines (a.route u v) v
def spPair (CD CM : Addr) (F : PF) : Sp := fun vs H Q _ => ∃ a u v x, vs = [x, nV u, nV v] ∧ rDesk CD CM H x a ∧ NowOk a ∧ u < a.g.n ∧ v < a.g.n ∧ ∀ H', Same H H' → Q (oV (F a u v)) H'
theorem base_tab {a : Now} (h : NowOk a) : a.base.table = Kv402.table a.g.n a.base.lines := by
  have eb : a.base.n = a.g.n := h.base_n
  generalize a.base = b at eb
  cases b with
  | mk n ls => simp only at eb; subst eb; rfl
/-- where the looks need not refuse -/
theorem pair_in {a : Now} {u v : Nat} {r : List Int} (hu : u < a.g.n) (hv : v < a.g.n) : pairAns a u v r = r := by unfold pairAns; rw [if_pos ⟨hu, hv⟩]
theorem two_in {a : Now} {u v : Nat} (h : ∀ k ∈ [u, v], k < a.g.n) : u < a.g.n ∧ v < a.g.n := ⟨h u (by simp), h v (by simp)⟩
end Nk
set_option Elab.async false
set_option maxRecDepth 100000
set_option maxHeartbeats 4000000
namespace Nk
open PySem PySem.Spec PyProof.Rows L2
open Kv406 (Now)
/-- a land's lines, told one behind another -/
def tellL (ls : List Kv402.Line) : List Int := ls.flatMap fun x => [((x.a : Nat) : Int), ((x.b : Nat) : Int), ((x.w : Nat) : Int)]
theorem tellL_eq (ls : List Kv402.Line) : (ls.flatMap fun x => [x.a, x.b, x.w]).map Int.ofNat = tellL ls := by
  unfold tellL
  induction ls with
  | nil => rfl
  | cons l ls ih => rw [List.flatMap_cons, List.flatMap_cons, List.map_append, ih]; rfl
theorem tellL_len (ls : List Kv402.Line) : (tellL ls).length = 3 * ls.length := by
  unfold tellL
  induction ls with
  | nil => rfl
  | cons l ls ih => rw [List.flatMap_cons, List.length_append, ih, List.length_cons]; simp; omega
theorem tellL_snoc (ls : List Kv402.Line) (l : Kv402.Line) : tellL (ls ++ [l]) = tellL ls ++ [((l.a : Nat) : Int), ((l.b : Nat) : Int), ((l.w : Nat) : Int)] := by
  unfold tellL
  rw [List.flatMap_append]; rfl
section
variable {P : Program} {w : World} {K : PySem.W.Frag} {mg : Str → Option Value} {base : Heap}
def sp_told_lines : Sp := fun vs H Q _ => ∃ ls x, vs = [x] ∧ rLines H x ls ∧ ls.length ≤ 100 ∧ ∀ H' z, Same H H' → rZs H' z (((ls.length : Nat) : Int) :: tellL ls) → Q z H'
theorem k_told_lines (B : Plain mg) (D : Here K mg "told_lines" s_told_lines ["lines"]) : Kept P w K mg base 1 "told_lines" sp_told_lines := by
  refine kept_of D sc_told_lines (fun vs H Q E h => ?_) (fun f cdv A outer s H vs Q E hr h => ?_)
  · obtain ⟨ls, x, rfl, _⟩ := h; rfl
  · obtain ⟨ls, x, rfl, hx, hl, q⟩ := h
    -- lines 0, told 1, line 2
    refine ⟨_, pss_cons (ps_set (i := 1) sc_told_lines.nd rfl (.inl rfl) (pe_lst (pa_cons (pe_callB call_len_seq (by rfl) B.len PySem.boot_len (pa_cons (pv 0) pa_nil)) pa_nil)))
      (pss_cons (ps_for PassesOwn.never rfl (pi_list (pv 0)) (pg_name (i := 2) sc_told_lines.nd rfl (.inl rfl))
        (pss_one (ps_expr (pe_bm PySem.F.plainAttrs_list PySem.F.slot_list_extend PySem.F.type_list_extend mt_extend (pv 1) (pa_cons (pe_lst (pa_cons (pe_ix ix_tup (pv 2) pe_int (fun _ _ => rfl)) (pa_cons (pe_ix ix_tup (pv 2) pe_int (fun _ _ => rfl)) (pa_cons (pe_ix ix_tup (pv 2) pe_int (fun _ _ => rfl)) pa_nil)))) pa_nil)))))
      (pss_one (ps_ret (pv 1)))), ?_⟩
    obtain ⟨a, us, rfl, ha, p⟩ := id hx
    have hlen := Paired.len p
    have hsz : 1000 < sizeLine := by decide
    refine ⟨_, rfl, a, us, rfl, .inl (SqL.of ha), (by show 1 ≤ sizeLine; decide), fun r nr => ?_⟩
    refine ⟨_, rfl, a, rfl, ⟨_, SqL.of ((same_new nr) _ _ ha)⟩, for_list (K := K) (a := a) (xs := us)
      (fun i σ H' => ∃ c, σ = [some (.ref a), some (.ref r), c] ∧ Same H (wo H' r) ∧ H' r = some (.lst ((((ls.length : Nat) : Int) :: tellL (ls.take i)).map V.int)))
      ⟨none, rfl, by rw [wo_upd]; exact same_wo (Same.refl _) nr, by rw [upd_same, ← hlen]; rfl⟩ (fun i σ H' _ ⟨_, _, e, _⟩ => SqL.of ((wo_same _ _) _ _ (e _ _ ha))) ?_ ?_⟩
    · rintro i z σ H2 hi ⟨c, rfl, e2, h2⟩
      obtain ⟨l, el, rl⟩ := Paired.getL p hi
      obtain ⟨la, rfl, hla⟩ := id rl
      have hL2 := (wo_same _ _) _ _ (e2 _ _ hla)
      have hil : i < ls.length := (List.getElem?_eq_some_iff.mp el).1
      refine ⟨_, rfl, .inl ⟨rfl, _, SqL.of h2⟩, _, rfl, la, _, _, _, rfl, rfl, SqT.of hL2, rfl, _, rfl, la, _, _, _, rfl, rfl, SqT.of hL2, rfl, _, rfl, la, _, _, _, rfl, rfl, SqT.of hL2, rfl, (by show 3 ≤ sizeLine; decide), fun t nt => ?_⟩
      have ntr : r ≠ t := ne_of_none h2 nt
      refine ⟨r, t, _, _, rfl, rfl, (upd_ne ntr).trans h2, upd_same, ?_, ?_⟩
      · rw [List.length_map, List.length_cons, tellL_len, List.length_take]
        show _ + 3 ≤ _
        omega
      · refine ⟨_, rfl, ?_, ?_⟩
        · rw [wo_upd]
          have : Same (wo H2 r) (wo (upd H2 t (.lst [nV l.a, nV l.b, nV l.w])) r) := wo_mono (same_new nt)
          exact e2.trans this
        · rw [upd_same, take_snoc el, tellL_snoc, ← List.cons_append, List.map_append]; rfl
    · rintro σ H2 ⟨c, rfl, e2, h2⟩
      rw [hlen, List.take_length] at h2
      exact ⟨_, rfl, q _ _ (e2.trans (wo_same _ _)) ⟨r, rfl, h2⟩⟩
end
end Nk
set_option Elab.async false
set_option maxRecDepth 100000
set_option maxHeartbeats 4000000
namespace Nk
open PySem PySem.Spec PyProof.Rows L2
open Kv406 (Now)
section
variable {P : Program} {w : World} {K : PySem.W.Frag} {mg : Str → Option Value} {base : Heap}
theorem k_look_lines {CD CM : Addr} (TD : DeskC K CD) (kt : Kept P w K mg base 1 "told_lines" sp_told_lines) (D : Here K mg "look_lines" s_look_lines ["desk", "numbers"]) : Kept P w K mg base 2 "look_lines" (spLook CD CM 10) := by
  refine kept_of D sc_look_lines (fun vs H Q E h => ?_) (fun f cdv A outer s H vs Q E hr h => ?_)
  · obtain ⟨a, nums, x, y, c, rfl, _⟩ := h; rfl
  · obtain ⟨a, nums, x, y, c, rfl, ⟨p, dx, l, o, m, rfl, hp, V0⟩, ok, hy, _, hc, q⟩ := h
    cases hc
    refine ⟨_, pss_one (ps_ret (pgo kt hr (pa_cons (pe_fld (pv 0) rfl) pa_nil))), ?_⟩
    unfold deskOf at hp
    have hfew := ok.g.few
    refine ⟨_, rfl, p, CD, dx, _, _, rfl, hp, TD.cl, TD.lines, get_lines, a.g.lines, l, rfl, V0.l, by omega, fun H' z e hz => q _ _ e ?_⟩
    rw [lk_lines, tellL_eq]; exact hz
theorem k_look_base {CD CM : Addr} (TD : DeskC K CD) (TM : MadeC K CM) (kt : Kept P w K mg base 1 "told_lines" sp_told_lines) (D : Here K mg "look_base" s_look_base ["desk", "numbers"]) : Kept P w K mg base 2 "look_base" (spLook CD CM 11) := by
  refine kept_of D sc_look_base (fun vs H Q E h => ?_) (fun f cdv A outer s H vs Q E hr h => ?_)
  · obtain ⟨a, nums, x, y, c, rfl, _⟩ := h; rfl
  · obtain ⟨a, nums, x, y, c, rfl, ⟨p, dx, l, o, m, rfl, hp, V0⟩, ok, hy, _, hc, q⟩ := h
    cases hc
    refine ⟨_, pss_one (ps_ret (pgo kt hr (pa_cons (pe_fld (pe_fld (pv 0) rfl) rfl) pa_nil))), ?_⟩
    unfold deskOf at hp
    obtain ⟨mp, dm, ma, mb, mc, mn, md, me, mf, rfl, hm, hsrc, hbase, _⟩ := V0.m
    have hfew := ok.base.few
    refine ⟨_, rfl, p, CD, dx, _, _, rfl, hp, TD.cl, TD.made, get_made, mp, CM, dm, _, _, rfl, hm, TM.cl, TM.base, rfl, a.base.lines, mb, rfl, hbase, by omega, fun H' z e hz => q _ _ e ?_⟩
    rw [lk_base, tellL_eq]; exact hz
end
end Nk
set_option Elab.async false
set_option maxRecDepth 100000
set_option maxHeartbeats 4000000
namespace Nk
open PySem PySem.Spec PyProof.Rows L2
open Kv406 (Now)
/-- a line as data -/
def lineD (l : Kv402.Line) : PyData := .tuple [.int ((l.w : Nat) : Int), .int ((l.a : Nat) : Int), .int ((l.b : Nat) : Int)]
theorem lines_dp {K : PySem.W.Frag} {H : Hp} {v : V} {ls : List Kv402.Line} (h : rLines H v ls) : Dp K H v (.list (ls.map lineD)) := by
  obtain ⟨a, vs, rfl, ha, p⟩ := h
  refine .lst (SqL.of ha) ?_
  clear ha
  induction p with
  | nil => exact .nil
  | cons h _ ih =>
    obtain ⟨b, rfl, hb⟩ := h
    exact .cons (.tup (SqT.of hb) (.cons (.int _) (.cons (.int _) (.cons (.int _) .nil)))) ih
theorem lines_shaped (ls : List Kv402.Line) : SeqAt.shaped (.list (ls.map lineD)) = true := by
  have h1 : PyData.canLayAll0 (ls.map lineD) = true := by
    induction ls with
    | nil => rfl
    | cons l ls ih => rw [List.map_cons]; show (true && PyData.canLayAll0 (ls.map lineD)) = true; rw [ih]; rfl
  have h2 : PyData.depthAll (ls.map lineD) ≤ 1 := by
    clear h1
    induction ls with
    | nil => exact Nat.zero_le _
    | cons l ls ih => rw [List.map_cons]; show max 1 (PyData.depthAll (ls.map lineD)) ≤ 1; omega
  show (PyData.canLayAll0 (ls.map lineD) && decide (PyData.depthAll (ls.map lineD) + 1 ≤ 64)) = true
  rw [h1, decide_eq_true (by omega)]; rfl
theorem lineD_eqv (l m : Kv402.Line) : PyData.eqv (lineD l) (lineD m) = decide (l = m) := by
  show (((l.w : Nat) : Int) == ((m.w : Nat) : Int) && (((l.a : Nat) : Int) == ((m.a : Nat) : Int) && (((l.b : Nat) : Int) == ((m.b : Nat) : Int) && true))) = _
  rw [Bool.eq_iff_iff]
  cases l; cases m
  simp
  omega
theorem lines_eqv : ∀ (ls ms : List Kv402.Line), PyData.eqv (.list (ls.map lineD)) (.list (ms.map lineD)) = decide (ls = ms)
  | [], [] => rfl
  | [], _ :: _ => rfl
  | _ :: _, [] => rfl
  | l :: ls, m :: ms => by
    have ih : PyData.eqvAll (ls.map lineD) (ms.map lineD) = decide (ls = ms) := lines_eqv ls ms
    show (PyData.eqv (lineD l) (lineD m) && PyData.eqvAll (ls.map lineD) (ms.map lineD)) = _
    rw [lineD_eqv, ih, Bool.eq_iff_iff]; simp
theorem fresh_bit {a : Now} (ok : NowOk a) : Kv406.bit (a.g == a.then_) = if a.g.lines = a.then_.lines then 1 else 0 := by
  have e : (a.g == a.then_) = decide (a.g.lines = a.then_.lines) := by
    have hn := ok.then_n
    generalize a.g = g at *
    generalize a.then_ = t at *
    cases g; cases t
    rw [Bool.eq_iff_iff]
    simp only [beq_iff_eq, decide_eq_true_iff, Kv402.Net.mk.injEq] at *
    exact ⟨fun h => h.2, fun h => ⟨hn.symm, h⟩⟩
  rw [e]
  unfold Kv406.bit
  simp
theorem units64 {k : Nat} {A : Around} (r : Room k A) : A.units + 64 < PySem.cLine := by have := r.un; omega
section
variable {P : Program} {w : World} {K : PySem.W.Frag} {mg : Str → Option Value} {base : Heap}
theorem k_look_fresh {CD CM : Addr} (TD : DeskC K CD) (TM : MadeC K CM) (D : Here K mg "look_fresh" s_look_fresh ["desk", "numbers"]) : Kept P w K mg base 1 "look_fresh" (spLook CD CM 12) := by
  refine kept_of D sc_look_fresh (fun vs H Q E h => ?_) (fun f cdv A outer s H vs Q E hr h => ?_)
  · obtain ⟨a, nums, x, y, c, rfl, _⟩ := h; rfl
  · obtain ⟨a, nums, x, y, c, rfl, ⟨p, dx, l, o, m, rfl, hp, V0⟩, ok, hy, _, hc, q⟩ := h
    cases hc
    refine ⟨_, pss_one (ps_ret (pe_lst (pa_cons (pe_ifExp (pt_cmpR (op_eqD (units64 hr)) (pe_fld (pv 0) rfl) (pe_fld (pe_fld (pv 0) rfl) rfl) (nomark _)) pe_int pe_int) pa_nil))), ?_⟩
    unfold deskOf at hp
    obtain ⟨mp, dm, ma, mb, mc, mn, md, me, mf, rfl, hm, hsrc, hbase, _⟩ := V0.m
    rw [lk_fresh, fresh_bit ok] at q
    refine ⟨_, rfl, p, CD, dx, _, _, rfl, hp, TD.cl, TD.lines, get_lines, _, rfl, p, CD, dx, _, _, rfl, hp, TD.cl, TD.made, get_made, mp, CM, dm, _, _, rfl, hm, TM.cl, TM.source, rfl, ?_⟩
    refine ⟨_, _, lines_dp V0.l, lines_dp hsrc, lines_shaped _, lines_shaped _, ?_⟩
    rw [lines_eqv]
    refine ⟨_, rfl, ?_⟩
    have et : (allOf a).src = a.then_.lines := rfl
    rw [et]
    refine if2 (fun h => ?_) (fun h => ?_)
    · rw [if_pos (of_decide_eq_true h)] at q
      exact ⟨by show 1 ≤ sizeLine; decide, fun t nt => q _ _ (same_new nt) ⟨t, rfl, upd_same⟩⟩
    · rw [if_neg (of_decide_eq_false h)] at q
      exact ⟨by show 1 ≤ sizeLine; decide, fun t nt => q _ _ (same_new nt) ⟨t, rfl, upd_same⟩⟩
end
end Nk
set_option Elab.async false
set_option maxRecDepth 100000
set_option maxHeartbeats 4000000
namespace Nk
open PySem PySem.Spec PyProof.Rows L2
open Kv406 (Now)
section
variable {P : Program} {w : World} {K : PySem.W.Frag} {mg : Str → Option Value} {base : Heap}
theorem k_far_in_land {CD CM : Addr} (TD : DeskC K CD) (kd : Kept P w K mg base 3 "distances" sp_distances) (D : Here K mg "far_in_land" s_far_in_land ["desk", "u", "v"]) : Kept P w K mg base 4 "far_in_land" (spPair CD CM pLand) := by
  refine kept_of D sc_far_in_land (fun vs H Q E h => ?_) (fun f cdv A outer s H vs Q E hr h => ?_)
  · obtain ⟨a, u, v, x, rfl, _⟩ := h; rfl
  · obtain ⟨a, u, v, x, rfl, ⟨p, dx, l, o, m, rfl, hp, V0⟩, ok, hu, hv, q⟩ := h
    refine ⟨_, pss_one (ps_ret (pe_ix ix_list (pe_ix ix_list (pgo kd hr (pa_cons (pe_fld (pv 0) rfl) (pa_cons (pe_fld (pv 0) rfl) pa_nil))) (pv 1) (fun _ _ => rfl)) (pv 2) (fun _ _ => rfl))), ?_⟩
    have hn := ok.n8
    have hF := ok.g.fine
    unfold deskOf at hp
    refine ⟨_, rfl, p, CD, dx, _, _, rfl, hp, TD.cl, TD.places, get_places, _, rfl, p, CD, dx, _, _, rfl, hp, TD.cl, TD.lines, get_lines, a.g.n, a.g.lines, l, rfl, V0.l, by omega, fun x hx => ⟨Nat.lt_trans (hF.lt x hx) (hF.ltn x hx), hF.ltn x hx⟩, fun H1 z e1 hz => ?_⟩
    rw [distances_eq _ hF] at hz
    have hsq := sq_table a.g.n a.g.lines hF
    obtain ⟨fa, fvs, ra, rfl, hf, hfr, hra⟩ := tab_row hz hsq hu
    exact ⟨_, rfl, fa, fvs, _, _, rfl, rfl, SqL.of hf, atI_nat hfr, _, rfl, ra, _, _, _, rfl, rfl, SqL.of hra, atI_nat (map_cell (hsq.cell hu hv)), q _ e1⟩
theorem k_far_in_base {CD CM : Addr} (TD : DeskC K CD) (TM : MadeC K CM) (D : Here K mg "far_in_base" s_far_in_base ["desk", "u", "v"]) : Kept P w K mg base 1 "far_in_base" (spPair CD CM pBase) := by
  refine kept_of D sc_far_in_base (fun vs H Q E h => ?_) (fun f cdv A outer s H vs Q E hr h => ?_)
  · obtain ⟨a, u, v, x, rfl, _⟩ := h; rfl
  · obtain ⟨a, u, v, x, rfl, ⟨p, dx, l, o, m, rfl, hp, V0⟩, ok, hu, hv, q⟩ := h
    refine ⟨_, pss_one (ps_ret (pe_ix ix_list (pe_ix ix_list (pe_fld (pe_fld (pv 0) rfl) rfl) (pv 1) (fun _ _ => rfl)) (pv 2) (fun _ _ => rfl))), ?_⟩
    obtain ⟨mp, dm, ma, mb, mc, mn, md, me, mf, rfl, hm, _, _, hT, _⟩ := V0.m
    have hT' : rTab H mc (Kv402.table a.g.n a.base.lines) := hT
    have hsq := sq_table a.g.n a.base.lines ok.base.fine
    obtain ⟨fa, fvs, ra, rfl, hf, hfr, hra⟩ := tab_row hT' hsq hu
    unfold pBase at q
    rw [base_tab ok] at q
    exact ⟨_, rfl, p, CD, dx, _, _, rfl, hp, TD.cl, TD.made, get_made, mp, CM, dm, _, _, rfl, hm, TM.cl, TM.far, rfl, _, rfl, fa, fvs, _, _, rfl, rfl, SqL.of hf, atI_nat hfr, _, rfl, ra, _, _, _, rfl, rfl, SqL.of hra, atI_nat (map_cell (hsq.cell hu hv)), q _ (Same.refl _)⟩
theorem k_far_by_marks {CD CM : Addr} (TD : DeskC K CD) (TM : MadeC K CM) (kt : Kept P w K mg base 2 "told_by_marks" sp_told_by_marks) (D : Here K mg "far_by_marks" s_far_by_marks ["desk", "u", "v"]) : Kept P w K mg base 3 "far_by_marks" (spPair CD CM pMarks) := by
  refine kept_of D sc_far_by_marks (fun vs H Q E h => ?_) (fun f cdv A outer s H vs Q E hr h => ?_)
  · obtain ⟨a, u, v, x, rfl, _⟩ := h; rfl
  · obtain ⟨a, u, v, x, rfl, ⟨p, dx, l, o, m, rfl, hp, V0⟩, ok, hu, hv, q⟩ := h
    refine ⟨_, pss_one (ps_ret (pgo kt hr (pa_cons (pe_fld (pe_fld (pv 0) rfl) rfl) (pa_cons (pv 1) (pa_cons (pv 2) pa_nil))))), ?_⟩
    obtain ⟨mp, dm, ma, mb, mc, mn, md, me, mf, rfl, hm, _, _, _, _, hM, _⟩ := V0.m
    obtain ⟨e1, e2⟩ := marks_eq ok
    have hM' : rMarks H md a.marks := by rw [e1]; exact hM
    exact ⟨_, rfl, p, CD, dx, _, _, rfl, hp, TD.cl, TD.made, get_made, mp, CM, dm, _, _, rfl, hm, TM.cl, TM.marks, rfl, _, rfl, _, rfl, a.marks, u, v, _, rfl, hM', by omega, by omega, q _ (Same.refl _)⟩
theorem k_far_by_chosen {CD CM : Addr} (TD : DeskC K CD) (TM : MadeC K CM) (kt : Kept P w K mg base 3 "told_by_chosen" sp_told_by_chosen) (D : Here K mg "far_by_chosen" s_far_by_chosen ["desk", "u", "v"]) : Kept P w K mg base 4 "far_by_chosen" (spPair CD CM pChosen) := by
  refine kept_of D sc_far_by_chosen (fun vs H Q E h => ?_) (fun f cdv A outer s H vs Q E hr h => ?_)
  · obtain ⟨a, u, v, x, rfl, _⟩ := h; rfl
  · obtain ⟨a, u, v, x, rfl, ⟨p, dx, l, o, m, rfl, hp, V0⟩, ok, hu, hv, q⟩ := h
    refine ⟨_, pss_one (ps_ret (pgo kt hr (pa_cons (pe_fld (pe_fld (pv 0) rfl) rfl) (pa_cons (pe_fld (pe_fld (pv 0) rfl) rfl) (pa_cons (pv 1) (pa_cons (pv 2) pa_nil)))))), ?_⟩
    obtain ⟨mp, dm, ma, mb, mc, mn, md, me, mf, rfl, hm, _, _, hT, hN, _⟩ := V0.m
    unfold pChosen at q
    rw [base_tab ok, ok.base_n] at q
    exact ⟨_, rfl, p, CD, dx, _, _, rfl, hp, TD.cl, TD.made, get_made, mp, CM, dm, _, _, rfl, hm, TM.cl, TM.far, rfl, _, rfl, p, CD, dx, _, _, rfl, hp, TD.cl, TD.made, get_made, mp, CM, dm, _, _, rfl, hm, TM.cl, TM.nearest, rfl, _, rfl, _, rfl,
      a.g.n, a.base.lines, a.s, u, v, _, _, rfl, hT, hN, ok.base.fine, hu, hv, q _ (Same.refl _)⟩
theorem k_far_by_message {CD CM : Addr} (TD : DeskC K CD) (km : KeptM P w K mg base 4 CD "message_goes" (sp_message_goes CD CM)) (D : Here K mg "far_by_message" s_far_by_message ["desk", "u", "v"]) : Kept P w K mg base 5 "far_by_message" (spPair CD CM pMessage) := by
  refine kept_of D sc_far_by_message (fun vs H Q E h => ?_) (fun f cdv A outer s H vs Q E hr h => ?_)
  · obtain ⟨a, u, v, x, rfl, _⟩ := h; rfl
  · obtain ⟨a, u, v, x, rfl, hD, ok, hu, hv, q⟩ := h
    obtain ⟨p, dx, l, o, m, rfl, hp, V0⟩ := id hD
    refine ⟨_, pss_one (ps_ret (pgm km TD.cl hr (pv 0) (pa_cons (pv 1) (pa_cons (pv 2) pa_nil)))), ?_⟩
    exact ⟨_, rfl, p, dx, _, rfl, hp, no_message_goes, _, rfl, _, rfl, a, u, v, _, rfl, hD, ok, hu, hv, q⟩
end
end Nk
set_option Elab.async false
set_option maxRecDepth 100000
set_option maxHeartbeats 4000000
namespace Nk
open PySem PySem.Spec PyProof.Rows L2
open Kv406 (Now)
/-- marks, told one behind another -/
def tellM (ms : List (Nat × Nat)) : List Int := ms.flatMap fun x => [((x.1 : Nat) : Int), ((x.2 : Nat) : Int)]
theorem tellM_eq (ms : List (Nat × Nat)) : (Kv403.flat ms).map Int.ofNat = tellM ms := by
  unfold tellM Kv403.flat
  induction ms with
  | nil => rfl
  | cons l ls ih => rw [List.flatMap_cons, List.flatMap_cons, List.map_append, ih]; rfl
theorem tellM_len (ms : List (Nat × Nat)) : (tellM ms).length = 2 * ms.length := by
  unfold tellM
  induction ms with
  | nil => rfl
  | cons l ls ih => rw [List.flatMap_cons, List.length_append, ih, List.length_cons]; simp; omega
theorem tellM_snoc (ms : List (Nat × Nat)) (l : Nat × Nat) : tellM (ms ++ [l]) = tellM ms ++ [((l.1 : Nat) : Int), ((l.2 : Nat) : Int)] := by
  unfold tellM
  rw [List.flatMap_append]; rfl
theorem marks_few {a : Now} (ok : NowOk a) (v : Nat) : (a.marks.getD v []).length ≤ 64 := by
  rw [(marks_eq ok).1, marksOf_un]
  have h1 := turns_len (t := Kv402.table a.g.n a.base.lines) (v := v) a.o (List.replicate (Kv402.table a.g.n a.base.lines).length [])
  have h2 : ((List.replicate (Kv402.table a.g.n a.base.lines).length ([] : List (Nat × Nat))).getD v []).length = 0 := by
    rw [List.getD_eq_getElem?_getD, List.getElem?_replicate]; split <;> rfl
  have hn := ok.n8
  have h3 : a.o.length * (Kv402.table a.g.n a.base.lines).length ≤ 8 * 8 := Nat.mul_le_mul (by rw [ok.o.1]; exact hn) (by rw [table_len]; exact hn)
  exact Nat.le_trans h1 (by omega)
section
variable {P : Program} {w : World} {K : PySem.W.Frag} {mg : Str → Option Value} {base : Heap}
theorem k_look_marks {CD CM : Addr} (B : Plain mg) (TD : DeskC K CD) (TM : MadeC K CM) (D : Here K mg "look_marks" s_look_marks ["desk", "numbers"]) : Kept P w K mg base 1 "look_marks" (spLook CD CM 15) := by
  refine kept_of D sc_look_marks (fun vs H Q E h => ?_) (fun f cdv A outer s H vs Q E hr h => ?_)
  · obtain ⟨a, nums, x, y, c, rfl, _⟩ := h; rfl
  · obtain ⟨a, nums, x, y, c, rfl, ⟨p, dx, l, o, m, rfl, hp, V0⟩, ok, hy, hin, hc, q⟩ := h
    cases hc with
    | marks v hv =>
    have hv' : v < a.g.n := hin v (by simp)
    rw [lk_marks, if_pos hv', tellM_eq] at q
    -- desk 0, numbers 1, marks 2, told 3, mark 4
    refine ⟨_, pss_cons (ps_set (i := 2) sc_look_marks.nd rfl (.inl rfl) (pe_ix ix_list (pe_fld (pe_fld (pv 0) rfl) rfl) (pe_ix ix_list (pv 1) pe_int (fun _ _ => rfl)) (fun _ _ => rfl)))
      (pss_cons (ps_set (i := 3) sc_look_marks.nd rfl (.inl rfl) (pe_lst (pa_cons (pe_callB call_len_seq (by rfl) B.len PySem.boot_len (pa_cons (pv 2) pa_nil)) pa_nil)))
      (pss_cons (ps_for PassesOwn.never rfl (pi_list (pv 2)) (pg_name (i := 4) sc_look_marks.nd rfl (.inl rfl))
        (pss_one (ps_expr (pe_bm PySem.F.plainAttrs_list PySem.F.slot_list_extend PySem.F.type_list_extend mt_extend (pv 3) (pa_cons (pe_lst (pa_cons (pe_ix ix_tup (pv 4) pe_int (fun _ _ => rfl)) (pa_cons (pe_ix ix_tup (pv 4) pe_int (fun _ _ => rfl)) pa_nil))) pa_nil)))))
      (pss_one (ps_ret (pv 3))))), ?_⟩
    obtain ⟨ya, rfl, hya⟩ := ints_at hy
    obtain ⟨mp, dm, ma, mb, mc, mn, md, me, mf, rfl, hm, _, _, _, _, hM, _⟩ := V0.m
    obtain ⟨e1, e2⟩ := marks_eq ok
    have hM' : rMarks H md a.marks := by rw [e1]; exact hM
    have hfew := marks_few ok v
    obtain ⟨fa, fvs, yv, rfl, hfa, hyv, fv⟩ := l_item hM' (getD_some (l := a.marks) [] (i := v) (by omega))
    generalize a.marks.getD v [] = ms at fv q hfew
    obtain ⟨va, us, rfl, ha, pu⟩ := fv
    have hlen := Paired.len pu
    have hsz : 1000 < sizeLine := by decide
    unfold deskOf at hp
    refine ⟨_, rfl, p, CD, dx, _, _, rfl, hp, TD.cl, TD.made, get_made, mp, CM, dm, _, _, rfl, hm, TM.cl, TM.marks, rfl, _, rfl, ya, _, _, _, rfl, rfl, SqL.of hya, rfl, fa, fvs, _, _, rfl, rfl, SqL.of hfa, atI_nat hyv, ?_⟩
    refine ⟨_, rfl, va, us, rfl, .inl (SqL.of ha), (by show 1 ≤ sizeLine; decide), fun r nr => ?_⟩
    refine ⟨_, rfl, va, rfl, ⟨_, SqL.of ((same_new nr) _ _ ha)⟩, for_list (K := K) (a := va) (xs := us)
      (fun i σ H' => ∃ c, σ = [some (.ref p), some (.ref ya), some (.ref va), some (.ref r), c] ∧ Same H (wo H' r) ∧ H' r = some (.lst ((((ms.length : Nat) : Int) :: tellM (ms.take i)).map V.int)))
      ⟨none, rfl, by rw [wo_upd]; exact same_wo (Same.refl _) nr, by rw [upd_same, ← hlen]; rfl⟩ (fun i σ H' _ ⟨_, _, e, _⟩ => SqL.of ((wo_same _ _) _ _ (e _ _ ha))) ?_ ?_⟩
    · rintro i z σ H2 hi ⟨c, rfl, e2, h2⟩
      obtain ⟨l, el, rl⟩ := Paired.getL pu hi
      obtain ⟨la, rfl, hla⟩ := id rl
      have hL2 := (wo_same _ _) _ _ (e2 _ _ hla)
      have hil : i < ms.length := (List.getElem?_eq_some_iff.mp el).1
      refine ⟨_, rfl, .inl ⟨rfl, _, SqL.of h2⟩, _, rfl, la, _, _, _, rfl, rfl, SqT.of hL2, rfl, _, rfl, la, _, _, _, rfl, rfl, SqT.of hL2, rfl, (by show 2 ≤ sizeLine; decide), fun t nt => ?_⟩
      have ntr : r ≠ t := ne_of_none h2 nt
      refine ⟨r, t, _, _, rfl, rfl, (upd_ne ntr).trans h2, upd_same, ?_, ?_⟩
      · rw [List.length_map, List.length_cons, tellM_len, List.length_take]
        show _ + 2 ≤ _
        omega
      · refine ⟨_, rfl, ?_, ?_⟩
        · rw [wo_upd]
          have : Same (wo H2 r) (wo (upd H2 t (.lst [nV l.1, nV l.2])) r) := wo_mono (same_new nt)
          exact e2.trans this
        · rw [upd_same, take_snoc el, tellM_snoc, ← List.cons_append, List.map_append]; rfl
    · rintro σ H2 ⟨c, rfl, e2, h2⟩
      rw [hlen, List.take_length] at h2
      exact ⟨_, rfl, q _ _ (e2.trans (wo_same _ _)) ⟨r, rfl, h2⟩⟩

/-- a list with its length before it -/
theorem count_list {l : List Nat} : nV (l.map nV).length :: l.map nV = (((l.length : Nat) : Int) :: l.map Int.ofNat).map V.int := by
  rw [List.length_map, toV_ints]; rfl
theorem k_look_chosen {CD CM : Addr} (B : Plain mg) (TD : DeskC K CD) (kc : KeptM P w K mg base 3 CD "chosen" (sp_Desk_chosen CD CM)) (D : Here K mg "look_chosen" s_look_chosen ["desk", "numbers"]) : Kept P w K mg base 4 "look_chosen" (spLook CD CM 17) := by
  refine kept_of D sc_look_chosen (fun vs H Q E h => ?_) (fun f cdv A outer s H vs Q E hr h => ?_)
  · obtain ⟨a, nums, x, y, c, rfl, _⟩ := h; rfl
  · obtain ⟨a, nums, x, y, c, rfl, hD, ok, hy, hin, hc, q⟩ := h
    cases hc
    rw [lk_chosen] at q
    obtain ⟨p, dx, l, o, m, rfl, hp, V0⟩ := id hD
    -- desk 0, numbers 1, chosen 2
    refine ⟨_, pss_cons (ps_set (i := 2) sc_look_chosen.nd rfl (.inl rfl) (pgm0 kc TD.cl hr (pv 0)))
      (pss_one (ps_ret (pe_op op_cat (pe_lst (pa_cons (pe_callB call_len_seq (by rfl) B.len PySem.boot_len (pa_cons (pv 2) pa_nil)) pa_nil)) (pv 2)))), ?_⟩
    have hn := ok.n8
    have hle : (Kv404.list_ a.g.n a.s).length ≤ 8 := by
      have := List.length_filter_le (Kv404.in_ a.s) (List.range a.g.n)
      rw [List.length_range] at this
      exact Nat.le_trans this hn
    refine ⟨_, rfl, p, dx, _, rfl, hp, no_chosen, a, _, rfl, hD, ok, fun H1 z e1 hz => ?_⟩
    obtain ⟨za, rfl, hza'⟩ := ints_at hz
    have hza := new_sub _ _ _ _ hza'
    refine ⟨_, rfl, za, _, rfl, .inl (SqL.of hza), (by show 1 ≤ sizeLine; decide), fun t nt => ?_⟩
    have s1 := same_new (o := .lst [V.int (((Kv404.list_ a.g.n a.s).map nV).length : Nat)]) nt
    refine ⟨_, rfl, t, za, _, _, rfl, rfl, upd_same, s1 _ _ hza, ?_, fun t2 nt2 => ?_⟩
    · rw [List.length_map]
      show 1 + _ ≤ _
      exact Nat.le_of_lt (size100 (by omega))
    · refine q _ _ (e1.trans (s1.trans (same_new nt2))) ⟨t2, rfl, ?_⟩
      rw [upd_same, ← count_list]; rfl
theorem k_look_route {CD CM : Addr} (B : Plain mg) (TD : DeskC K CD) (kw : KeptM P w K mg base 3 CD "message_way" (sp_message_way CD CM)) (D : Here K mg "look_route" s_look_route ["desk", "numbers"]) : Kept P w K mg base 4 "look_route" (spLook CD CM 19) := by
  refine kept_of D sc_look_route (fun vs H Q E h => ?_) (fun f cdv A outer s H vs Q E hr h => ?_)
  · obtain ⟨a, nums, x, y, c, rfl, _⟩ := h; rfl
  · obtain ⟨a, nums, x, y, c, rfl, hD, ok, hy, hin, hc, q⟩ := h
    cases hc with
    | route u v _ _ =>
    obtain ⟨hu, hv⟩ := two_in hin
    rw [lk_route, pair_in hu hv] at q
    obtain ⟨p, dx, l, o, m, rfl, hp, V0⟩ := id hD
    obtain ⟨ya, rfl, hya⟩ := ints_at hy
    -- desk 0, numbers 1, way 2
    refine ⟨_, pss_cons (ps_set (i := 2) sc_look_route.nd rfl (.inl rfl) (pgm kw TD.cl hr (pv 0) (pa_cons (pe_ix ix_list (pv 1) pe_int (fun _ _ => rfl)) (pa_cons (pe_ix ix_list (pv 1) pe_int (fun _ _ => rfl)) pa_nil))))
      (pss_one (ps_ret (pe_op op_cat (pe_lst (pa_cons (pe_callB call_len_seq (by rfl) B.len PySem.boot_len (pa_cons (pv 2) pa_nil)) pa_nil)) (pv 2)))), ?_⟩
    have hn := ok.n8
    obtain ⟨hle, _⟩ := route_len ok.base.fine (ch := a.s) hu hv
    rw [← route_eq ok] at hle
    refine ⟨_, rfl, p, dx, _, rfl, hp, no_message_way, _, rfl, ya, _, _, _, rfl, rfl, SqL.of hya, rfl, _, rfl, ya, _, _, _, rfl, rfl, SqL.of hya, rfl, a, u, v, _, rfl, hD, ok, hu, hv, fun H1 z e1 hz => ?_⟩
    generalize a.route u v = rt at q hle hz
    obtain ⟨za, rfl, hza'⟩ := ints_at hz
    have hza := new_sub _ _ _ _ hza'
    refine ⟨_, rfl, za, _, rfl, .inl (SqL.of hza), (by show 1 ≤ sizeLine; decide), fun t nt => ?_⟩
    have s1 := same_new (o := .lst [V.int ((rt.map nV).length : Nat)]) nt
    refine ⟨_, rfl, t, za, _, _, rfl, rfl, upd_same, s1 _ _ hza, ?_, fun t2 nt2 => ?_⟩
    · rw [List.length_map]
      show 1 + _ ≤ _
      exact Nat.le_of_lt (size100 (by omega))
    · refine q _ _ (e1.trans (s1.trans (same_new nt2))) ⟨t2, rfl, ?_⟩
      rw [upd_same, ← count_list]; rfl
theorem k_look_comes {CD CM : Addr} (TD : DeskC K CD) (km : KeptM P w K mg base 4 CD "message_goes" (sp_message_goes CD CM)) (D : Here K mg "look_comes" s_look_comes ["desk", "numbers"]) : Kept P w K mg base 5 "look_comes" (spLook CD CM 20) := by
  refine kept_of D sc_look_comes (fun vs H Q E h => ?_) (fun f cdv A outer s H vs Q E hr h => ?_)
  · obtain ⟨a, nums, x, y, c, rfl, _⟩ := h; rfl
  · obtain ⟨a, nums, x, y, c, rfl, hD, ok, hy, hin, hc, q⟩ := h
    cases hc with
    | comes u v _ _ =>
    obtain ⟨hu, hv⟩ := two_in hin
    rw [lk_comes, pair_in hu hv] at q
    obtain ⟨p, dx, l, o, m, rfl, hp, V0⟩ := id hD
    obtain ⟨ya, rfl, hya⟩ := ints_at hy
    refine ⟨_, pss_one (ps_ret (pe_lst (pa_cons (pe_ifExp (pt_cmpR op_isN (pgm km TD.cl hr (pv 0) (pa_cons (pe_ix ix_list (pv 1) pe_int (fun _ _ => rfl)) (pa_cons (pe_ix ix_list (pv 1) pe_int (fun _ _ => rfl)) pa_nil))) pe_non (nomark _)) pe_int pe_int) pa_nil))), ?_⟩
    refine ⟨_, rfl, p, dx, _, rfl, hp, no_message_goes, _, rfl, ya, _, _, _, rfl, rfl, SqL.of hya, rfl, _, rfl, ya, _, _, _, rfl, rfl, SqL.of hya, rfl, a, u, v, _, rfl, hD, ok, hu, hv, fun H1 e1 => ?_⟩
    rw [howFar_eq]
    refine ⟨rfl, _, rfl, ?_⟩
    by_cases hc : a.comes u v = true
    · rw [if_pos hc]
      rw [hc] at q
      exact ifF rfl ⟨by show 1 ≤ sizeLine; decide, fun t nt => q _ _ (e1.trans (same_new nt)) ⟨t, rfl, upd_same⟩⟩
    · rw [if_neg hc]
      have hc' : a.comes u v = false := by simpa using hc
      rw [hc'] at q
      exact ifT rfl ⟨by show 1 ≤ sizeLine; decide, fun t nt => q _ _ (e1.trans (same_new nt)) ⟨t, rfl, upd_same⟩⟩
theorem k_look_count {CD CM : Addr} (TD : DeskC K CD) (D : Here K mg "look_count" s_look_count ["desk", "numbers"]) : Kept P w K mg base 1 "look_count" (spLook CD CM 24) := by
  refine kept_of D sc_look_count (fun vs H Q E h => ?_) (fun f cdv A outer s H vs Q E hr h => ?_)
  · obtain ⟨a, nums, x, y, c, rfl, _⟩ := h; rfl
  · obtain ⟨a, nums, x, y, c, rfl, ⟨p, dx, l, o, m, rfl, hp, V0⟩, ok, hy, hin, hc, q⟩ := h
    cases hc
    rw [lk_count] at q
    refine ⟨_, pss_one (ps_ret (pe_lst (pa_cons (pe_fld (pv 0) rfl) (pa_cons (pe_fld (pv 0) rfl) (pa_cons (pe_fld (pv 0) rfl) pa_nil))))), ?_⟩
    unfold deskOf at hp
    exact ⟨_, rfl, p, CD, dx, _, _, rfl, hp, TD.cl, TD.sent, get_sent, _, rfl, p, CD, dx, _, _, rfl, hp, TD.cl, TD.lost, get_lost, _, rfl, p, CD, dx, _, _, rfl, hp, TD.cl, TD.gone, get_gone, by show 3 ≤ sizeLine; decide, fun t nt => q _ _ (same_new nt) ⟨t, rfl, upd_same⟩⟩
theorem k_look_sizes {CD CM : Addr} (B : Plain mg) (TD : DeskC K CD) (TM : MadeC K CM) (k1 : KeptM P w K mg base 3 CM "count_near" (sp_count_near CM)) (k2 : KeptM P w K mg base 3 CD "chosen" (sp_Desk_chosen CD CM)) (k3 : KeptM P w K mg base 1 CM "count_marks" (sp_count_marks CM))
    (k4 : KeptM P w K mg base 1 CM "count_entries" (sp_count_entries CM)) (D : Here K mg "look_sizes" s_look_sizes ["desk", "numbers"]) : Kept P w K mg base 4 "look_sizes" (spLook CD CM 22) := by
  refine kept_of D sc_look_sizes (fun vs H Q E h => ?_) (fun f cdv A outer s H vs Q E hr h => ?_)
  · obtain ⟨a, nums, x, y, c, rfl, _⟩ := h; rfl
  · obtain ⟨a, nums, x, y, c, rfl, hD, ok, hy, hin, hc, q⟩ := h
    cases hc
    rw [lk_sizes] at q
    obtain ⟨p, dx, l, o, m, rfl, hp, V0⟩ := id hD
    -- desk 0, numbers 1, made 2, near 3
    refine ⟨_, pss_cons (ps_set (i := 2) sc_look_sizes.nd rfl (.inl rfl) (pe_fld (pv 0) rfl))
      (pss_cons (ps_set (i := 3) sc_look_sizes.nd rfl (.inl rfl) (pe_op op_add (pgm0 k1 TM.cl hr (pv 2)) (pe_op op_mul (pe_fld (pv 0) rfl) (pe_callB call_len_seq (by rfl) B.len PySem.boot_len (pa_cons (pgm0 k2 TD.cl hr (pv 0)) pa_nil)))))
      (pss_one (ps_ret (pe_lst (pa_cons pe_int (pa_cons (pe_callB call_len_seq (by rfl) B.len PySem.boot_len (pa_cons (pe_fld (pv 2) rfl) pa_nil)) (pa_cons (pgm0 k3 TM.cl hr (pv 2)) (pa_cons (pv 3) (pa_cons (pgm0 k4 TM.cl hr (pv 2)) pa_nil))))))))), ?_⟩
    have hn := ok.n8
    have hM := V0.m
    obtain ⟨mp, dm, ma, mb, mc, mn, md, me, mf, rfl, hm, _, hB, _⟩ := id hM
    obtain ⟨ba, bs, rfl, hba, pb⟩ := hB
    unfold deskOf at hp
    refine ⟨_, rfl, p, CD, dx, _, _, rfl, hp, TD.cl, TD.made, get_made, ?_⟩
    refine ⟨_, rfl, mp, dm, _, rfl, hm, no_count_near, a, _, rfl, hM, ok, fun H1 e1 => ?_⟩
    refine ⟨_, rfl, p, CD, dx, _, _, rfl, e1 _ _ hp, TD.cl, TD.places, get_places, ?_⟩
    refine ⟨_, rfl, p, dx, _, rfl, e1 _ _ hp, no_chosen, a, _, rfl, stays_desk _ _ _ _ e1 hD, ok, fun H2 z e2 hz => ?_⟩
    obtain ⟨za, rfl, hza'⟩ := ints_at hz
    have hza := new_sub _ _ _ _ hza'
    refine ⟨za, _, rfl, .inl (SqL.of hza), _, _, rfl, rfl, .inl ⟨by omega, by omega⟩, _, _, rfl, rfl, ?_⟩
    have s2 := e1.trans e2
    refine ⟨_, rfl, mp, CM, dm, _, _, rfl, s2 _ _ hm, TM.cl, TM.base, rfl, ba, bs, rfl, .inl (SqL.of (s2 _ _ hba)), ?_⟩
    refine ⟨_, rfl, mp, dm, _, rfl, s2 _ _ hm, no_count_marks, a, _, rfl, stays_made _ _ _ _ s2 hM, ok, fun H3 e3 => ?_⟩
    have s3 := s2.trans e3
    refine ⟨_, rfl, _, rfl, mp, dm, _, rfl, s3 _ _ hm, no_count_entries, a, _, rfl, stays_made _ _ _ _ s3 hM, ok, fun H4 e4 => ?_⟩
    refine ⟨by show 5 ≤ sizeLine; decide, fun t nt => q _ _ (s3.trans (e4.trans (same_new nt))) ⟨t, rfl, ?_⟩⟩
    rw [upd_same]
    have e5 : a.sizes = [a.base.lines.length, Kv403.size a.marks, nearSum a + a.g.n * (Kv404.list_ a.g.n a.s).length, Kv405.tables a.base a.base.table a.s] := by
      rw [← near_all ok]; rfl
    have e6 : bs.length = a.base.lines.length := Paired.len pb
    rw [e5, List.length_map, e6]
    rfl
end
end Nk
set_option Elab.async false
set_option maxRecDepth 100000
set_option maxHeartbeats 4000000
namespace Nk
open PySem PySem.Spec PyProof.Rows L2
open Kv406 (Now)
/-- a call of whatever def the i-th slot holds, by its promise -/
def tCallH (P : Program) (w : World) (K : PySem.W.Frag) (mg : Str → Option Value) (base : Heap) (m i : Nat) (t : TA) : TE := fun σ H Q => ∃ f sp, σ[i]? = some (some (.ref f)) ∧ HeldLe P w K mg base m f sp ∧ t σ H fun vs H1 => sp vs H1 Q E0
section
variable {X : Cx} {m j i : Nat} {x : Str} {p pos : Pos} {e : Expr} {es : List Expr} {t : TA}
theorem pgh (hr : Room j X.A) (ha : PA X (e :: es) t) (hN : X.N[i]? = some x := by rfl) (hv : Vis X.env.scope x := by exact Or.inl rfl) (hk : m ≤ j := by decide)
    (hdb : (x == ("__debug__" : Str)) = false := by decide) (hcd : (x == ("__classdict__" : Str)) = false := by decide)
    (he : starEach (e :: es) X.env = (false, eval e X.env) :: starEach es X.env := by rfl) (hpl : (backTo pos (starEach es X.env)).any (·.1) = false := by rfl) : PE X (.Call (.Name x p) (e :: es) [] pos) (tCallH X.prog X.w X.K X.mg X.base m i t) := by
  refine ⟨fun pins s σ H Q I h => ?_⟩
  obtain ⟨f, sp, hs, hH, ht⟩ := h
  refine (pgl (i := i) (f := f) (sp := sp) hH hr ha hN hv hk hdb hcd he hpl).run pins s σ H Q I ⟨hs, ?_⟩
  have e0 : (fun (vs : List V) (H1 : Hp) => sp (vs ++ []) H1 Q E0) = fun vs H1 => sp vs H1 Q E0 := by
    funext vs H1
    rw [List.append_nil]
  show t σ H (fun vs H1 => sp (vs ++ []) H1 Q E0)
  rw [e0]
  exact ht
end
section
variable {P : Program} {w : World} {K : PySem.W.Frag} {mg : Str → Option Value} {base : Heap}
/-- the tuple of what compare tells -/
structure Comp (P : Program) (w : World) (K : PySem.W.Frag) (mg : Str → Option Value) (base : Heap) (CD CM aC : Addr) (L : List (Addr × PF)) : Prop where
  g : mg "COMPARED" = some (.ref aC)
  t : ∀ H, SqT K H aC (L.map fun q => V.ref q.1)
  held : ∀ q ∈ L, HeldLe P w K mg base 5 q.1 (spPair CD CM q.2)
  fs : L.map Prod.snd = [pLand, pBase, pMarks, pChosen, pMessage]
theorem comp_row {L : List (Addr × PF)} (h : L.map Prod.snd = [pLand, pBase, pMarks, pChosen, pMessage]) (a : Now) (u v : Nat) :
    (L.map fun q => Kv406.num' (q.2 a u v)) = [Kv406.num' (pLand a u v), Kv406.num' (pBase a u v), Kv406.num' (pMarks a u v), Kv406.num' (pChosen a u v), Kv406.num' (pMessage a u v)] := by
  have : (L.map fun q => Kv406.num' (q.2 a u v)) = (L.map Prod.snd).map fun F => Kv406.num' (F a u v) := by rw [List.map_map]; rfl
  rw [this, h]; rfl
theorem k_look_compare {CD CM aC : Addr} {L : List (Addr × PF)} (cMiss : ∃ t, mg "MISSING" = some (.int (-1) t)) (T : Comp P w K mg base CD CM aC L) (D : Here K mg "look_compare" s_look_compare ["desk", "numbers"]) : Kept P w K mg base 6 "look_compare" (spLook CD CM 23) := by
  obtain ⟨tk, cM⟩ := cMiss
  refine kept_of D sc_look_compare (fun vs H Q E h => ?_) (fun f cdv A outer s H vs Q E hr h => ?_)
  · obtain ⟨a, nums, x, y, c, rfl, _⟩ := h; rfl
  · obtain ⟨a, nums, x, y, c, rfl, hD, ok, hy, hin, hc, q⟩ := h
    cases hc with
    | compare u v _ _ =>
    obtain ⟨hu, hv⟩ := two_in hin
    have hrow := comp_row T.fs a u v
    have hlen : L.length = 5 := by rw [← List.length_map (f := Prod.snd), T.fs]; rfl
    rw [lk_compare, pair_in hu hv] at q
    have hsz : 1000 < sizeLine := by decide
    -- desk 0, numbers 1, answer 2, tell 3, told 4
    refine ⟨_, pss_cons (ps_set (i := 2) sc_look_compare.nd rfl (.inl rfl) (pe_lst (pa_cons pe_int pa_nil)))
      (pss_cons (ps_for PassesOwn.never rfl (pi_tup (pe_glob (v := .ref aC) rfl T.g rfl)) (pg_name (i := 3) sc_look_compare.nd rfl (.inl rfl))
        (pss_cons (ps_set (i := 4) sc_look_compare.nd rfl (.inl rfl) (pgh (i := 3) (m := 5) hr (pa_cons (pv 0) (pa_cons (pe_ix ix_list (pv 1) pe_int (fun _ _ => rfl)) (pa_cons (pe_ix ix_list (pv 1) pe_int (fun _ _ => rfl)) pa_nil)))))
        (pss_one (ps_expr (pe_bm PySem.F.plainAttrs_list PySem.F.slot_list_append PySem.F.type_list_append mt_append (pv 2) (pa_cons (pe_ifExp (pt_cmpR op_isN (pv 4) pe_non (nomark _)) (pe_glob (v := .int (-1)) rfl cM ⟨_, rfl⟩) (pv 4)) pa_nil))))))
      (pss_one (ps_ret (pv 2)))), ?_⟩
    obtain ⟨p, dx, l, o, m, rfl, hp, V0⟩ := id hD
    obtain ⟨ya, rfl, hya⟩ := ints_at hy
    refine ⟨by show 1 ≤ sizeLine; decide, fun r nr => ?_⟩
    refine ⟨aC, rfl, ⟨_, T.t _⟩, for_tup (K := K) (a := aC) (xs := L.map fun q => V.ref q.1)
      (fun i σ H' => (∃ c d, σ = [some (.ref p), some (.ref ya), some (.ref r), c, d]) ∧ Same H (wo H' r) ∧ H' r = some (.lst ((0 :: (L.take i).map fun q => Kv406.num' (q.2 a u v)).map V.int)))
      ⟨⟨_, _, rfl⟩, by rw [wo_upd]; exact same_wo (Same.refl _) nr, by rw [upd_same]; rfl⟩ (fun i σ H' _ _ => T.t _) ?_ ?_⟩
    · rintro i z σ H2 hi ⟨⟨c, d, rfl⟩, e2, h2⟩
      rw [List.getElem?_map] at hi
      obtain ⟨k, ek, rfl⟩ := Option.map_eq_some_iff.1 hi
      have hil : i < L.length := (List.getElem?_eq_some_iff.mp ek).1
      have s2 : Same H H2 := e2.trans (wo_same _ _)
      have hya2 := s2 _ _ hya
      refine ⟨k.1, spPair CD CM k.2, rfl, T.held k (List.mem_of_getElem? ek), _, rfl, _, rfl, ya, _, _, _, rfl, rfl, SqL.of hya2, rfl, _, rfl, ya, _, _, _, rfl, rfl, SqL.of hya2, rfl, a, u, v, _, rfl, stays_desk _ _ _ _ s2 hD, ok, hu, hv, fun H3 e3 => ?_⟩
      have h3 := e3 _ _ h2
      have w3 : Same H (wo H3 r) := e2.trans (wo_mono e3)
      have fin : ∀ (cc dd : Option V) (z : Int), z = Kv406.num' (k.2 a u v) → (∃ c d, ([some (V.ref p), some (V.ref ya), some (V.ref r), cc, dd] : L2.St) = [some (.ref p), some (.ref ya), some (.ref r), c, d]) ∧ Same H (wo (upd H3 r (.lst (((0 :: (L.take i).map fun q => Kv406.num' (q.2 a u v)).map V.int) ++ [V.int z]))) r) ∧
          (upd H3 r (.lst (((0 :: (L.take i).map fun q => Kv406.num' (q.2 a u v)).map V.int) ++ [V.int z]))) r = some (.lst ((0 :: (L.take (i + 1)).map fun q => Kv406.num' (q.2 a u v)).map V.int)) := fun cc dd z ez => by
        refine ⟨⟨_, _, rfl⟩, by rw [wo_upd]; exact w3, ?_⟩
        rw [upd_same, take_snoc ek, List.map_append, ← List.cons_append, List.map_append, ez]; rfl
      have hl3 : ((0 :: (L.take i).map fun q => Kv406.num' (q.2 a u v)).map V.int).length + 1 ≤ sizeLine := by
        rw [List.length_map, List.length_cons, List.length_map, List.length_take]; omega
      refine ⟨_, rfl, .inl ⟨rfl, _, SqL.of h3⟩, _, rfl, rfl, _, rfl, ?_⟩
      cases e : k.2 a u v with
      | none => exact ifT rfl ⟨r, _, _, rfl, rfl, h3, hl3, fin _ _ _ (by rw [e]; rfl)⟩
      | some d0 => exact ifF rfl ⟨_, rfl, r, _, _, rfl, rfl, h3, hl3, fin _ _ _ (by rw [e]; rfl)⟩
    · rintro σ H2 ⟨⟨c, d, rfl⟩, e2, h2⟩
      rw [List.length_map, List.take_length, hrow] at h2
      exact ⟨_, rfl, q _ _ (e2.trans (wo_same _ _)) ⟨r, rfl, h2⟩⟩

/-- the calls that tell one number of two places -/
def isPair (p : Nat) : Bool := p == 13 || p == 14 || p == 16 || p == 18 || p == 21
def pF : Nat → PF
  | 13 => pLand
  | 14 => pBase
  | 16 => pMarks
  | 18 => pChosen
  | _ => pMessage
theorem lk_pair {a : Now} {p : Nat} {nums : List Nat} {c : Kv406.Call} (hc : Req p nums c) (h : isPair p = true) : ∃ u v, nums = [u, v] ∧ Kv406Neutral.row (lk a c) = pairAns a u v (optR (pF p a u v)) := by
  cases hc with
  | dist u v _ _ => exact ⟨u, v, rfl, lk_dist a u v⟩
  | kept u v _ _ => exact ⟨u, v, rfl, lk_kept a u v⟩
  | bymarks u v _ _ => exact ⟨u, v, rfl, lk_bymarks a u v⟩
  | bychosen u v _ _ => exact ⟨u, v, rfl, lk_bychosen a u v⟩
  | length u v _ _ => exact ⟨u, v, rfl, lk_length a u v⟩
  | _ => cases h
theorem pair_out {a : Now} {u v : Nat} {r : List Int} (h : ([u, v].all fun k => decide (k < a.g.n)) = false) : pairAns a u v r = [-2] := by
  unfold pairAns
  rw [if_neg]
  intro z
  simp [z.1, z.2] at h
theorem lk_refuse {a : Now} {p : Nat} {nums : List Nat} {c : Kv406.Call} (hc : Req p nums c) (h1 : 10 ≤ p) (h2 : p ≤ 24) (h : (nums.all fun k => decide (k < a.g.n)) = false) : Kv406Neutral.row (lk a c) = [-2] := by
  cases hc with
  | dist u v _ _ => rw [lk_dist]; exact pair_out h
  | kept u v _ _ => rw [lk_kept]; exact pair_out h
  | bymarks u v _ _ => rw [lk_bymarks]; exact pair_out h
  | bychosen u v _ _ => rw [lk_bychosen]; exact pair_out h
  | length u v _ _ => rw [lk_length]; exact pair_out h
  | route u v _ _ => rw [lk_route]; exact pair_out h
  | comes u v _ _ => rw [lk_comes]; exact pair_out h
  | compare u v _ _ => rw [lk_compare]; exact pair_out h
  | marks v _ =>
    rw [lk_marks, if_neg]
    intro z
    simp [z] at h
  | lines => exact absurd (show true = false from h) (by decide)
  | base => exact absurd (show true = false from h) (by decide)
  | fresh => exact absurd (show true = false from h) (by decide)
  | chosen => exact absurd (show true = false from h) (by decide)
  | sizes => exact absurd (show true = false from h) (by decide)
  | count => exact absurd (show true = false from h) (by decide)
  | _ => omega
theorem req_len {p : Nat} {nums : List Nat} {c : Kv406.Call} (hc : Req p nums c) : nums.length ≤ 100 := by
  cases hc with
  | order l h _ => omega
  | _ => first | (show 0 ≤ 100; omega) | (show 1 ≤ 100; omega) | (show 2 ≤ 100; omega) | (show 3 ≤ 100; omega)
/-- the dicts of looks -/
structure Looks (P : Program) (w : World) (K : PySem.W.Frag) (mg : Str → Option Value) (base : Heap) (CD CM : Addr) (a2 a1 : Addr) (kv2 kv1 : List (Key × V)) : Prop where
  d2 : KD P w K a2 kv2
  g2 : mg "OF_TWO_PLACES" = some (.ref a2)
  yes2 : ∀ p : Nat, isPair p = true → ∃ f, valV kv2 (Sum.inl ((p : Nat) : Int)) = some (.ref f) ∧ HeldLe P w K mg base 5 f (spPair CD CM (pF p))
  no2 : ∀ p : Nat, isPair p = false → valV kv2 (Sum.inl ((p : Nat) : Int)) = none
  d1 : KD P w K a1 kv1
  g1 : mg "LOOKS" = some (.ref a1)
  yes1 : ∀ p : Nat, 10 ≤ p → p ≤ 24 → isPair p = false → ∃ f, valV kv1 (Sum.inl ((p : Nat) : Int)) = some (.ref f) ∧ HeldLe P w K mg base 6 f (spLook CD CM p)
def sp_look (CD CM : Addr) : Sp := fun vs H Q _ => ∃ a p nums x y c, vs = [x, nV p, y] ∧ rDesk CD CM H x a ∧ NowOk a ∧ rInts H y nums ∧ 10 ≤ p ∧ p ≤ 24 ∧ Req p nums c ∧ ∀ H' z, Same H H' → rZs H' z (Kv406Neutral.row (lk a c)) → Q z H'
theorem k_look {CD CM a2 a1 : Addr} {kv2 kv1 : List (Key × V)} (Cn : Consts mg) (TD : DeskC K CD) (kh : KeptM P w K mg base 1 CD "has_places" (sp_has_places CD)) (T : Looks P w K mg base CD CM a2 a1 kv2 kv1) (D : Here K mg "look" s_look ["desk", "call", "numbers"]) :
    Kept P w K mg base 7 "look" (sp_look CD CM) := by
  obtain ⟨tk2, cN⟩ := Cn.noSuch
  obtain ⟨tk3, cM⟩ := Cn.noneThere
  refine kept_of D sc_look (fun vs H Q E h => ?_) (fun f cdv A outer s H vs Q E hr h => ?_)
  · obtain ⟨a, p, nums, x, y, c, rfl, _⟩ := h; rfl
  · obtain ⟨a, p, nums, x, y, c, rfl, hD, ok, hy, h1, h24, hc, q⟩ := h
    -- desk 0, call 1, numbers 2, tell 3, told 4, act 5
    refine ⟨_, pss_cons (ps_if (pt_not (pt_val (pgm kh TD.cl hr (pv 0) (pa_cons (pv 2) pa_nil)))) (pss_one (ps_ret (pe_lst (pa_cons (pe_glob (v := .int (-2)) rfl cN ⟨_, rfl⟩) pa_nil)))) pss_nil)
      (pss_cons (ps_if (pt_cmp (pc_kin T.d2 (pv 1) (pe_glob (v := .ref a2) rfl T.g2 rfl)))
        (pss_cons (ps_set (i := 3) sc_look.nd rfl (.inl rfl) (pe_kget T.d2 (pe_glob (v := .ref a2) rfl T.g2 rfl) (pv 1) (fun _ _ => rfl)))
        (pss_cons (ps_set (i := 4) sc_look.nd rfl (.inl rfl) (pgh (i := 3) (m := 5) hr (pa_cons (pv 0) (pa_cons (pe_ix ix_list (pv 2) pe_int (fun _ _ => rfl)) (pa_cons (pe_ix ix_list (pv 2) pe_int (fun _ _ => rfl)) pa_nil)))))
        (pss_one (ps_ret (pe_lst (pa_cons (pe_ifExp (pt_cmpR op_isN (pv 4) pe_non (nomark _)) (pe_glob (v := .int (-33)) rfl cM ⟨_, rfl⟩) (pv 4)) pa_nil)))))) pss_nil)
      (pss_cons (ps_set (i := 5) sc_look.nd rfl (.inl rfl) (pe_kget T.d1 (pe_glob (v := .ref a1) rfl T.g1 rfl) (pv 1) (fun _ _ => rfl)))
      (pss_one (ps_ret (pgh (i := 5) (m := 6) hr (pa_cons (pv 0) (pa_cons (pv 2) pa_nil))))))), ?_⟩
    obtain ⟨pd, dx, l, o, m, rfl, hp, V0⟩ := id hD
    obtain ⟨ya, rfl, hya⟩ := ints_at hy
    unfold deskOf at hp
    refine ⟨_, rfl, pd, dx, _, rfl, hp, no_has_places, _, rfl, a.g.n, l, a.t, o, a.s, a.sent, a.lost, a.far, m, pd, dx, nums, _, rfl, hp, hy, req_len hc, fun H0 e0 => ⟨_, rfl, ?_⟩⟩
    show if (!(nums.all fun k => decide (k < a.g.n))) = true then _ else _
    cases hall : nums.all fun k => decide (k < a.g.n) with
    | false =>
      rw [lk_refuse hc h1 h24 hall] at q
      exact iteT ⟨by show 1 ≤ sizeLine; decide, fun t nt => q _ _ (e0.trans (same_new nt)) ⟨t, rfl, upd_same⟩⟩
    | true =>
      have hin : ∀ k ∈ nums, k < a.g.n := fun k hk => of_decide_eq_true (List.all_eq_true.1 hall k hk)
      have hD0 := stays_desk _ _ _ _ e0 hD
      have hya0 := e0 _ _ hya
      refine iteF ⟨_, rfl, Sum.inl ((p : Nat) : Int), rfl, rfl, _, rfl, ?_⟩
      cases hpr : isPair p with
      | true =>
        obtain ⟨f2, hf2, C2⟩ := T.yes2 p hpr
        obtain ⟨u, v, rfl, er⟩ := lk_pair (a := a) hc hpr
        obtain ⟨hu, hv⟩ := two_in hin
        rw [er, pair_in hu hv] at q
        have es : (valV kv2 (Sum.inl ((p : Nat) : Int))).isSome = true := by rw [hf2]; rfl
        rw [es]
        refine iteT ⟨_, rfl, Sum.inl ((p : Nat) : Int), _, rfl, rfl, hf2, ?_⟩
        refine ⟨f2, spPair CD CM (pF p), rfl, C2, _, rfl, _, rfl, ya, _, _, _, rfl, rfl, SqL.of hya0, rfl, _, rfl, ya, _, _, _, rfl, rfl, SqL.of hya0, rfl, a, u, v, _, rfl, hD0, ok, hu, hv, fun H3 e3 => ?_⟩
        refine ⟨_, rfl, rfl, _, rfl, ?_⟩
        cases e : pF p a u v with
        | none =>
          rw [e] at q
          exact ifT rfl ⟨by show 1 ≤ sizeLine; decide, fun t nt => q _ _ (e0.trans (e3.trans (same_new nt))) ⟨t, rfl, upd_same⟩⟩
        | some d =>
          rw [e] at q
          exact ifF rfl ⟨_, rfl, by show 1 ≤ sizeLine; decide, fun t nt => q _ _ (e0.trans (e3.trans (same_new nt))) ⟨t, rfl, upd_same⟩⟩
      | false =>
        obtain ⟨f1, hf1, C1⟩ := T.yes1 p h1 h24 hpr
        rw [T.no2 p hpr]
        refine iteF ⟨_, rfl, Sum.inl ((p : Nat) : Int), _, rfl, rfl, hf1, ?_⟩
        exact ⟨f1, spLook CD CM p, rfl, C1, _, rfl, _, rfl, a, nums, _, _, c, rfl, hD0, ok, stays_ints _ _ _ _ e0 hy, hin, hc, fun H' z s hz => q _ _ (e0.trans s) hz⟩
end
end Nk
set_option Elab.async false
set_option maxRecDepth 100000
set_option maxHeartbeats 4000000
namespace Nk
open PySem PySem.Spec PyProof.Rows L2
open Kv406 (Now)
theorem req_le {p : Nat} {nums : List Nat} {c : Kv406.Call} (hc : Req p nums c) : p ≤ 26 := by
  cases hc <;> omega
section
variable {P : Program} {w : World} {K : PySem.W.Frag} {mg : Str → Option Value} {base : Heap}
def sp_tell_state (CO CD CM : Addr) : Sp := fun vs H Q _ => ∃ po a, vs = [.ref po] ∧ OffIn CO CD CM H po (some a) ∧
  ∀ H' z, Same (wo H po) (wo H' po) → OffIn CO CD CM H' po (some (a.does .state).1) → rZs H' z (Kv406Neutral.row (a.does .state).2) → Q z H'
theorem k_tell_state {CO CD CM : Addr} (B : Plain mg) (TO : OfficeC K CO) (TD : DeskC K CD) (D : HereM K CO "tell_state" "Office.tell_state" s_Office_tell_state ["self"]) : KeptM P w K mg base 1 CO "tell_state" (sp_tell_state CO CD CM) := by
  refine keptM_of D sc_Office_tell_state (fun vs H Q E h => ?_) (fun f cdv A outer s H vs Q E hr h => ?_)
  · obtain ⟨po, a, rfl, _⟩ := h; rfl
  · obtain ⟨po, a, rfl, ⟨dx, d, p, hp, hd, hP, ok⟩, q⟩ := h
    -- self 0, desk 1
    refine ⟨_, pss_cons (ps_set (i := 1) sc_Office_tell_state.nd rfl (.inl rfl) (pe_fld (pv 0) rfl))
      (pss_one (ps_ret (pe_lst (pa_cons (pe_fld (pv 1) rfl) (pa_cons (pe_callB call_len_seq (by rfl) B.len PySem.boot_len (pa_cons (pe_fld (pv 1) rfl) pa_nil)) (pa_cons (pe_fld (pv 1) rfl) (pa_cons (pe_fld (pv 1) rfl)
        (pa_cons (pe_callB call_len_seq (by rfl) B.len PySem.boot_len (pa_cons (pe_fld (pv 0) rfl) pa_nil)) pa_nil)))))))), ?_⟩
    obtain ⟨x, ddx, l, o, m, rfl, hx0, V0⟩ := id hd
    obtain ⟨la, ls, rfl, hla0, pl⟩ := id V0.l
    obtain ⟨pa, ps, rfl, hpa0, pp⟩ := id hP
    have w0 := wo_same H po
    have hx := w0 _ _ hx0
    have hla := w0 _ _ hla0
    have hpa := w0 _ _ hpa0
    unfold deskOf at hx
    have plen := Paired.len pp
    rw [List.length_reverse] at plen
    refine ⟨_, rfl, po, CO, dx, _, _, rfl, hp, TO.cl, TO.desk, get_desk, ?_⟩
    refine ⟨_, rfl, x, CD, ddx, _, _, rfl, hx, TD.cl, TD.places, get_places, _, rfl, x, CD, ddx, _, _, rfl, hx, TD.cl, TD.lines, get_lines, la, ls, rfl, .inl (SqL.of hla), _, rfl, x, CD, ddx, _, _, rfl, hx, TD.cl, TD.times, get_times,
      _, rfl, x, CD, ddx, _, _, rfl, hx, TD.cl, TD.choice, get_choice, _, rfl, po, CO, dx, _, _, rfl, hp, TO.cl, TO.past, get_past, pa, ps, rfl, .inl (SqL.of hpa), (by show 5 ≤ sizeLine; decide), fun t nt => ?_⟩
    have npt : po ≠ t := ne_of_none hp nt
    have wt := wo_mono (a := po) (same_new (o := .lst [nV a.now.g.n, V.int (ls.length : Nat), nV a.now.t, nV a.now.s, V.int (ps.length : Nat)]) nt)
    refine q _ _ wt ⟨dx, _, _, (upd_ne npt).trans hp, stays_desk _ _ _ _ wt hd, stays_L stays_desk _ _ _ _ wt hP, ok⟩ ⟨t, rfl, ?_⟩
    rw [upd_same]
    show _ = some (HO.lst [nV a.now.g.n, nV a.now.g.lines.length, nV a.now.t, nV a.now.s, nV a.past.length])
    rw [← plen, ← Paired.len pl]; rfl
theorem k_answer {CO CD CM : Addr} (Cn : Consts mg) (TO : OfficeC K CO) (cBegin : ∃ t, mg "BEGIN" = some (.int 0 t)) (cBack : ∃ t, mg "BACK" = some (.int 25 t)) (cState : ∃ t, mg "STATE" = some (.int 26 t))
    (kb : KeptM P w K mg base 9 CO "begin" (sp_begin CO CD CM)) (ko : KeptM P w K mg base 1 CO "take_on" (sp_take_on CO CD CM)) (kk : KeptM P w K mg base 1 CO "take_back" (sp_take_back CO CD CM)) (kt : KeptM P w K mg base 1 CO "tell_state" (sp_tell_state CO CD CM))
    (ki : Kept P w K mg base 1 "is_change" sp_is_change) (kc : Kept P w K mg base 10 "change" (sp_change CD CM)) (kl : Kept P w K mg base 7 "look" (sp_look CD CM))
    (D : HereM K CO "answer" "Office.answer" s_Office_answer ["self", "call", "numbers"]) : KeptM P w K mg base 12 CO "answer" (sp_answer CO CD CM) := by
  obtain ⟨tk1, cB⟩ := cBegin
  obtain ⟨tk2, cK⟩ := cBack
  obtain ⟨tk3, cN⟩ := Cn.notBegun
  obtain ⟨tk4, cS⟩ := cState
  refine keptM_of D sc_Office_answer (fun vs H Q E h => ?_) (fun f cdv A outer s H vs Q E hr h => ?_)
  · obtain ⟨po, st, p, nums, c, y, rfl, _⟩ := h; rfl
  · obtain ⟨po, st, p, nums, c, y, rfl, hOff, hy, hc, q⟩ := h
    -- self 0, call 1, numbers 2
    refine ⟨_, pss_cons (ps_if (pt_cmpR op_eq (pv 1) (pe_glob (v := .int 0) rfl cB ⟨_, rfl⟩) (nomark _)) (pss_one (ps_ret (pgm kb TO.cl hr (pv 0) (pa_cons (pe_ix ix_list (pv 2) pe_int (fun _ _ => rfl)) pa_nil)))) pss_nil)
      (pss_cons (ps_if (pt_cmpR op_isN (pe_fld (pv 0) rfl) pe_non (nomark _)) (pss_one (ps_ret (pe_lst (pa_cons (pe_glob (v := .int (-11)) rfl cN ⟨_, rfl⟩) pa_nil)))) pss_nil)
      (pss_cons (ps_if (pt_cmpR op_eq (pv 1) (pe_glob (v := .int 25) rfl cK ⟨_, rfl⟩) (nomark _)) (pss_one (ps_ret (pgm0 kk TO.cl hr (pv 0)))) pss_nil)
      (pss_cons (ps_if (pt_val (pgo ki hr (pa_cons (pv 1) pa_nil))) (pss_one (ps_ret (pgm ko TO.cl hr (pv 0) (pa_cons (pgo kc hr (pa_cons (pe_fld (pv 0) rfl) (pa_cons (pv 1) (pa_cons (pv 2) pa_nil)))) pa_nil)))) pss_nil)
      (pss_cons (ps_if (pt_cmpR op_eq (pv 1) (pe_glob (v := .int 26) rfl cS ⟨_, rfl⟩) (nomark _)) (pss_one (ps_ret (pgm0 kt TO.cl hr (pv 0)))) pss_nil)
      (pss_one (ps_ret (pgo kl hr (pa_cons (pe_fld (pv 0) rfl) (pa_cons (pv 1) (pa_cons (pv 2) pa_nil)))))))))), ?_⟩
    obtain ⟨ya, rfl, hya⟩ := ints_at hy
    obtain ⟨dx, d, pp, hp, V0⟩ := id hOff
    refine ⟨_, rfl, rfl, _, rfl, ?_⟩
    show if decide (nV p = nV 0) = true then _ else _
    rw [nV_dec]
    refine if2 (fun h => ?_) (fun h => ?_)
    · have hp0 : p = 0 := of_decide_eq_true h
      subst hp0
      cases hc with
      | begin_ n hn =>
        exact ⟨_, rfl, po, dx, _, rfl, hp, no_begin, _, rfl, ya, _, _, _, rfl, rfl, SqL.of hya, rfl, n, po, st, rfl, hOff, q⟩
    have hp0 : ¬ p = 0 := of_decide_eq_false h
    refine ⟨_, rfl, po, CO, dx, _, _, rfl, hp, TO.cl, TO.desk, rfl, rfl, _, rfl, ?_⟩
    cases st with
    | none =>
      have ed : d = .non := V0
      subst ed
      have ea : Kv406.act none c = (none, Kv406.say (-11)) := by
        cases hc with
        | begin_ => exact absurd rfl hp0
        | _ => rfl
      rw [ea] at q
      refine ifT rfl ⟨by show 1 ≤ sizeLine; decide, fun t nt => ?_⟩
      have npt : po ≠ t := ne_of_none hp nt
      exact q _ _ (wo_mono (same_new nt)) ⟨dx, _, pp, (upd_ne npt).trans hp, rfl⟩ ⟨t, rfl, upd_same⟩
    | some a =>
      obtain ⟨hd, hps, okA⟩ := id V0
      have ea : Kv406.act (some a) c = (some (a.does c).1, (a.does c).2) := rfl
      rw [ea] at q
      refine ifF ?_ ?_
      · obtain ⟨x, _, _, _, _, rfl, _⟩ := hd; rfl
      refine ⟨_, rfl, rfl, _, rfl, ?_⟩
      show if decide (nV p = nV 25) = true then _ else _
      rw [nV_dec]
      refine if2 (fun h => ?_) (fun h => ?_)
      · have hp0 : p = 25 := of_decide_eq_true h
        subst hp0
        cases hc with
        | back => exact ⟨_, rfl, po, dx, _, rfl, hp, no_take_back, po, a, rfl, hOff, q⟩
      have hp25 : ¬ p = 25 := of_decide_eq_false h
      have hD0 : rDesk CD CM H d a.now := stays_desk _ _ _ _ (wo_same _ _) hd
      refine ⟨_, rfl, p, rfl, _, rfl, ?_⟩
      refine if2 (fun h => ?_) (fun h => ?_)
      · have hp9 : 1 ≤ p ∧ p ≤ 9 := of_decide_eq_true h
        obtain ⟨r, hr1, hr2⟩ := chg_does (a := a.now) (past := a.past) hc hp9.1 hp9.2
        refine ⟨_, rfl, po, dx, _, rfl, hp, no_take_on, _, rfl, po, CO, dx, _, _, rfl, hp, TO.cl, TO.desk, rfl, _, rfl, _, rfl, a.now, p, nums, d, _, r, rfl, hD0, okA.now, hy, hp9.1, hp9.2, hr1, fun H1 z1 e1 ho => ?_⟩
        refine ⟨po, z1, a, r, rfl, ⟨dx, d, pp, e1 _ _ hp, V0.on (wo_mono e1)⟩, ho, fun b hb => chg_ok okA.now hr1 hb, fun H' z e2 ho' hz => ?_⟩
        have ed : a.does c = outcome a.now a.past r := hr2
        rw [ed] at q
        refine q _ _ ((wo_mono e1).trans e2) ho' ?_
        have er : Kv406Neutral.row (outcome a.now a.past r).2 = [r.1] := by
          unfold outcome
          cases r.2 <;> rfl
        rw [er]; exact hz
      have hp9 : ¬ (1 ≤ p ∧ p ≤ 9) := of_decide_eq_false h
      refine ⟨_, rfl, rfl, _, rfl, ?_⟩
      show if decide (nV p = nV 26) = true then _ else _
      rw [nV_dec]
      refine if2 (fun h => ?_) (fun h => ?_)
      · have hp0 : p = 26 := of_decide_eq_true h
        subst hp0
        cases hc with
        | state => exact ⟨_, rfl, po, dx, _, rfl, hp, no_tell_state, po, a, rfl, hOff, q⟩
      have hp26 : ¬ p = 26 := of_decide_eq_false h
      have h10 : 10 ≤ p := by omega
      have h24 : p ≤ 24 := by
        have := req_le hc
        omega
      refine ⟨_, rfl, po, CO, dx, _, _, rfl, hp, TO.cl, TO.desk, rfl, _, rfl, _, rfl, a.now, p, nums, d, _, c, rfl, hD0, okA.now, hy, h10, h24, hc, fun H1 z1 e1 hz => ?_⟩
      have el : a.does c = (⟨a.now, a.past⟩, lk a.now c) := look_does hc h10 h24
      rw [el] at q
      exact q _ _ (wo_mono e1) ⟨dx, d, pp, e1 _ _ hp, V0.on (wo_mono e1)⟩ hz
end
end Nk
set_option Elab.async false
set_option maxRecDepth 100000
set_option maxHeartbeats 4000000
/-! What the top has written: from facts of the written part to defs, classes, constants. -/
namespace Nk
open PySem PySem.Spec PyProof.Rows L2
section
variable {P : Program} {w : World} {K : PySem.W.Frag} {mg : Str → Option Value} {h : Heap}
/-- how a def's arguments bind -/
def BindsSo (x qual : Str) (st : Stmt) (ps : List Str) : Prop := ∀ (kV doc pm : Value) (an : Option Addr) (cdv ct : Value) (us : List Value), us.length = ps.length →
  bindArgs (PySem.W.fnOf x qual (defArgs st) (defBody st) (defScope st) .none kV doc pm an cdv ct) ⟨us, []⟩ = pure (ps.zip us)
theorem here_mk {x : Str} {st : Stmt} {ps : List Str} {f : Addr} {oc : Value} {od an : Option Addr} {sl : Array (Option Value)} {kV doc pm cdv ct : Value} (b : BindsSo x x st ps) (X : K.In h) (G : h.Ns mainGlobals mg)
    (a : PySem.W.nsIn K mainGlobals x = some (some (.ref f))) (l : K.lookup f = some ⟨oc, od, .func (PySem.W.fnOf x x (defArgs st) (defBody st) (defScope st) .none kV doc pm an cdv ct), sl⟩)
    (c : PySem.W.codeIn K cdv x = true) (k : PySem.W.keepIn K (.ref f) = true) : Here K mg x st ps :=
  ⟨f, _, fun_mk l c k, PySem.W.mg_of X G a, (fun_mk l c k).binds b⟩
theorem hereM_mk {C : Addr} {m qual : Str} {st : Stmt} {ps : List Str} {f : Addr} {oc : Value} {od an : Option Addr} {sl : Array (Option Value)} {kV doc pm cdv ct : Value} (b : BindsSo m qual st ps)
    (a : PySem.W.findIn K (.ref C) m = some (some (.ref f))) (i : PySem.W.isFn K (.ref f) = true) (l : K.lookup f = some ⟨oc, od, .func (PySem.W.fnOf m qual (defArgs st) (defBody st) (defScope st) .none kV doc pm an cdv ct), sl⟩)
    (c : PySem.W.codeIn K cdv qual = true) (k : PySem.W.keepIn K (.ref f) = true) : HereM K C m qual st ps :=
  ⟨f, _, fun_mk l c k, ⟨a, i, k⟩, (fun_mk l c k).binds b⟩
theorem hereC_mk {C : Addr} {x qual : Str} {st : Stmt} {ps : List Str} {f : Addr} {oc : Value} {od an : Option Addr} {sl : Array (Option Value)} {kV doc pm cdv ct : Value} (b : BindsSo "__init__" qual st ps) (hm : mg x = some (.ref C))
    (mk : PySem.W.makesIn K C = true) (kc : PySem.W.keepIn K (.ref C) = true)
    (a : PySem.W.findIn K (.ref C) "__init__" = some (some (.ref f))) (i : PySem.W.isFn K (.ref f) = true) (l : K.lookup f = some ⟨oc, od, .func (PySem.W.fnOf "__init__" qual (defArgs st) (defBody st) (defScope st) .none kV doc pm an cdv ct), sl⟩)
    (c : PySem.W.codeIn K cdv qual = true) (k : PySem.W.keepIn K (.ref f) = true) : HereC K mg C x qual st ps :=
  ⟨⟨f, _, fun_mk l c k, ⟨mk, a, i, kc⟩, (fun_mk l c k).binds b⟩, hm⟩
theorem hereC_at {C : Addr} {x qual : Str} {st : Stmt} {ps : List Str} {f : Addr} {oc : Value} {od an : Option Addr} {sl : Array (Option Value)} {kV doc pm cdv ct : Value} (b : BindsSo "__init__" qual st ps) (X : K.In h) (G : h.Ns mainGlobals mg)
    (n : PySem.W.nsIn K mainGlobals x = some (some (.ref C))) (mk : PySem.W.makesIn K C = true) (kc : PySem.W.keepIn K (.ref C) = true)
    (a : PySem.W.findIn K (.ref C) "__init__" = some (some (.ref f))) (i : PySem.W.isFn K (.ref f) = true) (l : K.lookup f = some ⟨oc, od, .func (PySem.W.fnOf "__init__" qual (defArgs st) (defBody st) (defScope st) .none kV doc pm an cdv ct), sl⟩)
    (c : PySem.W.codeIn K cdv qual = true) (k : PySem.W.keepIn K (.ref f) = true) : HereC K mg C x qual st ps := hereC_mk b (PySem.W.mg_of X G n) mk kc a i l c k
theorem hereM_of {C : Addr} {x qualC : Str} {stC : Stmt} {psC : List Str} (_ : HereC K mg C x qualC stC psC) {m qual : Str} {st : Stmt} {ps : List Str} {f : Addr} {oc : Value} {od an : Option Addr} {sl : Array (Option Value)} {kV doc pm cdv ct : Value} (b : BindsSo m qual st ps)
    (a : PySem.W.findIn K (.ref C) m = some (some (.ref f))) (i : PySem.W.isFn K (.ref f) = true) (l : K.lookup f = some ⟨oc, od, .func (PySem.W.fnOf m qual (defArgs st) (defBody st) (defScope st) .none kV doc pm an cdv ct), sl⟩)
    (c : PySem.W.codeIn K cdv qual = true) (k : PySem.W.keepIn K (.ref f) = true) : HereM K C m qual st ps := hereM_mk b a i l c k
theorem cls_mk {C : Addr} (pg : PySem.W.plainGet K C Str.empty = true) (hd : PySem.W.hasDictIn K C = true) (po : PySem.W.plainOver K C = true) (sa : PySem.W.findIn K (.ref C) "__setattr__" = some (some (.builtin "object.__setattr__"))) : Cls K C := ⟨pg, hd, po, sa⟩
theorem const_mk {x : Str} {i : Int} {t : Tok} (X : K.In h) (G : h.Ns mainGlobals mg) (a : PySem.W.nsIn K mainGlobals x = some (some (.int i t))) : ∃ t, mg x = some (.int i t) := ⟨t, PySem.W.mg_of X G a⟩
theorem numbers_mk {aN : Addr} {o : Obj} {its : Array Value} {n : Nat} (X : K.In h) (G : h.Ns mainGlobals mg) (a : PySem.W.nsIn K mainGlobals "NUMBERS" = some (some (.ref aN))) (l : K.lookup aN = some o) (c : o.cls = .type "tuple") (d : o.data = .seq its n)
    (z : its.size ≤ sizeLine) (v : Vals (numbersL.map nV) its.toList) (q : ∃ t, mg "ORDER" = some (.int 4 t)) : Numbers K mg aN :=
  ⟨PySem.W.mg_of X G a, fun _ => .inr ⟨o, its, n, l, c, d, z, v⟩, q⟩
/-- the entries of a dict from numbers to defs -/
inductive EntL : List DictEntry → List (Nat × Addr) → Prop
  | nil : EntL [] []
  | cons {n : Nat} {f : Addr} {t : Tok} {hh : Int} {es : List DictEntry} {l : List (Nat × Addr)} : hh = hashInt ((n : Nat) : Int) → EntL es l → EntL (⟨hh, .int ((n : Nat) : Int) t, .ref f⟩ :: es) ((n, f) :: l)
theorem kd_mk {a : Addr} {o : Obj} {es : Array DictEntry} {ep : Nat} {l : List (Nat × Addr)} (hl : K.lookup a = some o) (ex : o.ExactDict) (d : o.data = .dict es ep) (en : EntL es.toList l) (nd : (l.map Prod.fst).Nodup) (sys : (a == sysModules) = false) : KD P w K a (defsKV l) := by
  refine ⟨sys, l.map fun q => (Sum.inl ((q.1 : Nat) : Int), Value.ref q.2), ?_, fun h' X => ⟨o, es, ep, X _ _ hl, ex, d, ?_, ?_, ?_⟩⟩
  · unfold KV defsKV
    clear en nd
    induction l with
    | nil => exact .nil
    | cons q l ih => exact .cons ⟨rfl, rfl⟩ ih
  · intro e he
    have he' : e ∈ es.toList := by simpa using he
    clear nd
    generalize es.toList = L at en he'
    induction en with
    | nil => cases he'
    | @cons n f t hh es' l' hq _ ih =>
      rcases List.mem_cons.1 he' with e1 | he'
      · subst e1
        exact ⟨Sum.inl ((n : Nat) : Int), mixKind_int P w _ t, hq⟩
      · exact ih he'
  · clear nd
    generalize es.toList = L at en
    induction en with
    | nil => exact .nil
    | @cons n f t hh es' l' hq _ ih => exact .cons (mixKind_int P w _ t) rfl ih
  · rw [List.map_map]
    have : ((fun x : Key × Value => x.1) ∘ fun q : Nat × Addr => ((Sum.inl ((q.1 : Nat) : Int) : Key), Value.ref q.2)) = (fun n : Nat => (Sum.inl ((n : Nat) : Int) : Key)) ∘ Prod.fst := rfl
    rw [this, ← List.map_map]
    refine List.Pairwise.map _ (fun x y hxy => ?_) nd
    intro z
    exact hxy (Int.ofNat.inj (Sum.inl.inj z))
theorem val_defs {l : List (Nat × Addr)} {p : Nat} : valV (defsKV l) (Sum.inl ((p : Nat) : Int)) = ((l.find? fun q => q.1 == p).map fun q => V.ref q.2) := by
  unfold defsKV valV
  rw [List.find?_map]
  have : ((fun kv : Key × V => decide (kv.1 = Sum.inl ((p : Nat) : Int))) ∘ fun q : Nat × Addr => ((Sum.inl ((q.1 : Nat) : Int) : Key), V.ref q.2)) = fun q => q.1 == p := by
    funext q
    show decide ((Sum.inl ((q.1 : Nat) : Int) : Key) = Sum.inl ((p : Nat) : Int)) = (q.1 == p)
    rw [key_ll, Bool.eq_iff_iff]
    simp
    omega
  rw [this, Option.map_map]; rfl
end
end Nk
set_option Elab.async false
set_option maxRecDepth 100000
set_option maxHeartbeats 4000000
namespace Nk
open PySem PySem.Spec PyProof.Rows L2
theorem b_lesser : BindsSo "lesser" "lesser" s_lesser ["one", "other"] := fun _ _ _ _ _ _ us hl => match us, hl with | [_, _], _ => rfl
theorem b_joined : BindsSo "joined" "joined" s_joined ["ahead", "length", "behind"] := fun _ _ _ _ _ _ us hl => match us, hl with | [_, _, _], _ => rfl
theorem b_no_ways : BindsSo "no_ways" "no_ways" s_no_ways ["places"] := fun _ _ _ _ _ _ us hl => match us, hl with | [_], _ => rfl
theorem b_with_line : BindsSo "with_line" "with_line" s_with_line ["far", "line"] := fun _ _ _ _ _ _ us hl => match us, hl with | [_, _], _ => rfl
theorem b_distances : BindsSo "distances" "distances" s_distances ["places", "lines"] := fun _ _ _ _ _ _ us hl => match us, hl with | [_, _], _ => rfl
theorem b_joins : BindsSo "joins" "joins" s_joins ["line", "a", "b"] := fun _ _ _ _ _ _ us hl => match us, hl with | [_, _, _], _ => rfl
theorem b_length_between : BindsSo "length_between" "length_between" s_length_between ["lines", "a", "b"] := fun _ _ _ _ _ _ us hl => match us, hl with | [_, _, _], _ => rfl
theorem b_kept_lines : BindsSo "kept_lines" "kept_lines" s_kept_lines ["places", "lines", "times"] := fun _ _ _ _ _ _ us hl => match us, hl with | [_, _, _], _ => rfl
theorem b_is_chosen : BindsSo "is_chosen" "is_chosen" s_is_chosen ["choice", "place"] := fun _ _ _ _ _ _ us hl => match us, hl with | [_, _], _ => rfl
theorem b_chosen_places : BindsSo "chosen_places" "chosen_places" s_chosen_places ["choice", "places"] := fun _ _ _ _ _ _ us hl => match us, hl with | [_, _], _ => rfl
theorem b_nearest_chosen : BindsSo "nearest_chosen" "nearest_chosen" s_nearest_chosen ["far", "choice", "place"] := fun _ _ _ _ _ _ us hl => match us, hl with | [_, _, _], _ => rfl
theorem b_is_near : BindsSo "is_near" "is_near" s_is_near ["far", "nearest", "place", "other"] := fun _ _ _ _ _ _ us hl => match us, hl with | [_, _, _, _], _ => rfl
theorem b_near_places : BindsSo "near_places" "near_places" s_near_places ["far", "nearest", "place"] := fun _ _ _ _ _ _ us hl => match us, hl with | [_, _, _], _ => rfl
theorem b_round_by : BindsSo "round_by" "round_by" s_round_by ["far", "chosen", "u", "v"] := fun _ _ _ _ _ _ us hl => match us, hl with | [_, _, _, _], _ => rfl
theorem b_told_by_chosen : BindsSo "told_by_chosen" "told_by_chosen" s_told_by_chosen ["far", "nearest", "u", "v"] := fun _ _ _ _ _ _ us hl => match us, hl with | [_, _, _, _], _ => rfl
theorem b_k_nearest : BindsSo "k_nearest" "k_nearest" s_k_nearest ["far", "k", "place"] := fun _ _ _ _ _ _ us hl => match us, hl with | [_, _, _], _ => rfl
theorem b_in_most_rows : BindsSo "in_most_rows" "in_most_rows" s_in_most_rows ["places", "rows"] := fun _ _ _ _ _ _ us hl => match us, hl with | [_, _], _ => rfl
theorem b_chosen_by_greed : BindsSo "chosen_by_greed" "chosen_by_greed" s_chosen_by_greed ["far", "k"] := fun _ _ _ _ _ _ us hl => match us, hl with | [_, _], _ => rfl
theorem b_made_anew : BindsSo "made_anew" "made_anew" s_made_anew ["desk"] := fun _ _ _ _ _ _ us hl => match us, hl with | [_], _ => rfl
theorem b_put_line : BindsSo "put_line" "put_line" s_put_line ["desk", "numbers"] := fun _ _ _ _ _ _ us hl => match us, hl with | [_, _], _ => rfl
theorem b_cut_line : BindsSo "cut_line" "cut_line" s_cut_line ["desk", "numbers"] := fun _ _ _ _ _ _ us hl => match us, hl with | [_, _], _ => rfl
theorem b_set_times : BindsSo "set_times" "set_times" s_set_times ["desk", "numbers"] := fun _ _ _ _ _ _ us hl => match us, hl with | [_, _], _ => rfl
theorem b_set_order : BindsSo "set_order" "set_order" s_set_order ["desk", "row"] := fun _ _ _ _ _ _ us hl => match us, hl with | [_, _], _ => rfl
theorem b_set_choice : BindsSo "set_choice" "set_choice" s_set_choice ["desk", "numbers"] := fun _ _ _ _ _ _ us hl => match us, hl with | [_, _], _ => rfl
theorem b_choose_by_greed : BindsSo "choose_by_greed" "choose_by_greed" s_choose_by_greed ["desk", "numbers"] := fun _ _ _ _ _ _ us hl => match us, hl with | [_, _], _ => rfl
theorem b_make_all : BindsSo "make_all" "make_all" s_make_all ["desk", "numbers"] := fun _ _ _ _ _ _ us hl => match us, hl with | [_, _], _ => rfl
theorem b_send_one : BindsSo "send_one" "send_one" s_send_one ["desk", "numbers"] := fun _ _ _ _ _ _ us hl => match us, hl with | [_, _], _ => rfl
theorem b_send_all : BindsSo "send_all" "send_all" s_send_all ["desk", "numbers"] := fun _ _ _ _ _ _ us hl => match us, hl with | [_, _], _ => rfl
theorem b_is_change : BindsSo "is_change" "is_change" s_is_change ["call"] := fun _ _ _ _ _ _ us hl => match us, hl with | [_], _ => rfl
theorem b_change : BindsSo "change" "change" s_change ["desk", "call", "numbers"] := fun _ _ _ _ _ _ us hl => match us, hl with | [_, _, _], _ => rfl
theorem b_told_by_marks : BindsSo "told_by_marks" "told_by_marks" s_told_by_marks ["marks", "u", "v"] := fun _ _ _ _ _ _ us hl => match us, hl with | [_, _, _], _ => rfl
theorem b_places_to_mark : BindsSo "places_to_mark" "places_to_mark" s_places_to_mark ["far", "marks", "marker"] := fun _ _ _ _ _ _ us hl => match us, hl with | [_, _, _], _ => rfl
theorem b_marks_in_order : BindsSo "marks_in_order" "marks_in_order" s_marks_in_order ["far", "order"] := fun _ _ _ _ _ _ us hl => match us, hl with | [_, _], _ => rfl
theorem b_onward : BindsSo "onward" "onward" s_onward ["far", "base", "start", "end"] := fun _ _ _ _ _ _ us hl => match us, hl with | [_, _, _, _], _ => rfl
theorem b_table_of : BindsSo "table_of" "table_of" s_table_of ["far", "base", "choice", "nearest", "place"] := fun _ _ _ _ _ _ us hl => match us, hl with | [_, _, _, _, _], _ => rfl
theorem b_address_of : BindsSo "address_of" "address_of" s_address_of ["far", "base", "nearest", "place"] := fun _ _ _ _ _ _ us hl => match us, hl with | [_, _, _, _], _ => rfl
theorem b_sent_on : BindsSo "sent_on" "sent_on" s_sent_on ["tables", "address", "here"] := fun _ _ _ _ _ _ us hl => match us, hl with | [_, _, _], _ => rfl
theorem b_way_of : BindsSo "way_of" "way_of" s_way_of ["tables", "address", "start"] := fun _ _ _ _ _ _ us hl => match us, hl with | [_, _, _], _ => rfl
theorem b_how_far : BindsSo "how_far" "how_far" s_how_far ["lines", "way", "goal"] := fun _ _ _ _ _ _ us hl => match us, hl with | [_, _, _], _ => rfl
theorem b_Made_init : BindsSo "__init__" "Made.__init__" s_Made_init ["self", "desk"] := fun _ _ _ _ _ _ us hl => match us, hl with | [_, _], _ => rfl
theorem b_Made_count_marks : BindsSo "count_marks" "Made.count_marks" s_Made_count_marks ["self"] := fun _ _ _ _ _ _ us hl => match us, hl with | [_], _ => rfl
theorem b_Made_count_near : BindsSo "count_near" "Made.count_near" s_Made_count_near ["self"] := fun _ _ _ _ _ _ us hl => match us, hl with | [_], _ => rfl
theorem b_Made_count_entries : BindsSo "count_entries" "Made.count_entries" s_Made_count_entries ["self"] := fun _ _ _ _ _ _ us hl => match us, hl with | [_], _ => rfl
theorem b_Desk_init : BindsSo "__init__" "Desk.__init__" s_Desk_init ["self", "places"] := fun _ _ _ _ _ _ us hl => match us, hl with | [_, _], _ => rfl
theorem b_Desk_make : BindsSo "make" "Desk.make" s_Desk_make ["self"] := fun _ _ _ _ _ _ us hl => match us, hl with | [_], _ => rfl
theorem b_Desk_twin : BindsSo "twin" "Desk.twin" s_Desk_twin ["self"] := fun _ _ _ _ _ _ us hl => match us, hl with | [_], _ => rfl
theorem b_Desk_has_places : BindsSo "has_places" "Desk.has_places" s_Desk_has_places ["self", "numbers"] := fun _ _ _ _ _ _ us hl => match us, hl with | [_, _], _ => rfl
theorem b_Desk_chosen : BindsSo "chosen" "Desk.chosen" s_Desk_chosen ["self"] := fun _ _ _ _ _ _ us hl => match us, hl with | [_], _ => rfl
theorem b_Desk_message_way : BindsSo "message_way" "Desk.message_way" s_Desk_message_way ["self", "u", "v"] := fun _ _ _ _ _ _ us hl => match us, hl with | [_, _, _], _ => rfl
theorem b_Desk_message_goes : BindsSo "message_goes" "Desk.message_goes" s_Desk_message_goes ["self", "u", "v"] := fun _ _ _ _ _ _ us hl => match us, hl with | [_, _, _], _ => rfl
theorem b_Desk_post : BindsSo "post" "Desk.post" s_Desk_post ["self", "u", "v"] := fun _ _ _ _ _ _ us hl => match us, hl with | [_, _, _], _ => rfl
theorem b_new_desk : BindsSo "new_desk" "new_desk" s_new_desk ["places"] := fun _ _ _ _ _ _ us hl => match us, hl with | [_], _ => rfl
theorem b_told_lines : BindsSo "told_lines" "told_lines" s_told_lines ["lines"] := fun _ _ _ _ _ _ us hl => match us, hl with | [_], _ => rfl
theorem b_look_lines : BindsSo "look_lines" "look_lines" s_look_lines ["desk", "numbers"] := fun _ _ _ _ _ _ us hl => match us, hl with | [_, _], _ => rfl
theorem b_look_base : BindsSo "look_base" "look_base" s_look_base ["desk", "numbers"] := fun _ _ _ _ _ _ us hl => match us, hl with | [_, _], _ => rfl
theorem b_look_fresh : BindsSo "look_fresh" "look_fresh" s_look_fresh ["desk", "numbers"] := fun _ _ _ _ _ _ us hl => match us, hl with | [_, _], _ => rfl
theorem b_look_marks : BindsSo "look_marks" "look_marks" s_look_marks ["desk", "numbers"] := fun _ _ _ _ _ _ us hl => match us, hl with | [_, _], _ => rfl
theorem b_look_chosen : BindsSo "look_chosen" "look_chosen" s_look_chosen ["desk", "numbers"] := fun _ _ _ _ _ _ us hl => match us, hl with | [_, _], _ => rfl
theorem b_look_route : BindsSo "look_route" "look_route" s_look_route ["desk", "numbers"] := fun _ _ _ _ _ _ us hl => match us, hl with | [_, _], _ => rfl
theorem b_look_comes : BindsSo "look_comes" "look_comes" s_look_comes ["desk", "numbers"] := fun _ _ _ _ _ _ us hl => match us, hl with | [_, _], _ => rfl
theorem b_look_sizes : BindsSo "look_sizes" "look_sizes" s_look_sizes ["desk", "numbers"] := fun _ _ _ _ _ _ us hl => match us, hl with | [_, _], _ => rfl
theorem b_look_count : BindsSo "look_count" "look_count" s_look_count ["desk", "numbers"] := fun _ _ _ _ _ _ us hl => match us, hl with | [_, _], _ => rfl
theorem b_far_in_land : BindsSo "far_in_land" "far_in_land" s_far_in_land ["desk", "u", "v"] := fun _ _ _ _ _ _ us hl => match us, hl with | [_, _, _], _ => rfl
theorem b_far_in_base : BindsSo "far_in_base" "far_in_base" s_far_in_base ["desk", "u", "v"] := fun _ _ _ _ _ _ us hl => match us, hl with | [_, _, _], _ => rfl
theorem b_far_by_marks : BindsSo "far_by_marks" "far_by_marks" s_far_by_marks ["desk", "u", "v"] := fun _ _ _ _ _ _ us hl => match us, hl with | [_, _, _], _ => rfl
theorem b_far_by_chosen : BindsSo "far_by_chosen" "far_by_chosen" s_far_by_chosen ["desk", "u", "v"] := fun _ _ _ _ _ _ us hl => match us, hl with | [_, _, _], _ => rfl
theorem b_far_by_message : BindsSo "far_by_message" "far_by_message" s_far_by_message ["desk", "u", "v"] := fun _ _ _ _ _ _ us hl => match us, hl with | [_, _, _], _ => rfl
theorem b_look_compare : BindsSo "look_compare" "look_compare" s_look_compare ["desk", "numbers"] := fun _ _ _ _ _ _ us hl => match us, hl with | [_, _], _ => rfl
theorem b_look : BindsSo "look" "look" s_look ["desk", "call", "numbers"] := fun _ _ _ _ _ _ us hl => match us, hl with | [_, _, _], _ => rfl
theorem b_Office_init : BindsSo "__init__" "Office.__init__" s_Office_init ["self"] := fun _ _ _ _ _ _ us hl => match us, hl with | [_], _ => rfl
theorem b_Office_answer : BindsSo "answer" "Office.answer" s_Office_answer ["self", "call", "numbers"] := fun _ _ _ _ _ _ us hl => match us, hl with | [_, _, _], _ => rfl
theorem b_Office_begin : BindsSo "begin" "Office.begin" s_Office_begin ["self", "places"] := fun _ _ _ _ _ _ us hl => match us, hl with | [_, _], _ => rfl
theorem b_Office_take_on : BindsSo "take_on" "Office.take_on" s_Office_take_on ["self", "outcome"] := fun _ _ _ _ _ _ us hl => match us, hl with | [_, _], _ => rfl
theorem b_Office_take_back : BindsSo "take_back" "Office.take_back" s_Office_take_back ["self"] := fun _ _ _ _ _ _ us hl => match us, hl with | [_], _ => rfl
theorem b_Office_tell_state : BindsSo "tell_state" "Office.tell_state" s_Office_tell_state ["self"] := fun _ _ _ _ _ _ us hl => match us, hl with | [_], _ => rfl
theorem b_answers : BindsSo "answers" "answers" s_answers ["calls"] := fun _ _ _ _ _ _ us hl => match us, hl with | [_], _ => rfl
end Nk
set_option Elab.async false
set_option maxRecDepth 100000
set_option maxHeartbeats 4000000
namespace Nk
open PySem PySem.Spec PyProof.Rows L2
/-- what the text writes: its defs, classes, methods -/
structure Facts (K : PySem.W.Frag) (mg : Str → Option Value) (CMade CDesk COffice : Addr) : Prop where
  D_lesser : Here K mg "lesser" s_lesser ["one", "other"]
  D_joined : Here K mg "joined" s_joined ["ahead", "length", "behind"]
  D_no_ways : Here K mg "no_ways" s_no_ways ["places"]
  D_with_line : Here K mg "with_line" s_with_line ["far", "line"]
  D_distances : Here K mg "distances" s_distances ["places", "lines"]
  D_joins : Here K mg "joins" s_joins ["line", "a", "b"]
  D_length_between : Here K mg "length_between" s_length_between ["lines", "a", "b"]
  D_kept_lines : Here K mg "kept_lines" s_kept_lines ["places", "lines", "times"]
  D_is_chosen : Here K mg "is_chosen" s_is_chosen ["choice", "place"]
  D_chosen_places : Here K mg "chosen_places" s_chosen_places ["choice", "places"]
  D_nearest_chosen : Here K mg "nearest_chosen" s_nearest_chosen ["far", "choice", "place"]
  D_is_near : Here K mg "is_near" s_is_near ["far", "nearest", "place", "other"]
  D_near_places : Here K mg "near_places" s_near_places ["far", "nearest", "place"]
  D_round_by : Here K mg "round_by" s_round_by ["far", "chosen", "u", "v"]
  D_told_by_chosen : Here K mg "told_by_chosen" s_told_by_chosen ["far", "nearest", "u", "v"]
  D_k_nearest : Here K mg "k_nearest" s_k_nearest ["far", "k", "place"]
  D_in_most_rows : Here K mg "in_most_rows" s_in_most_rows ["places", "rows"]
  D_chosen_by_greed : Here K mg "chosen_by_greed" s_chosen_by_greed ["far", "k"]
  D_made_anew : Here K mg "made_anew" s_made_anew ["desk"]
  D_put_line : Here K mg "put_line" s_put_line ["desk", "numbers"]
  D_cut_line : Here K mg "cut_line" s_cut_line ["desk", "numbers"]
  D_set_times : Here K mg "set_times" s_set_times ["desk", "numbers"]
  D_set_order : Here K mg "set_order" s_set_order ["desk", "row"]
  D_set_choice : Here K mg "set_choice" s_set_choice ["desk", "numbers"]
  D_choose_by_greed : Here K mg "choose_by_greed" s_choose_by_greed ["desk", "numbers"]
  D_make_all : Here K mg "make_all" s_make_all ["desk", "numbers"]
  D_send_one : Here K mg "send_one" s_send_one ["desk", "numbers"]
  D_send_all : Here K mg "send_all" s_send_all ["desk", "numbers"]
  D_is_change : Here K mg "is_change" s_is_change ["call"]
  D_change : Here K mg "change" s_change ["desk", "call", "numbers"]
  D_told_by_marks : Here K mg "told_by_marks" s_told_by_marks ["marks", "u", "v"]
  D_places_to_mark : Here K mg "places_to_mark" s_places_to_mark ["far", "marks", "marker"]
  D_marks_in_order : Here K mg "marks_in_order" s_marks_in_order ["far", "order"]
  D_onward : Here K mg "onward" s_onward ["far", "base", "start", "end"]
  D_table_of : Here K mg "table_of" s_table_of ["far", "base", "choice", "nearest", "place"]
  D_address_of : Here K mg "address_of" s_address_of ["far", "base", "nearest", "place"]
  D_sent_on : Here K mg "sent_on" s_sent_on ["tables", "address", "here"]
  D_way_of : Here K mg "way_of" s_way_of ["tables", "address", "start"]
  D_how_far : Here K mg "how_far" s_how_far ["lines", "way", "goal"]
  I_Made : HereC K mg CMade "Made" "Made.__init__" s_Made_init ["self", "desk"]
  T_Made : MadeC K CMade
  M_Made_count_marks : HereM K CMade "count_marks" "Made.count_marks" s_Made_count_marks ["self"]
  M_Made_count_near : HereM K CMade "count_near" "Made.count_near" s_Made_count_near ["self"]
  M_Made_count_entries : HereM K CMade "count_entries" "Made.count_entries" s_Made_count_entries ["self"]
  I_Desk : HereC K mg CDesk "Desk" "Desk.__init__" s_Desk_init ["self", "places"]
  T_Desk : DeskC K CDesk
  M_Desk_make : HereM K CDesk "make" "Desk.make" s_Desk_make ["self"]
  M_Desk_twin : HereM K CDesk "twin" "Desk.twin" s_Desk_twin ["self"]
  M_Desk_has_places : HereM K CDesk "has_places" "Desk.has_places" s_Desk_has_places ["self", "numbers"]
  M_Desk_chosen : HereM K CDesk "chosen" "Desk.chosen" s_Desk_chosen ["self"]
  M_Desk_message_way : HereM K CDesk "message_way" "Desk.message_way" s_Desk_message_way ["self", "u", "v"]
  M_Desk_message_goes : HereM K CDesk "message_goes" "Desk.message_goes" s_Desk_message_goes ["self", "u", "v"]
  M_Desk_post : HereM K CDesk "post" "Desk.post" s_Desk_post ["self", "u", "v"]
  D_new_desk : Here K mg "new_desk" s_new_desk ["places"]
  D_told_lines : Here K mg "told_lines" s_told_lines ["lines"]
  D_look_lines : Here K mg "look_lines" s_look_lines ["desk", "numbers"]
  D_look_base : Here K mg "look_base" s_look_base ["desk", "numbers"]
  D_look_fresh : Here K mg "look_fresh" s_look_fresh ["desk", "numbers"]
  D_look_marks : Here K mg "look_marks" s_look_marks ["desk", "numbers"]
  D_look_chosen : Here K mg "look_chosen" s_look_chosen ["desk", "numbers"]
  D_look_route : Here K mg "look_route" s_look_route ["desk", "numbers"]
  D_look_comes : Here K mg "look_comes" s_look_comes ["desk", "numbers"]
  D_look_sizes : Here K mg "look_sizes" s_look_sizes ["desk", "numbers"]
  D_look_count : Here K mg "look_count" s_look_count ["desk", "numbers"]
  D_far_in_land : Here K mg "far_in_land" s_far_in_land ["desk", "u", "v"]
  D_far_in_base : Here K mg "far_in_base" s_far_in_base ["desk", "u", "v"]
  D_far_by_marks : Here K mg "far_by_marks" s_far_by_marks ["desk", "u", "v"]
  D_far_by_chosen : Here K mg "far_by_chosen" s_far_by_chosen ["desk", "u", "v"]
  D_far_by_message : Here K mg "far_by_message" s_far_by_message ["desk", "u", "v"]
  D_look_compare : Here K mg "look_compare" s_look_compare ["desk", "numbers"]
  D_look : Here K mg "look" s_look ["desk", "call", "numbers"]
  I_Office : HereC K mg COffice "Office" "Office.__init__" s_Office_init ["self"]
  T_Office : OfficeC K COffice
  M_Office_answer : HereM K COffice "answer" "Office.answer" s_Office_answer ["self", "call", "numbers"]
  M_Office_begin : HereM K COffice "begin" "Office.begin" s_Office_begin ["self", "places"]
  M_Office_take_on : HereM K COffice "take_on" "Office.take_on" s_Office_take_on ["self", "outcome"]
  M_Office_take_back : HereM K COffice "take_back" "Office.take_back" s_Office_take_back ["self"]
  M_Office_tell_state : HereM K COffice "tell_state" "Office.tell_state" s_Office_tell_state ["self"]
  D_answers : Here K mg "answers" s_answers ["calls"]
section
variable {K : PySem.W.Frag} {mg : Str → Option Value}
theorem MadeC_of {C : Addr} {x qual : Str} {st : Stmt} {ps : List Str} (_ : HereC K mg C x qual st ps) (pg : PySem.W.plainGet K C Str.empty = true) (hd : PySem.W.hasDictIn K C = true) (po : PySem.W.plainOver K C = true) (sa : PySem.W.findIn K (.ref C) "__setattr__" = some (some (.builtin "object.__setattr__")))
    (n0 : PySem.W.findIn K (.ref C) "source" = some none) (n1 : PySem.W.findIn K (.ref C) "base" = some none) (n2 : PySem.W.findIn K (.ref C) "far" = some none) (n3 : PySem.W.findIn K (.ref C) "nearest" = some none) (n4 : PySem.W.findIn K (.ref C) "marks" = some none) (n5 : PySem.W.findIn K (.ref C) "tables" = some none) (n6 : PySem.W.findIn K (.ref C) "addresses" = some none) : MadeC K C := ⟨⟨pg, hd, po, sa⟩, n0, n1, n2, n3, n4, n5, n6⟩
theorem DeskC_of {C : Addr} {x qual : Str} {st : Stmt} {ps : List Str} (_ : HereC K mg C x qual st ps) (pg : PySem.W.plainGet K C Str.empty = true) (hd : PySem.W.hasDictIn K C = true) (po : PySem.W.plainOver K C = true) (sa : PySem.W.findIn K (.ref C) "__setattr__" = some (some (.builtin "object.__setattr__")))
    (n0 : PySem.W.findIn K (.ref C) "places" = some none) (n1 : PySem.W.findIn K (.ref C) "lines" = some none) (n2 : PySem.W.findIn K (.ref C) "times" = some none) (n3 : PySem.W.findIn K (.ref C) "order" = some none) (n4 : PySem.W.findIn K (.ref C) "choice" = some none) (n5 : PySem.W.findIn K (.ref C) "sent" = some none) (n6 : PySem.W.findIn K (.ref C) "lost" = some none) (n7 : PySem.W.findIn K (.ref C) "gone" = some none) (n8 : PySem.W.findIn K (.ref C) "made" = some none) : DeskC K C := ⟨⟨pg, hd, po, sa⟩, n0, n1, n2, n3, n4, n5, n6, n7, n8⟩
theorem OfficeC_of {C : Addr} {x qual : Str} {st : Stmt} {ps : List Str} (_ : HereC K mg C x qual st ps) (pg : PySem.W.plainGet K C Str.empty = true) (hd : PySem.W.hasDictIn K C = true) (po : PySem.W.plainOver K C = true) (sa : PySem.W.findIn K (.ref C) "__setattr__" = some (some (.builtin "object.__setattr__")))
    (n0 : PySem.W.findIn K (.ref C) "desk" = some none) (n1 : PySem.W.findIn K (.ref C) "past" = some none) : OfficeC K C := ⟨⟨pg, hd, po, sa⟩, n0, n1⟩
end
end Nk
set_option Elab.async false
set_option maxRecDepth 100000
set_option maxHeartbeats 4000000
namespace Nk
open PySem PySem.Spec PyProof.Rows L2
section
variable {K : PySem.W.Frag} {mg : Str → Option Value} {h : Heap}
theorem plain_mk (X : K.In h) (G : h.Ns mainGlobals mg) (n1 : PySem.W.nsIn K mainGlobals "len" = some none) (n2 : PySem.W.nsIn K mainGlobals "range" = some none) (n3 : PySem.W.nsIn K mainGlobals "min" = some none)
    (n4 : PySem.W.nsIn K mainGlobals "max" = some none) (n5 : PySem.W.nsIn K mainGlobals "sum" = some none) (n6 : PySem.W.nsIn K mainGlobals "sorted" = some none) (n7 : PySem.W.nsIn K mainGlobals "list" = some none) (n8 : PySem.W.nsIn K mainGlobals "all" = some none) : Plain mg :=
  ⟨PySem.W.mg_none_of X G n1, PySem.W.mg_none_of X G n2, PySem.W.mg_none_of X G n3, PySem.W.mg_none_of X G n4, PySem.W.mg_none_of X G n5, PySem.W.mg_none_of X G n6, PySem.W.mg_none_of X G n7, PySem.W.mg_none_of X G n8⟩
theorem consts_mk {t1 t2 t3 t4 t5 t6 t7 t8 t9 : Tok} (X : K.In h) (G : h.Ns mainGlobals mg) (n1 : PySem.W.nsIn K mainGlobals "NO_SUCH" = some (some (.int (-2) t1))) (n2 : PySem.W.nsIn K mainGlobals "NO_CHANGE" = some (some (.int (-6) t2)))
    (n3 : PySem.W.nsIn K mainGlobals "NOT_BEGUN" = some (some (.int (-11) t3))) (n4 : PySem.W.nsIn K mainGlobals "OUT_OF_RANGE" = some (some (.int (-22) t4))) (n5 : PySem.W.nsIn K mainGlobals "TOO_MANY" = some (some (.int (-28) t5)))
    (n6 : PySem.W.nsIn K mainGlobals "NONE_THERE" = some (some (.int (-33) t6))) (n7 : PySem.W.nsIn K mainGlobals "MOST_LINES" = some (some (.int 14 t7))) (n8 : PySem.W.nsIn K mainGlobals "MOST_PLACES" = some (some (.int 8 t8)))
    (n9 : PySem.W.nsIn K mainGlobals "MOST_BACK" = some (some (.int 10 t9))) : Consts mg :=
  ⟨const_mk X G n1, const_mk X G n2, const_mk X G n3, const_mk X G n4, const_mk X G n5, const_mk X G n6, const_mk X G n7, const_mk X G n8, const_mk X G n9⟩
/-- a dict of the top: where it stands, and what was written there -/
theorem kdict_mk {x : Str} {a : Addr} {o : Obj} {es : Array DictEntry} {ep : Nat} {l : List (Nat × Addr)} (X : K.In h) (G : h.Ns mainGlobals mg) (n : PySem.W.nsIn K mainGlobals x = some (some (.ref a))) (hl : K.lookup a = some o) (ex : o.ExactDict) (d : o.data = .dict es ep)
    (en : EntL es.toList l) (nd : (l.map Prod.fst).Nodup) (sys : (a == sysModules) = false) : (∀ P w, KD P w K a (defsKV l)) ∧ mg x = some (.ref a) := ⟨fun _ _ => kd_mk hl ex d en nd sys, PySem.W.mg_of X G n⟩
theorem nums_mk {aN : Addr} {o : Obj} {its : Array Value} {n : Nat} {t : Tok} (X : K.In h) (G : h.Ns mainGlobals mg) (a : PySem.W.nsIn K mainGlobals "NUMBERS" = some (some (.ref aN))) (l : K.lookup aN = some o) (c : o.cls = .type "tuple") (d : o.data = .seq its n)
    (z : its.size ≤ sizeLine) (v : Vals (numbersL.map nV) its.toList) (q : PySem.W.nsIn K mainGlobals "ORDER" = some (some (.int 4 t))) : Numbers K mg aN := numbers_mk X G a l c d z v (const_mk X G q)
/-- a tuple of five defs at the top -/
theorem five_mk {x : Str} {aC f1 f2 f3 f4 f5 : Addr} {o : Obj} {its : Array Value} {n : Nat} (X : K.In h) (G : h.Ns mainGlobals mg) (a : PySem.W.nsIn K mainGlobals x = some (some (.ref aC))) (l : K.lookup aC = some o) (c : o.cls = .type "tuple") (d : o.data = .seq its n)
    (z : its.size ≤ sizeLine) (e : its.toList = [Value.ref f1, Value.ref f2, Value.ref f3, Value.ref f4, Value.ref f5]) : mg x = some (.ref aC) ∧ ∀ H, SqT K H aC [V.ref f1, V.ref f2, V.ref f3, V.ref f4, V.ref f5] :=
  ⟨PySem.W.mg_of X G a, fun _ => .inr ⟨o, its, n, l, c, d, z, by rw [e]; exact .cons rfl (.cons rfl (.cons rfl (.cons rfl (.cons rfl .nil))))⟩⟩
end
end Nk
set_option Elab.async false
set_option maxRecDepth 100000
set_option maxHeartbeats 4000000
namespace Nk
open PySem PySem.Spec PyProof.Rows L2
/-- the dict of changes, as it was written -/
structure ChD (K : PySem.W.Frag) (mg : Str → Option Value) (a f1 f2 f3 f4 f5 f6 f7 f8 f9 : Addr) : Prop where
  d : (∀ P w, KD P w K a (defsKV [(1, f1), (2, f2), (3, f3), (4, f4), (5, f5), (6, f6), (7, f7), (8, f8), (9, f9)])) ∧ mg "CHANGES" = some (.ref a)
  m1 : mg "put_line" = some (.ref f1)
  m2 : mg "cut_line" = some (.ref f2)
  m3 : mg "set_times" = some (.ref f3)
  m4 : mg "set_order" = some (.ref f4)
  m5 : mg "set_choice" = some (.ref f5)
  m6 : mg "choose_by_greed" = some (.ref f6)
  m7 : mg "make_all" = some (.ref f7)
  m8 : mg "send_one" = some (.ref f8)
  m9 : mg "send_all" = some (.ref f9)
/-- the tuple and the dicts of looks, as they were written -/
structure LkD (K : PySem.W.Frag) (mg : Str → Option Value) (aC a2 a1 g1 g2 g3 g4 g5 l1 l2 l3 l4 l5 l6 l7 l8 l9 l0 : Addr) : Prop where
  c : mg "COMPARED" = some (.ref aC) ∧ ∀ H, SqT K H aC [V.ref g1, V.ref g2, V.ref g3, V.ref g4, V.ref g5]
  d2 : (∀ P w, KD P w K a2 (defsKV [(13, g1), (14, g2), (16, g3), (18, g4), (21, g5)])) ∧ mg "OF_TWO_PLACES" = some (.ref a2)
  d1 : (∀ P w, KD P w K a1 (defsKV [(10, l1), (11, l2), (12, l3), (15, l4), (17, l5), (19, l6), (20, l7), (22, l8), (23, l9), (24, l0)])) ∧ mg "LOOKS" = some (.ref a1)
  m1 : mg "far_in_land" = some (.ref g1)
  m2 : mg "far_in_base" = some (.ref g2)
  m3 : mg "far_by_marks" = some (.ref g3)
  m4 : mg "far_by_chosen" = some (.ref g4)
  m5 : mg "far_by_message" = some (.ref g5)
  n1 : mg "look_lines" = some (.ref l1)
  n2 : mg "look_base" = some (.ref l2)
  n3 : mg "look_fresh" = some (.ref l3)
  n4 : mg "look_marks" = some (.ref l4)
  n5 : mg "look_chosen" = some (.ref l5)
  n6 : mg "look_route" = some (.ref l6)
  n7 : mg "look_comes" = some (.ref l7)
  n8 : mg "look_sizes" = some (.ref l8)
  n9 : mg "look_compare" = some (.ref l9)
  n0 : mg "look_count" = some (.ref l0)
/-- the office's own numbers -/
structure OwnC (mg : Str → Option Value) : Prop where
  begin_ : ∃ t, mg "BEGIN" = some (.int 0 t)
  back : ∃ t, mg "BACK" = some (.int 25 t)
  state : ∃ t, mg "STATE" = some (.int 26 t)
  missing : ∃ t, mg "MISSING" = some (.int (-1) t)
/-- what the defs keep -/
structure AllK (P : Program) (w : World) (K : PySem.W.Frag) (mg : Str → Option Value) (base : Heap) (CM CD CO : Addr) : Prop where
  office : KeptC P w K mg base 1 CO "Office" (sp_Office_init CO)
  answer : KeptM P w K mg base 12 CO "answer" (sp_answer CO CD CM)
section
variable {P : Program} {w : World} {K : PySem.W.Frag} {mg : Str → Option Value} {base : Heap} {CM CD CO a f1 f2 f3 f4 f5 f6 f7 f8 f9 aC a2 a1 g1 g2 g3 g4 g5 l1 l2 l3 l4 l5 l6 l7 l8 l9 l0 : Addr}
theorem all_k (F : Facts K mg CM CD CO) (B : Plain mg) (Cn : Consts mg) (h1 : CO ≠ CD) (h2 : CO ≠ CM) (T : ChD K mg a f1 f2 f3 f4 f5 f6 f7 f8 f9) (L : LkD K mg aC a2 a1 g1 g2 g3 g4 g5 l1 l2 l3 l4 l5 l6 l7 l8 l9 l0) (Ow : OwnC mg) : AllK P w K mg base CM CD CO := by
  have TM := F.T_Made
  have TD := F.T_Desk
  have TO := F.T_Office
  have is_chosen := k_is_chosen (P := P) (w := w) (base := base) F.D_is_chosen
  have nearest_chosen := k_nearest_chosen B is_chosen F.D_nearest_chosen
  have is_near := k_is_near (P := P) (w := w) (base := base) F.D_is_near
  have k_nearest := k_k_nearest (P := P) (w := w) (base := base) B F.D_k_nearest
  have in_most_rows := k_in_most_rows (P := P) (w := w) (base := base) B F.D_in_most_rows
  have chosen_by_greed := k_chosen_by_greed B k_nearest in_most_rows F.D_chosen_by_greed
  have lesser := k_lesser (P := P) (w := w) (base := base) B F.D_lesser
  have joined := k_joined (P := P) (w := w) (base := base) F.D_joined
  have no_ways := k_no_ways (P := P) (w := w) (base := base) B F.D_no_ways
  have with_line := k_with_line B lesser joined F.D_with_line
  have distances := k_distances no_ways with_line F.D_distances
  have joins := k_joins (P := P) (w := w) (base := base) B F.D_joins
  have length_between := k_length_between joins F.D_length_between
  have kept_lines := k_kept_lines no_ways with_line F.D_kept_lines
  have told_by_marks := k_told_by_marks lesser F.D_told_by_marks
  have places_to_mark := k_places_to_mark B told_by_marks F.D_places_to_mark
  have marks_in_order := k_marks_in_order B places_to_mark F.D_marks_in_order
  have onward := k_onward B length_between F.D_onward
  have table_of := k_table_of B is_chosen is_near onward F.D_table_of
  have address_of := k_address_of onward F.D_address_of
  have sent_on := k_sent_on (P := P) (w := w) (base := base) F.D_sent_on
  have way_of := k_way_of sent_on F.D_way_of
  have how_far := k_how_far B length_between F.D_how_far
  have round_by := k_round_by joined F.D_round_by
  have told_by_chosen := k_told_by_chosen is_near lesser round_by F.D_told_by_chosen
  have chosen_places := k_chosen_places B is_chosen F.D_chosen_places
  have near_places := k_near_places B is_near F.D_near_places
  have has_places := k_has_places (P := P) (w := w) (mg := mg) (base := base) B TD F.M_Desk_has_places
  have desk := k_Desk_init (P := P) (w := w) (base := base) B TD F.I_Desk
  have twin := k_twin TD desk F.M_Desk_twin
  have made := k_Made_init B TD TM kept_lines distances nearest_chosen marks_in_order table_of address_of F.I_Made
  have make := k_make TD made F.M_Desk_make
  have new_desk := k_new_desk TD desk make F.D_new_desk
  have message_way := k_message_way TD TM way_of F.M_Desk_message_way
  have message_goes := k_message_goes TD message_way how_far F.M_Desk_message_goes
  have chosen := k_Desk_chosen (CM := CM) TD chosen_places F.M_Desk_chosen
  have post := k_post TD message_goes F.M_Desk_post
  have made_anew := k_made_anew TD twin make F.D_made_anew
  have count_marks := k_count_marks (P := P) (w := w) (mg := mg) (base := base) B TM F.M_Made_count_marks
  have count_entries := k_count_entries (P := P) (w := w) (mg := mg) (base := base) B TM F.M_Made_count_entries
  have count_near := k_count_near B TM near_places F.M_Made_count_near
  have put_line := k_put_line (CM := CM) B Cn TD has_places joins twin F.D_put_line
  have cut_line := k_cut_line (CM := CM) B Cn TD twin F.D_cut_line
  have set_times := k_set_times B Cn TD TM twin make F.D_set_times
  have set_order := k_set_order B Cn TD TM twin make count_marks F.D_set_order
  have set_choice := k_set_choice B Cn TD TM twin make count_entries F.D_set_choice
  have choose_by_greed := k_choose_by_greed Cn TD TM made_anew chosen_by_greed make count_entries F.D_choose_by_greed
  have make_all := k_make_all B TD TM made_anew F.D_make_all
  have send_one := k_send_one Cn TD has_places twin post F.D_send_one
  have send_all := k_send_all B TD twin post F.D_send_all
  have changes : Changes P w K mg base CD CM a (defsKV [(1, f1), (2, f2), (3, f3), (4, f4), (5, f5), (6, f6), (7, f7), (8, f8), (9, f9)]) := by
    refine ⟨T.d.1 P w, T.d.2, fun p h1 h9 => ?_, fun p hp => ?_⟩
    · rw [val_defs]
      have : p = 1 ∨ p = 2 ∨ p = 3 ∨ p = 4 ∨ p = 5 ∨ p = 6 ∨ p = 7 ∨ p = 8 ∨ p = 9 := by omega
      rcases this with rfl | rfl | rfl | rfl | rfl | rfl | rfl | rfl | rfl
      · exact ⟨_, rfl, held_of put_line T.m1 (by decide)⟩
      · exact ⟨_, rfl, held_of cut_line T.m2 (by decide)⟩
      · exact ⟨_, rfl, held_of set_times T.m3 (by decide)⟩
      · exact ⟨_, rfl, held_of set_order T.m4 (by decide)⟩
      · exact ⟨_, rfl, held_of set_choice T.m5 (by decide)⟩
      · exact ⟨_, rfl, held_of choose_by_greed T.m6 (by decide)⟩
      · exact ⟨_, rfl, held_of make_all T.m7 (by decide)⟩
      · exact ⟨_, rfl, held_of send_one T.m8 (by decide)⟩
      · exact ⟨_, rfl, held_of send_all T.m9 (by decide)⟩
    · rw [val_defs]
      have e : ∀ j : Nat, 1 ≤ j → j ≤ 9 → (j == p) = false := fun j a b => by rw [beq_eq_false_iff_ne]; omega
      simp only [List.find?, e 1 (by decide) (by decide), e 2 (by decide) (by decide), e 3 (by decide) (by decide), e 4 (by decide) (by decide), e 5 (by decide) (by decide), e 6 (by decide) (by decide), e 7 (by decide) (by decide), e 8 (by decide) (by decide), e 9 (by decide) (by decide), Option.map_none]
  have is_change := k_is_change changes F.D_is_change
  have change := k_change changes F.D_change
  have far_in_land := k_far_in_land (CM := CM) TD distances F.D_far_in_land
  have far_in_base := k_far_in_base (P := P) (w := w) (base := base) TD TM F.D_far_in_base
  have far_by_marks := k_far_by_marks TD TM told_by_marks F.D_far_by_marks
  have far_by_chosen := k_far_by_chosen TD TM told_by_chosen F.D_far_by_chosen
  have far_by_message := k_far_by_message TD message_goes F.D_far_by_message
  have told_lines := k_told_lines (P := P) (w := w) (base := base) B F.D_told_lines
  have look_lines := k_look_lines (CM := CM) TD told_lines F.D_look_lines
  have look_base := k_look_base TD TM told_lines F.D_look_base
  have look_fresh := k_look_fresh (P := P) (w := w) (base := base) TD TM F.D_look_fresh
  have look_marks := k_look_marks (P := P) (w := w) (base := base) B TD TM F.D_look_marks
  have look_chosen := k_look_chosen B TD chosen F.D_look_chosen
  have look_route := k_look_route B TD message_way F.D_look_route
  have look_comes := k_look_comes TD message_goes F.D_look_comes
  have look_sizes := k_look_sizes B TD TM count_near chosen count_marks count_entries F.D_look_sizes
  have look_count := k_look_count (P := P) (w := w) (base := base) (CM := CM) TD F.D_look_count
  have comp : Comp P w K mg base CD CM aC [(g1, pLand), (g2, pBase), (g3, pMarks), (g4, pChosen), (g5, pMessage)] := by
    refine ⟨L.c.1, L.c.2, fun q hq => ?_, rfl⟩
    simp only [List.mem_cons, List.not_mem_nil, or_false] at hq
    rcases hq with rfl | rfl | rfl | rfl | rfl
    · exact held_of far_in_land L.m1 (by decide)
    · exact held_of far_in_base L.m2 (by decide)
    · exact held_of far_by_marks L.m3 (by decide)
    · exact held_of far_by_chosen L.m4 (by decide)
    · exact held_of far_by_message L.m5 (by decide)
  have look_compare := k_look_compare Ow.missing comp F.D_look_compare
  have looks : Looks P w K mg base CD CM a2 a1 (defsKV [(13, g1), (14, g2), (16, g3), (18, g4), (21, g5)]) (defsKV [(10, l1), (11, l2), (12, l3), (15, l4), (17, l5), (19, l6), (20, l7), (22, l8), (23, l9), (24, l0)]) := by
    refine ⟨L.d2.1 P w, L.d2.2, fun p hp => ?_, fun p hp => ?_, L.d1.1 P w, L.d1.2, fun p h10 h24 hp => ?_⟩
    · rw [val_defs]
      have : p = 13 ∨ p = 14 ∨ p = 16 ∨ p = 18 ∨ p = 21 := by
        unfold isPair at hp; simp at hp; omega
      rcases this with rfl | rfl | rfl | rfl | rfl
      · exact ⟨_, rfl, held_of far_in_land L.m1 (by decide)⟩
      · exact ⟨_, rfl, held_of far_in_base L.m2 (by decide)⟩
      · exact ⟨_, rfl, held_of far_by_marks L.m3 (by decide)⟩
      · exact ⟨_, rfl, held_of far_by_chosen L.m4 (by decide)⟩
      · exact ⟨_, rfl, held_of far_by_message L.m5 (by decide)⟩
    · rw [val_defs]
      have h5 : ¬ (p = 13 ∨ p = 14 ∨ p = 16 ∨ p = 18 ∨ p = 21) := by
        unfold isPair at hp; simp at hp; omega
      have e : ∀ j : Nat, (j = 13 ∨ j = 14 ∨ j = 16 ∨ j = 18 ∨ j = 21) → (j == p) = false := fun j hj => by rw [beq_eq_false_iff_ne]; omega
      simp only [List.find?, e 13 (by decide), e 14 (by decide), e 16 (by decide), e 18 (by decide), e 21 (by decide), Option.map_none]
    · rw [val_defs]
      have : p = 10 ∨ p = 11 ∨ p = 12 ∨ p = 15 ∨ p = 17 ∨ p = 19 ∨ p = 20 ∨ p = 22 ∨ p = 23 ∨ p = 24 := by
        unfold isPair at hp; simp at hp; omega
      rcases this with rfl | rfl | rfl | rfl | rfl | rfl | rfl | rfl | rfl | rfl
      · exact ⟨_, rfl, held_of look_lines L.n1 (by decide)⟩
      · exact ⟨_, rfl, held_of look_base L.n2 (by decide)⟩
      · exact ⟨_, rfl, held_of look_fresh L.n3 (by decide)⟩
      · exact ⟨_, rfl, held_of look_marks L.n4 (by decide)⟩
      · exact ⟨_, rfl, held_of look_chosen L.n5 (by decide)⟩
      · exact ⟨_, rfl, held_of look_route L.n6 (by decide)⟩
      · exact ⟨_, rfl, held_of look_comes L.n7 (by decide)⟩
      · exact ⟨_, rfl, held_of look_sizes L.n8 (by decide)⟩
      · exact ⟨_, rfl, held_of look_compare L.n9 (by decide)⟩
      · exact ⟨_, rfl, held_of look_count L.n0 (by decide)⟩
  have look := k_look Cn TD has_places looks F.D_look
  have begin_ := k_begin h1 h2 Cn TO new_desk F.M_Office_begin
  have take_on := k_take_on (P := P) (w := w) (base := base) h1 h2 Cn TO F.M_Office_take_on
  have take_back := k_take_back (P := P) (w := w) (base := base) (CD := CD) (CM := CM) B Cn TO F.M_Office_take_back
  have tell_state := k_tell_state (P := P) (w := w) (mg := mg) (base := base) (CM := CM) B TO TD F.M_Office_tell_state
  exact ⟨k_Office_init TO F.I_Office, k_answer Cn TO Ow.begin_ Ow.back Ow.state begin_ take_on take_back tell_state is_change change look F.M_Office_answer⟩
end
end Nk
set_option Elab.async false
set_option maxRecDepth 100000
set_option maxHeartbeats 4000000
namespace Nk
open PySem PySem.Spec PyProof.Rows L2
section
variable {P : Program} {w : World} {K : PySem.W.Frag} {mg : Str → Option Value} {h : Heap} {CM CD CO a f1 f2 f3 f4 f5 f6 f7 f8 f9 aN : Addr}
/-- from what the top has written to what is asked of answers -/
theorem last_mk {f fa : Addr} {oc : Value} {od an : Option Addr} {sl : Array (Option Value)} {kV doc pm cdv ct : Value} (X : K.In h) (G : h.Ns mainGlobals mg) (hfa : mg "answers" = some (.ref fa))
    (a3 : PySem.W.nsIn K mainGlobals "answers" = some (some (.ref f))) (l : K.lookup f = some ⟨oc, od, .func (PySem.W.fnOf "answers" "answers" (defArgs s_answers) (defBody s_answers) (defScope s_answers) .none kV doc pm an cdv ct), sl⟩)
    (c : PySem.W.codeIn K cdv "answers" = true) (k : PySem.W.keepIn K (.ref f) = true) (F : Facts K mg CM CD CO) (B : Plain mg) (Nm : Numbers K mg aN)
    (R : ∀ base : Heap, KeptC P w K mg base 1 CO "Office" (sp_Office_init CO) ∧ KeptM P w K mg base 12 CO "answer" (sp_answer CO CD CM)) :
    ∃ fd : FuncData, (∀ (s : Shared) (us : List Value), us.length = (["calls"] : List Str).length → BindsTo s fd ⟨us, []⟩ ((["calls"] : List Str).zip us)) ∧ ∀ base : Heap, K.In base → base.Ns mainGlobals mg → FnOk P w K mg base CX0 13 fa fd ["calls"] (sp_answers K) := by
  have e := hfa.symm.trans (PySem.W.mg_of X G a3)
  cases e
  have F3 := fun_mk (st := s_answers) l c k
  exact ⟨_, fun s us hu => .of_eq (b_answers _ _ _ _ _ _ us hu), fun base _ _ => ok_answers B F.T_Office Nm (R base).1 (R base).2 F3⟩
end
end Nk
set_option Elab.async false
open PySem PySem.W PyProof.Rows
set_option maxRecDepth 100000 in
set_option maxHeartbeats 0 in
theorem PySem.Challenge.cw_nearkeptdesk_s01_answers_holds : PySem.Challenge.rw_nearkeptdesk_s01_answers.Holds := by
  w_on; k_headS; (case hw => exact ⟨[.list [.int 10]], by decide +kernel, by decide +kernel⟩)
  k_fillS
  refine L2.walk_specK (r := PySem.Challenge.rw_nearkeptdesk_s01_answers) (k := 13) (CX := L2.CX0) (ps := ["calls"]) (sp := Nk.sp_answers) (by decide +kernel) rfl rfl ⟨rfl, by decide, by decide⟩ (fun w h Y => PySem.W.kIn_of Y) ?F ?S (fun _ _ _ _ z => z)
  case F =>
    intro w mg fa h Y KX G hmg
    have B := Nk.plain_mk KX G (by k_is) (by k_is) (by k_is) (by k_is) (by k_is) (by k_is) (by k_is) (by k_is)
    have Cn := Nk.consts_mk KX G (by k_is) (by k_is) (by k_is) (by k_is) (by k_is) (by k_is) (by k_is) (by k_is) (by k_is)
    have Nm := Nk.nums_mk KX G (by k_is) (by k_is) rfl rfl (by decide) (by repeat' constructor) (by k_is)
    have Ch := Nk.kdict_mk (x := "CHANGES") (l := [(1, _), (2, _), (3, _), (4, _), (5, _), (6, _), (7, _), (8, _), (9, _)]) KX G (by k_is) (by k_is) ⟨rfl, rfl, rfl⟩ rfl
      (.cons rfl (.cons rfl (.cons rfl (.cons rfl (.cons rfl (.cons rfl (.cons rfl (.cons rfl (.cons rfl .nil))))))))) (by decide) (by decide)
    have Ow := Nk.OwnC.mk (Nk.const_mk KX G (by k_is)) (Nk.const_mk KX G (by k_is)) (Nk.const_mk KX G (by k_is)) (Nk.const_mk KX G (by k_is))
    have Co := Nk.five_mk (x := "COMPARED") KX G (by k_is) (by k_is) rfl rfl (by decide) rfl
    have D2 := Nk.kdict_mk (x := "OF_TWO_PLACES") (l := [(13, _), (14, _), (16, _), (18, _), (21, _)]) KX G (by k_is) (by k_is) ⟨rfl, rfl, rfl⟩ rfl
      (.cons rfl (.cons rfl (.cons rfl (.cons rfl (.cons rfl .nil))))) (by decide) (by decide)
    have D1 := Nk.kdict_mk (x := "LOOKS") (l := [(10, _), (11, _), (12, _), (15, _), (17, _), (19, _), (20, _), (22, _), (23, _), (24, _)]) KX G (by k_is) (by k_is) ⟨rfl, rfl, rfl⟩ rfl
      (.cons rfl (.cons rfl (.cons rfl (.cons rfl (.cons rfl (.cons rfl (.cons rfl (.cons rfl (.cons rfl (.cons rfl .nil)))))))))) (by decide) (by decide)
    have L := Nk.LkD.mk Co D2 D1 (PySem.W.mg_of KX G (by k_is)) (PySem.W.mg_of KX G (by k_is)) (PySem.W.mg_of KX G (by k_is)) (PySem.W.mg_of KX G (by k_is)) (PySem.W.mg_of KX G (by k_is)) (PySem.W.mg_of KX G (by k_is)) (PySem.W.mg_of KX G (by k_is)) (PySem.W.mg_of KX G (by k_is)) (PySem.W.mg_of KX G (by k_is)) (PySem.W.mg_of KX G (by k_is)) (PySem.W.mg_of KX G (by k_is)) (PySem.W.mg_of KX G (by k_is)) (PySem.W.mg_of KX G (by k_is)) (PySem.W.mg_of KX G (by k_is)) (PySem.W.mg_of KX G (by k_is))
    have T := Nk.ChD.mk Ch (PySem.W.mg_of KX G (by k_is)) (PySem.W.mg_of KX G (by k_is)) (PySem.W.mg_of KX G (by k_is)) (PySem.W.mg_of KX G (by k_is)) (PySem.W.mg_of KX G (by k_is)) (PySem.W.mg_of KX G (by k_is)) (PySem.W.mg_of KX G (by k_is)) (PySem.W.mg_of KX G (by k_is)) (PySem.W.mg_of KX G (by k_is))
    have D_lesser := Nk.here_mk Nk.b_lesser KX G (by k_is) (by k_is) (by k_is) (by k_is)
    have D_joined := Nk.here_mk Nk.b_joined KX G (by k_is) (by k_is) (by k_is) (by k_is)
    have D_no_ways := Nk.here_mk Nk.b_no_ways KX G (by k_is) (by k_is) (by k_is) (by k_is)
    have D_with_line := Nk.here_mk Nk.b_with_line KX G (by k_is) (by k_is) (by k_is) (by k_is)
    have D_distances := Nk.here_mk Nk.b_distances KX G (by k_is) (by k_is) (by k_is) (by k_is)
    have D_joins := Nk.here_mk Nk.b_joins KX G (by k_is) (by k_is) (by k_is) (by k_is)
    have D_length_between := Nk.here_mk Nk.b_length_between KX G (by k_is) (by k_is) (by k_is) (by k_is)
    have D_kept_lines := Nk.here_mk Nk.b_kept_lines KX G (by k_is) (by k_is) (by k_is) (by k_is)
    have D_is_chosen := Nk.here_mk Nk.b_is_chosen KX G (by k_is) (by k_is) (by k_is) (by k_is)
    have D_chosen_places := Nk.here_mk Nk.b_chosen_places KX G (by k_is) (by k_is) (by k_is) (by k_is)
    have D_nearest_chosen := Nk.here_mk Nk.b_nearest_chosen KX G (by k_is) (by k_is) (by k_is) (by k_is)
    have D_is_near := Nk.here_mk Nk.b_is_near KX G (by k_is) (by k_is) (by k_is) (by k_is)
    have D_near_places := Nk.here_mk Nk.b_near_places KX G (by k_is) (by k_is) (by k_is) (by k_is)
    have D_round_by := Nk.here_mk Nk.b_round_by KX G (by k_is) (by k_is) (by k_is) (by k_is)
    have D_told_by_chosen := Nk.here_mk Nk.b_told_by_chosen KX G (by k_is) (by k_is) (by k_is) (by k_is)
    have D_k_nearest := Nk.here_mk Nk.b_k_nearest KX G (by k_is) (by k_is) (by k_is) (by k_is)
    have D_in_most_rows := Nk.here_mk Nk.b_in_most_rows KX G (by k_is) (by k_is) (by k_is) (by k_is)
    have D_chosen_by_greed := Nk.here_mk Nk.b_chosen_by_greed KX G (by k_is) (by k_is) (by k_is) (by k_is)
    have D_made_anew := Nk.here_mk Nk.b_made_anew KX G (by k_is) (by k_is) (by k_is) (by k_is)
    have D_put_line := Nk.here_mk Nk.b_put_line KX G (by k_is) (by k_is) (by k_is) (by k_is)
    have D_cut_line := Nk.here_mk Nk.b_cut_line KX G (by k_is) (by k_is) (by k_is) (by k_is)
    have D_set_times := Nk.here_mk Nk.b_set_times KX G (by k_is) (by k_is) (by k_is) (by k_is)
    have D_set_order := Nk.here_mk Nk.b_set_order KX G (by k_is) (by k_is) (by k_is) (by k_is)
    have D_set_choice := Nk.here_mk Nk.b_set_choice KX G (by k_is) (by k_is) (by k_is) (by k_is)
    have D_choose_by_greed := Nk.here_mk Nk.b_choose_by_greed KX G (by k_is) (by k_is) (by k_is) (by k_is)
    have D_make_all := Nk.here_mk Nk.b_make_all KX G (by k_is) (by k_is) (by k_is) (by k_is)
    have D_send_one := Nk.here_mk Nk.b_send_one KX G (by k_is) (by k_is) (by k_is) (by k_is)
    have D_send_all := Nk.here_mk Nk.b_send_all KX G (by k_is) (by k_is) (by k_is) (by k_is)
    have D_is_change := Nk.here_mk Nk.b_is_change KX G (by k_is) (by k_is) (by k_is) (by k_is)
    have D_change := Nk.here_mk Nk.b_change KX G (by k_is) (by k_is) (by k_is) (by k_is)
    have D_told_by_marks := Nk.here_mk Nk.b_told_by_marks KX G (by k_is) (by k_is) (by k_is) (by k_is)
    have D_places_to_mark := Nk.here_mk Nk.b_places_to_mark KX G (by k_is) (by k_is) (by k_is) (by k_is)
    have D_marks_in_order := Nk.here_mk Nk.b_marks_in_order KX G (by k_is) (by k_is) (by k_is) (by k_is)
    have D_onward := Nk.here_mk Nk.b_onward KX G (by k_is) (by k_is) (by k_is) (by k_is)
    have D_table_of := Nk.here_mk Nk.b_table_of KX G (by k_is) (by k_is) (by k_is) (by k_is)
    have D_address_of := Nk.here_mk Nk.b_address_of KX G (by k_is) (by k_is) (by k_is) (by k_is)
    have D_sent_on := Nk.here_mk Nk.b_sent_on KX G (by k_is) (by k_is) (by k_is) (by k_is)
    have D_way_of := Nk.here_mk Nk.b_way_of KX G (by k_is) (by k_is) (by k_is) (by k_is)
    have D_how_far := Nk.here_mk Nk.b_how_far KX G (by k_is) (by k_is) (by k_is) (by k_is)
    have I_Made := Nk.hereC_at (x := "Made") Nk.b_Made_init KX G (by k_is) (by k_is) (by k_is) (by k_is) (by k_is) (by k_is) (by k_is) (by k_is)
    have T_Made := Nk.MadeC_of I_Made (by k_is) (by k_is) (by k_is) (by k_is) (by k_is) (by k_is) (by k_is) (by k_is) (by k_is) (by k_is) (by k_is)
    have M_Made_count_marks := Nk.hereM_of I_Made Nk.b_Made_count_marks (by k_is) (by k_is) (by k_is) (by k_is) (by k_is)
    have M_Made_count_near := Nk.hereM_of I_Made Nk.b_Made_count_near (by k_is) (by k_is) (by k_is) (by k_is) (by k_is)
    have M_Made_count_entries := Nk.hereM_of I_Made Nk.b_Made_count_entries (by k_is) (by k_is) (by k_is) (by k_is) (by k_is)
    have I_Desk := Nk.hereC_at (x := "Desk") Nk.b_Desk_init KX G (by k_is) (by k_is) (by k_is) (by k_is) (by k_is) (by k_is) (by k_is) (by k_is)
    have T_Desk := Nk.DeskC_of I_Desk (by k_is) (by k_is) (by k_is) (by k_is) (by k_is) (by k_is) (by k_is) (by k_is) (by k_is) (by k_is) (by k_is) (by k_is) (by k_is)
    have M_Desk_make := Nk.hereM_of I_Desk Nk.b_Desk_make (by k_is) (by k_is) (by k_is) (by k_is) (by k_is)
    have M_Desk_twin := Nk.hereM_of I_Desk Nk.b_Desk_twin (by k_is) (by k_is) (by k_is) (by k_is) (by k_is)
    have M_Desk_has_places := Nk.hereM_of I_Desk Nk.b_Desk_has_places (by k_is) (by k_is) (by k_is) (by k_is) (by k_is)
    have M_Desk_chosen := Nk.hereM_of I_Desk Nk.b_Desk_chosen (by k_is) (by k_is) (by k_is) (by k_is) (by k_is)
    have M_Desk_message_way := Nk.hereM_of I_Desk Nk.b_Desk_message_way (by k_is) (by k_is) (by k_is) (by k_is) (by k_is)
    have M_Desk_message_goes := Nk.hereM_of I_Desk Nk.b_Desk_message_goes (by k_is) (by k_is) (by k_is) (by k_is) (by k_is)
    have M_Desk_post := Nk.hereM_of I_Desk Nk.b_Desk_post (by k_is) (by k_is) (by k_is) (by k_is) (by k_is)
    have D_new_desk := Nk.here_mk Nk.b_new_desk KX G (by k_is) (by k_is) (by k_is) (by k_is)
    have D_told_lines := Nk.here_mk Nk.b_told_lines KX G (by k_is) (by k_is) (by k_is) (by k_is)
    have D_look_lines := Nk.here_mk Nk.b_look_lines KX G (by k_is) (by k_is) (by k_is) (by k_is)
    have D_look_base := Nk.here_mk Nk.b_look_base KX G (by k_is) (by k_is) (by k_is) (by k_is)
    have D_look_fresh := Nk.here_mk Nk.b_look_fresh KX G (by k_is) (by k_is) (by k_is) (by k_is)
    have D_look_marks := Nk.here_mk Nk.b_look_marks KX G (by k_is) (by k_is) (by k_is) (by k_is)
    have D_look_chosen := Nk.here_mk Nk.b_look_chosen KX G (by k_is) (by k_is) (by k_is) (by k_is)
    have D_look_route := Nk.here_mk Nk.b_look_route KX G (by k_is) (by k_is) (by k_is) (by k_is)
    have D_look_comes := Nk.here_mk Nk.b_look_comes KX G (by k_is) (by k_is) (by k_is) (by k_is)
    have D_look_sizes := Nk.here_mk Nk.b_look_sizes KX G (by k_is) (by k_is) (by k_is) (by k_is)
    have D_look_count := Nk.here_mk Nk.b_look_count KX G (by k_is) (by k_is) (by k_is) (by k_is)
    have D_far_in_land := Nk.here_mk Nk.b_far_in_land KX G (by k_is) (by k_is) (by k_is) (by k_is)
    have D_far_in_base := Nk.here_mk Nk.b_far_in_base KX G (by k_is) (by k_is) (by k_is) (by k_is)
    have D_far_by_marks := Nk.here_mk Nk.b_far_by_marks KX G (by k_is) (by k_is) (by k_is) (by k_is)
    have D_far_by_chosen := Nk.here_mk Nk.b_far_by_chosen KX G (by k_is) (by k_is) (by k_is) (by k_is)
    have D_far_by_message := Nk.here_mk Nk.b_far_by_message KX G (by k_is) (by k_is) (by k_is) (by k_is)
    have D_look_compare := Nk.here_mk Nk.b_look_compare KX G (by k_is) (by k_is) (by k_is) (by k_is)
    have D_look := Nk.here_mk Nk.b_look KX G (by k_is) (by k_is) (by k_is) (by k_is)
    have I_Office := Nk.hereC_at (x := "Office") Nk.b_Office_init KX G (by k_is) (by k_is) (by k_is) (by k_is) (by k_is) (by k_is) (by k_is) (by k_is)
    have T_Office := Nk.OfficeC_of I_Office (by k_is) (by k_is) (by k_is) (by k_is) (by k_is) (by k_is)
    have M_Office_answer := Nk.hereM_of I_Office Nk.b_Office_answer (by k_is) (by k_is) (by k_is) (by k_is) (by k_is)
    have M_Office_begin := Nk.hereM_of I_Office Nk.b_Office_begin (by k_is) (by k_is) (by k_is) (by k_is) (by k_is)
    have M_Office_take_on := Nk.hereM_of I_Office Nk.b_Office_take_on (by k_is) (by k_is) (by k_is) (by k_is) (by k_is)
    have M_Office_take_back := Nk.hereM_of I_Office Nk.b_Office_take_back (by k_is) (by k_is) (by k_is) (by k_is) (by k_is)
    have M_Office_tell_state := Nk.hereM_of I_Office Nk.b_Office_tell_state (by k_is) (by k_is) (by k_is) (by k_is) (by k_is)
    have D_answers := Nk.here_mk Nk.b_answers KX G (by k_is) (by k_is) (by k_is) (by k_is)
    have F := Nk.Facts.mk D_lesser D_joined D_no_ways D_with_line D_distances D_joins D_length_between D_kept_lines D_is_chosen D_chosen_places D_nearest_chosen D_is_near D_near_places D_round_by D_told_by_chosen D_k_nearest D_in_most_rows D_chosen_by_greed D_made_anew D_put_line D_cut_line D_set_times D_set_order D_set_choice D_choose_by_greed D_make_all D_send_one D_send_all D_is_change D_change D_told_by_marks D_places_to_mark D_marks_in_order D_onward D_table_of D_address_of D_sent_on D_way_of D_how_far I_Made T_Made M_Made_count_marks M_Made_count_near M_Made_count_entries I_Desk T_Desk M_Desk_make M_Desk_twin M_Desk_has_places M_Desk_chosen M_Desk_message_way M_Desk_message_goes M_Desk_post D_new_desk D_told_lines D_look_lines D_look_base D_look_fresh D_look_marks D_look_chosen D_look_route D_look_comes D_look_sizes D_look_count D_far_in_land D_far_in_base D_far_by_marks D_far_by_chosen D_far_by_message D_look_compare D_look I_Office T_Office M_Office_answer M_Office_begin M_Office_take_on M_Office_take_back M_Office_tell_state D_answers
    refine Nk.last_mk KX G hmg (by k_is) (by k_is) (by k_is) (by k_is) F B Nm (fun base => ?_)
    have AK := Nk.all_k (P := PySem.Challenge.rw_nearkeptdesk_s01_answers.prog) (w := w) (base := base) F B Cn (by decide) (by decide) T L Ow
    exact ⟨AK.office, AK.answer⟩
  case S =>
    intro K H xs a hO hwi hask hx
    cases hx with
    | cons h1 h2 =>
      cases h2
      cases h1 with
      | lst hs ha =>
        have e := L2.ints_dw a.1 _ ha
        subst e
        have q : ((Codec.inLen 0 4000 a.1 && a.1.all (Codec.inInt 0 4294967295)) && true) = true := hwi
        rw [Bool.and_eq_true, Bool.and_eq_true] at q
        exact ⟨_, a.1, rfl, hs, hask, (Codec.inNat_iff.mp q.1.1).2, fun H' p hp => .lst (L2.SqL.of hp) (L2.dw_ints _)⟩
