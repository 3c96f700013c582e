import PyProof.Rows.All
import Wide.All
import OpenK.AllK
import Wide.FinOn
import Open.SpecLaws
import KE.OsGo
import HandS.ForSpec
import HandS.More
import HandS.CallLocal
import HandS.Comp
import HandS.Conv
import HandS.Wide
import HandS.Evl
import PySem.Challenge.RW_whorules_s01_answers
set_option Elab.async false
set_option maxRecDepth 100000
set_option maxHeartbeats 2000000
/-! d[k] of a dict of the module whose keys are whole numbers. -/
namespace Wr
open PySem PySem.Spec PyProof.Rows L2
def keyInt (e : DictEntry) : Bool := match e.key with
  | .int k _ => e.hash == hashInt k
  | _ => false
/-- the dict at a: entries with whole numbers as keys -/
structure KDI (K : PySem.W.Frag) (a : Addr) (es : List DictEntry) : Prop where
  at_ : ∃ n, K.lookup a = some ⟨.type "dict", none, .dict es.toArray n, #[]⟩
  keys : es.all keyInt = true
theorem KDI.mapOf {K : PySem.W.Frag} {a : Addr} {es : List DictEntry} {prog : Program} {w : PySem.World} {h : Heap} (D : KDI K a es) (X : K.In h) : h.MapOf (intKind prog w) a (fun k => findBy Value.isInt es.toArray k) := by
  obtain ⟨n, hl⟩ := D.at_
  refine ⟨_, es.toArray, n, X _ _ hl, ⟨rfl, rfl, rfl⟩, rfl, fun e he => ?_, fun _ => rfl⟩
  have q := List.all_eq_true.mp D.keys e (by simpa using he)
  unfold keyInt at q
  split at q
  · rename_i k t hk
    exact ⟨k, by rw [hk]; exact intKind_is prog w k t, beq_iff_eq.mp q⟩
  · cases q
def rIxKI (K : PySem.W.Frag) : R2 := fun x y H Q => ∃ p k es u v, x = .ref p ∧ y = .int k ∧ KDI K p es ∧ findBy Value.isInt es.toArray k = some u ∧ RelV v u ∧ Q v H
section
variable {X : Cx}
theorem ix_kint : IxR X (rIxKI X.K) := by
  intro value slice pins s σ H x y v u Q I rx ry h hs
  obtain ⟨p, k, es, u0, r, rfl, rfl, D, e, ru, q⟩ := h
  obtain rfl : v = Value.ref p := rx
  obtain ⟨t, rfl⟩ := ry
  have hm := D.mapOf (prog := X.prog) (w := X.w) I.kIn
  exact tail_any hm.typeIs slot_dict_getitem.lookup (wpAny_getItem_of (intKind_is X.prog X.w k t) hm e ⟨r, H, I.tok _, ru, q⟩) hs
/-- a local name that holds a def, whichever: its promise goes with it -/
def tCallH (P : Program) (w : PySem.World) (K : PySem.W.Frag) (mg : Str → Option Value) (base : Heap) (k i : Nat) (t : TA) : TE := fun σ H Q => ∃ f sp, σ[i]? = some (some (.ref f)) ∧ Held P w K mg base k f sp ∧ t σ H fun vs H1 => sp vs H1 Q (fun _ _ _ => False)
theorem pe_callH {k i : Nat} {x : Str} {p pos : Pos} {e : Expr} {es : List Expr} {t : TA} (hr : Room k X.A) (hN : X.N[i]? = some x) (hv : Vis X.env.scope x) (ha : PA X (e :: es) t)
    (hdb : (x == ("__debug__" : Str)) = false := by decide)
    (hcd : (x == ("__classdict__" : Str)) = false := by decide)
    (he : starEach (e :: es) X.env = (false, eval e X.env) :: starEach es X.env := by rfl)
    (hpl : (backTo pos (starEach es X.env)).any (·.1) = false := by rfl) :
    PE X (.Call (.Name x p) (e :: es) [] pos) (tCallH X.prog X.w X.K X.mg X.base k i t) := by
  refine ⟨fun pins s σ H Q I h => ?_⟩
  obtain ⟨f, sp, hs, hH, ht⟩ := h
  obtain ⟨fd, ps, F, hk, hb⟩ := hH.ex
  have step := pe_callL (p := p) (E := E0) F hr hN hv hk hb .nil pass0 ha hdb hcd he hpl
  refine step.run pins s σ H Q I ⟨hs, ?_⟩
  simpa only [List.append_nil] using ht
end
end Wr
/-! Fractions: what lowest, plus, minus, times, at_least give, told over Rat; sizes. -/
namespace Wr
/-- nothing in common: the pair of u by l -/
theorem low_num {u : Int} {l : Nat} (h : l ≠ 0) : (mkRat u l).num = u / (Int.gcd u l : Int) := by
  rw [Rat.num_mkRat, if_neg h, Nat.gcd_comm]
  rfl
theorem low_den {u : Int} {l : Nat} (h : l ≠ 0) : ((mkRat u l).den : Int) = (l : Int) / (Int.gcd u l : Int) := by
  rw [Rat.den_mkRat, if_neg h, Nat.gcd_comm, Int.natCast_ediv]
  rfl
theorem gcd_step (a b : Int) : Int.gcd b (a % b) = Int.gcd a b := by
  rw [Int.emod_def, Int.gcd_sub_mul_left_right, Int.gcd_comm]
theorem gcd_end (a : Int) : Int.gcd a 0 = a.natAbs := Int.gcd_zero_right a
/-- how large: both numbers below 2 ^ k -/
def Sm (k : Nat) (r : Rat) : Prop := r.num.natAbs < 2 ^ k ∧ r.den < 2 ^ k
theorem Sm.mono {k m : Nat} {r : Rat} (h : Sm k r) (hk : k ≤ m) : Sm m r :=
  ⟨Nat.lt_of_lt_of_le h.1 (Nat.pow_le_pow_right (by decide) hk), Nat.lt_of_lt_of_le h.2 (Nat.pow_le_pow_right (by decide) hk)⟩
theorem natAbs_ediv_le (u : Int) (g : Nat) : (u / (g : Int)).natAbs ≤ u.natAbs ∨ u / (g : Int) * g ≠ u := by
  by_cases hd : u / (g : Int) * g = u
  · left
    by_cases hg : g = 0
    · subst hg; simp
    · have : u.natAbs = (u / (g : Int)).natAbs * g := by
        conv => lhs; rw [← hd]
        rw [Int.natAbs_mul]; simp
      rw [this]
      exact Nat.le_mul_of_pos_right _ (Nat.pos_of_ne_zero hg)
  · right; exact hd
theorem low_sm {u : Int} {l k : Nat} (hl : l ≠ 0) (hu : u.natAbs < 2 ^ k) (hk : l < 2 ^ k) : Sm k (mkRat u l) := by
  constructor
  · rw [low_num hl]
    rcases natAbs_ediv_le u (Int.gcd u l) with h | h
    · exact Nat.lt_of_le_of_lt h hu
    · exact absurd (Int.ediv_mul_cancel (Int.gcd_dvd_left ..)) h
  · rw [Rat.den_mkRat, if_neg hl]
    exact Nat.lt_of_le_of_lt (Nat.div_le_self _ _) hk
theorem mul_lt_pow {a b m n : Nat} (ha : a < 2 ^ m) (hb : b < 2 ^ n) : a * b < 2 ^ (m + n) := by
  rw [Nat.pow_add]
  exact Nat.mul_lt_mul'' ha hb
theorem sm_cross {x y : Rat} {m n : Nat} (hx : Sm m x) (hy : Sm n y) : (x.num * (y.den : Int)).natAbs < 2 ^ (m + n) := by
  rw [Int.natAbs_mul]
  exact mul_lt_pow hx.1 (by simpa using hy.2)
theorem sm_dens {x y : Rat} {m n : Nat} (hx : Sm m x) (hy : Sm n y) : x.den * y.den < 2 ^ (m + n) := mul_lt_pow hx.2 hy.2
theorem sm_add {x y : Rat} {m n : Nat} (hx : Sm m x) (hy : Sm n y) : Sm (m + n + 1) (x + y) := by
  rw [Rat.add_def']
  have h1 := sm_cross hx hy
  have h2 := sm_cross hy hx
  have h3 := sm_dens hx hy
  rw [Nat.add_comm n m] at h2
  have e : 2 ^ (m + n + 1) = 2 ^ (m + n) + 2 ^ (m + n) := by rw [Nat.pow_succ]; omega
  refine low_sm (Nat.mul_ne_zero x.den_nz y.den_nz) ?_ ?_
  · rw [e]; omega
  · rw [e]; omega
theorem sm_sub {x y : Rat} {m n : Nat} (hx : Sm m x) (hy : Sm n y) : Sm (m + n + 1) (x - y) := by
  rw [Rat.sub_def']
  have h1 := sm_cross hx hy
  have h2 := sm_cross hy hx
  have h3 := sm_dens hx hy
  rw [Nat.add_comm n m] at h2
  have e : 2 ^ (m + n + 1) = 2 ^ (m + n) + 2 ^ (m + n) := by rw [Nat.pow_succ]; omega
  refine low_sm (Nat.mul_ne_zero x.den_nz y.den_nz) ?_ ?_
  · rw [e]; omega
  · rw [e]; omega
theorem sm_mul {x y : Rat} {m n : Nat} (hx : Sm m x) (hy : Sm n y) : Sm (m + n) (x * y) := by
  rw [Rat.mul_def']
  refine low_sm (Nat.mul_ne_zero x.den_nz y.den_nz) ?_ (sm_dens hx hy)
  rw [Int.natAbs_mul]
  exact mul_lt_pow hx.1 hy.1
theorem sm_zero : Sm 1 (0 : Rat) := ⟨by decide, by decide⟩
theorem sm_one : Sm 1 (1 : Rat) := ⟨by decide, by decide⟩
theorem sm_nat {n k : Nat} (h : n < 2 ^ k) (hk : 0 < k) : Sm k (n : Rat) := by
  refine ⟨by simpa using h, ?_⟩
  show 1 < 2 ^ k
  exact Nat.one_lt_two_pow (by omega)
end Wr
/-! Who rules: the fold of «more» is the least closed set; sums do not ask for an order. -/
namespace Wr
open Krcf (World sum)
open Krcg
/-! ### sums -/
theorem sum_from : ∀ (l : List Rat) (a : Rat), l.foldl (· + ·) a = a + sum l
  | [], a => (Rat.add_zero a).symm
  | x :: r, a => by
    show r.foldl (· + ·) (a + x) = a + r.foldl (· + ·) (0 + x)
    rw [sum_from r (a + x), sum_from r (0 + x), Rat.zero_add, Rat.add_assoc]
theorem sum_nil : sum [] = 0 := rfl
theorem sum_cons (x : Rat) (l : List Rat) : sum (x :: l) = x + sum l := by
  show l.foldl (· + ·) (0 + x) = x + sum l
  rw [sum_from, Rat.zero_add]
theorem sum_append (l m : List Rat) : sum (l ++ m) = sum l + sum m := by
  show (l ++ m).foldl (· + ·) 0 = sum l + sum m
  rw [List.foldl_append, sum_from m]
  rfl
theorem sum_perm {l m : List Rat} (p : l.Perm m) : sum l = sum m := by
  refine p.foldl_eq' (fun x _ y _ z => ?_) 0
  rw [Rat.add_assoc, Rat.add_comm x y, Rat.add_assoc]
theorem sum_filter_le {f : Nat → Rat} {p q : Nat → Bool} : ∀ (l : List Nat), (∀ x ∈ l, 0 ≤ f x) → (∀ x ∈ l, p x = true → q x = true) → sum ((l.filter p).map f) ≤ sum ((l.filter q).map f)
  | [], _, _ => Rat.le_refl
  | x :: r, h, k => by
    have ih := sum_filter_le (f := f) (p := p) (q := q) r (fun y m => h y (.tail _ m)) (fun y m => k y (.tail _ m))
    have hx := h x (.head _)
    rw [List.filter_cons, List.filter_cons]
    by_cases c : p x = true
    · rw [if_pos c, if_pos (k x (.head _) c), List.map_cons, List.map_cons, sum_cons, sum_cons]
      grind
    · rw [if_neg c]
      by_cases c' : q x = true
      · rw [if_pos c', List.map_cons, sum_cons]
        grind
      · rw [if_neg c']
        exact ih
/-! ### what is had depends on who is in it alone -/
theorem range_filter_perm {n : Nat} {s : List Nat} {p : Nat → Bool} (hn : s.Nodup) (hb : ∀ x ∈ s, x < n) : (s.filter p).Perm ((List.range n).filter fun i => s.contains i && p i) := by
  rw [List.perm_ext_iff_of_nodup (hn.filter _) (List.nodup_range.filter _)]
  intro a
  simp only [List.mem_filter, List.mem_range, Bool.and_eq_true, List.contains_iff_mem]
  constructor
  · rintro ⟨h1, h2⟩; exact ⟨hb a h1, h1, h2⟩
  · rintro ⟨_, h1, h2⟩; exact ⟨h1, h2⟩
theorem have_perm {w : World} {ps : Nat} {s t : List Nat} {j : Nat} (p : s.Perm t) : have_ w ps s j = have_ w ps t j := by
  unfold have_
  rw [sum_perm ((p.filter _).map _)]
theorem enough_perm {d : Desk} {ps : Nat} {s t : List Nat} {j : Nat} (p : s.Perm t) : enough d ps s j = enough d ps t j := by
  unfold enough
  rw [have_perm p]
/-- every part is 0 or more -/
def Pos (w : World) : Prop := ∀ h j, 0 ≤ w.part h j
theorem have_mono {w : World} {ps : Nat} {s t : List Nat} {j : Nat} (hp : Pos w) (hs : s.Nodup) (ht : t.Nodup) (bs : ∀ x ∈ s, x < w.firms) (bt : ∀ x ∈ t, x < w.firms) (h : ∀ x ∈ s, x ∈ t) : have_ w ps s j ≤ have_ w ps t j := by
  unfold have_
  rw [sum_perm ((range_filter_perm (p := fun i => i != j) hs bs).map _), sum_perm ((range_filter_perm (p := fun i => i != j) ht bt).map _)]
  have q := sum_filter_le (f := fun i => w.firmPart i j) (p := fun i => s.contains i && i != j) (q := fun i => t.contains i && i != j) (List.range w.firms) (fun x _ => hp _ _) (fun x _ c => by
    rw [Bool.and_eq_true, List.contains_iff_mem] at c ⊢
    exact ⟨h x c.1, c.2⟩)
  grind
theorem enough_mono {d : Desk} {ps : Nat} {s t : List Nat} {j : Nat} (hp : Pos d.w) (hs : s.Nodup) (ht : t.Nodup) (bs : ∀ x ∈ s, x < d.w.firms) (bt : ∀ x ∈ t, x < d.w.firms) (h : ∀ x ∈ s, x ∈ t) (e : enough d ps s j = true) : enough d ps t j = true := by
  unfold enough at e ⊢
  rw [Bool.and_eq_true, decide_eq_true_eq, decide_eq_true_eq] at e ⊢
  exact ⟨e.1, Rat.le_trans e.2 (have_mono hp hs ht bs bt h)⟩
/-! ### the fold -/
def iter {α : Type} (f : α → α) : Nat → α → α
  | 0, a => a
  | k + 1, a => iter f k (f a)
theorem fold_iter {α : Type} (f : α → α) : ∀ (l : List Nat) (a : α), l.foldl (fun t _ => f t) a = iter f l.length a
  | [], _ => rfl
  | _ :: r, a => fold_iter f r (f a)
theorem ruledFrom_iter (d : Desk) (ps : Nat) (s : List Nat) : ruledFrom d ps s = iter (more d ps) (d.w.firms + 1) s := by
  unfold ruledFrom
  rw [fold_iter (more d ps), List.length_range]
theorem filter_sublist_filter {p q : Nat → Bool} : ∀ (l : List Nat), (∀ x ∈ l, p x = true → q x = true) → (l.filter p).Sublist (l.filter q)
  | [], _ => List.Sublist.refl _
  | x :: r, h => by
    have ih := filter_sublist_filter (p := p) (q := q) r (fun y m => h y (.tail _ m))
    rw [List.filter_cons, List.filter_cons]
    by_cases c : p x = true
    · rw [if_pos c, if_pos (h x (.head _) c)]
      exact ih.cons_cons x
    · rw [if_neg c]
      by_cases c' : q x = true
      · rw [if_pos c']
        exact ih.cons x
      · rw [if_neg c']
        exact ih
/-- a rising list of numbers below n -/
def Canon (n : Nat) (t : List Nat) : Prop := t = (List.range n).filter fun i => t.contains i
theorem Canon.nodup {n : Nat} {t : List Nat} (h : Canon n t) : t.Nodup := by rw [h]; exact List.nodup_range.filter _
theorem Canon.lt {n : Nat} {t : List Nat} (h : Canon n t) {x : Nat} (m : x ∈ t) : x < n := by
  rw [h] at m
  exact List.mem_range.mp (List.mem_filter.mp m).1
theorem canon_filter (n : Nat) (p : Nat → Bool) : Canon n ((List.range n).filter p) := by
  unfold Canon
  refine List.filter_congr fun x hx => ?_
  rw [Bool.eq_iff_iff, List.contains_iff_mem, List.mem_filter]
  exact ⟨fun h => ⟨hx, h⟩, fun h => h.2⟩
theorem canon_ext {n : Nat} {s t : List Nat} (hs : Canon n s) (ht : Canon n t) (h : ∀ x, x ∈ s ↔ x ∈ t) : s = t := by
  rw [hs, ht]
  refine List.filter_congr fun x _ => ?_
  rw [Bool.eq_iff_iff, List.contains_iff_mem, List.contains_iff_mem]
  exact h x
theorem Canon.sorted {n : Nat} {t : List Nat} (h : Canon n t) : t.Pairwise (· < ·) := by
  rw [h]; exact List.pairwise_lt_range.filter _
theorem Canon.length {n : Nat} {t : List Nat} (h : Canon n t) : t.length ≤ n := by
  rw [h]
  exact Nat.le_trans (List.length_filter_le _ _) (by rw [List.length_range]; exact Nat.le_refl _)
theorem more_canon (d : Desk) (ps : Nat) (s : List Nat) : Canon d.w.firms (more d ps s) := canon_filter _ _
theorem mem_more {d : Desk} {ps : Nat} {s : List Nat} {x : Nat} : x ∈ more d ps s ↔ x < d.w.firms ∧ (x ∈ s ∨ enough d ps s x = true) := by
  unfold more World.fs
  rw [List.mem_filter, List.mem_range, Bool.or_eq_true, List.contains_iff_mem]
theorem more_sublist {d : Desk} {ps : Nat} {t : List Nat} (h : Canon d.w.firms t) : t.Sublist (more d ps t) := by
  have e : t.Sublist ((List.range d.w.firms).filter fun j => t.contains j || enough d ps t j) := by
    conv => lhs; rw [h]
    exact filter_sublist_filter _ fun x _ c => by rw [c]; rfl
  exact e
theorem iter_stable {α : Type} {f : α → α} {a : α} (h : f a = a) : ∀ k, iter f k a = a
  | 0 => rfl
  | k + 1 => by
    show iter f k (f a) = a
    rw [h]
    exact iter_stable h k
theorem more_stable {d : Desk} {ps : Nat} : ∀ (m : Nat) (t : List Nat), Canon d.w.firms t → d.w.firms ≤ t.length + m → more d ps (iter (more d ps) m t) = iter (more d ps) m t
  | 0, t, c, h => by
    have hs := more_sublist (ps := ps) c
    exact (hs.eq_of_length_le (Nat.le_trans (more_canon d ps t).length h)).symm
  | m + 1, t, c, h => by
    show more d ps (iter (more d ps) m (more d ps t)) = iter (more d ps) m (more d ps t)
    have hs := more_sublist (ps := ps) c
    by_cases e : more d ps t = t
    · rw [e, iter_stable e m, e]
    · refine more_stable m _ (more_canon d ps t) ?_
      have hl := hs.length_le
      have hn : t.length ≠ (more d ps t).length := fun z => e (hs.eq_of_length z).symm
      omega
/-! ### the least closed set -/
def Closed (d : Desk) (ps : Nat) (t : List Nat) : Prop := ∀ j, j < d.w.firms → enough d ps t j = true → j ∈ t
/-- all of r must be in whatever is closed and has s -/
def Sound (d : Desk) (ps : Nat) (s r : List Nat) : Prop := ∀ t : List Nat, t.Nodup → (∀ x ∈ t, x < d.w.firms) → (∀ x ∈ s, x ∈ t) → Closed d ps t → ∀ x ∈ r, x ∈ t
theorem ruledFrom_canon (d : Desk) (ps : Nat) (s : List Nat) : Canon d.w.firms (ruledFrom d ps s) := by
  rw [ruledFrom_iter]
  have : ∀ (k : Nat) (t : List Nat), Canon d.w.firms (iter (more d ps) (k + 1) t) := by
    intro k
    induction k with
    | zero => intro t; exact more_canon d ps t
    | succ k ih => intro t; exact ih (more d ps t)
  exact this _ s
theorem ruledFrom_stable (d : Desk) (ps : Nat) (s : List Nat) : more d ps (ruledFrom d ps s) = ruledFrom d ps s := by
  rw [ruledFrom_iter]
  exact more_stable d.w.firms (more d ps s) (more_canon d ps s) (Nat.le_add_left _ _)
theorem ruledFrom_closed (d : Desk) (ps : Nat) (s : List Nat) : Closed d ps (ruledFrom d ps s) := fun j hj e => by
  rw [← ruledFrom_stable]
  exact mem_more.mpr ⟨hj, .inr e⟩
theorem iter_mem {d : Desk} {ps : Nat} : ∀ (k : Nat) (s : List Nat) {x : Nat}, x < d.w.firms → x ∈ s → x ∈ iter (more d ps) k s
  | 0, _, _, _, h => h
  | k + 1, _, _, b, h => iter_mem k _ b (mem_more.mpr ⟨b, .inl h⟩)
theorem ruledFrom_has {d : Desk} {ps : Nat} {s : List Nat} {x : Nat} (b : x < d.w.firms) (h : x ∈ s) : x ∈ ruledFrom d ps s := by
  rw [ruledFrom_iter]
  exact iter_mem _ _ b h
theorem Sound.more {d : Desk} {ps : Nat} {s r : List Nat} (hp : Pos d.w) (hn : r.Nodup) (hb : ∀ x ∈ r, x < d.w.firms) (h : Sound d ps s r) : Sound d ps s (more d ps r) := fun t tn tb ts tc x hx => by
  obtain ⟨b, m | e⟩ := mem_more.mp hx
  · exact h t tn tb ts tc x m
  · exact tc x b (enough_mono hp hn tn hb tb (h t tn tb ts tc) e)
theorem Sound.iter {d : Desk} {ps : Nat} {s : List Nat} (hp : Pos d.w) : ∀ (k : Nat) (r : List Nat), r.Nodup → (∀ x ∈ r, x < d.w.firms) → Sound d ps s r → Sound d ps s (iter (Krcg.more d ps) k r)
  | 0, _, _, _, h => h
  | k + 1, r, hn, hb, h => Sound.iter hp k _ (more_canon d ps r).nodup (fun _ m => (more_canon d ps r).lt m) (h.more hp hn hb)
theorem Sound.start (d : Desk) (ps : Nat) (s : List Nat) : Sound d ps s s := fun _ _ _ h _ => h
theorem ruledFrom_sound {d : Desk} {ps : Nat} {s : List Nat} (hp : Pos d.w) (hn : s.Nodup) (hb : ∀ x ∈ s, x < d.w.firms) : Sound d ps s (ruledFrom d ps s) := by
  rw [ruledFrom_iter]
  exact (Sound.start d ps s).iter hp _ _ hn hb
/-- one more that must be -/
theorem Sound.cons {d : Desk} {ps : Nat} {s r : List Nat} {j : Nat} (hp : Pos d.w) (hn : r.Nodup) (hb : ∀ x ∈ r, x < d.w.firms) (h : Sound d ps s r) (hj : j < d.w.firms) (e : enough d ps r j = true) : Sound d ps s (r ++ [j]) := fun t tn tb ts tc x hx => by
  rcases List.mem_append.mp hx with m | m
  · exact h t tn tb ts tc x m
  · cases List.mem_singleton.mp m
    exact tc _ hj (enough_mono hp hn tn hb tb (h t tn tb ts tc) e)
theorem Sound.app {d : Desk} {ps : Nat} {s r u : List Nat} (hp : Pos d.w) (hn : r.Nodup) (hb : ∀ x ∈ r, x < d.w.firms) (h : Sound d ps s r) (hu : ∀ x ∈ u, x < d.w.firms ∧ enough d ps r x = true) : Sound d ps s (r ++ u) := fun t tn tb ts tc x hx => by
  rcases List.mem_append.mp hx with m | m
  · exact h t tn tb ts tc x m
  · exact tc _ (hu x m).1 (enough_mono hp hn tn hb tb (h t tn tb ts tc) (hu x m).2)
/-- what is closed, has s and is sound is what is ruled from s on -/
theorem ruledFrom_perm {d : Desk} {ps : Nat} {s r : List Nat} (hp : Pos d.w) (sn : s.Nodup) (sb : ∀ x ∈ s, x < d.w.firms) (rn : r.Nodup) (rb : ∀ x ∈ r, x < d.w.firms) (hs : ∀ x ∈ s, x ∈ r) (hc : Closed d ps r) (hso : Sound d ps s r) : r.Perm (ruledFrom d ps s) := by
  rw [List.perm_ext_iff_of_nodup rn (ruledFrom_canon d ps s).nodup]
  intro x
  constructor
  · exact hso _ (ruledFrom_canon d ps s).nodup (fun _ m => (ruledFrom_canon d ps s).lt m) (fun y m => ruledFrom_has (sb y m) m) (ruledFrom_closed d ps s) x
  · exact ruledFrom_sound hp sn sb r rn rb hs hc x
/-- a rising list with the same members is the same list -/
theorem eq_of_rising {n : Nat} {r t : List Nat} (hr : r.Pairwise (· ≤ ·)) (p : r.Perm t) (ht : Canon n t) : r = t := by
  refine p.eq_of_pairwise (le := (· ≤ ·)) (fun a b _ _ h1 h2 => Nat.le_antisymm h1 h2) hr (ht.sorted.imp Nat.le_of_lt)
end Wr
namespace Wr
open PySem PySem.Spec PyProof.Rows L2
def top (i : Nat) : Stmt := PySem.Challenge.pw_whorules_s01_answers.main.body.getD i (.Pass ⟨0, 0, 0, 0⟩)
abbrev s_greatest_common : Stmt := top 3
theorem sc_greatest_common : FnScope ["first", "second", "rest"] ["first", "second"] (defScope s_greatest_common) := ⟨rfl, rfl, rfl, by decide +kernel, rfl, by decide +kernel, by decide +kernel⟩
abbrev s_lowest : Stmt := top 4
theorem sc_lowest : FnScope ["upper", "lower", "common"] ["upper", "lower"] (defScope s_lowest) := ⟨rfl, rfl, rfl, by decide +kernel, rfl, by decide +kernel, by decide +kernel⟩
abbrev s_plus : Stmt := top 5
theorem sc_plus : FnScope ["first", "second"] ["first", "second"] (defScope s_plus) := ⟨rfl, rfl, rfl, by decide +kernel, rfl, by decide +kernel, by decide +kernel⟩
abbrev s_minus : Stmt := top 6
theorem sc_minus : FnScope ["first", "second"] ["first", "second"] (defScope s_minus) := ⟨rfl, rfl, rfl, by decide +kernel, rfl, by decide +kernel, by decide +kernel⟩
abbrev s_times : Stmt := top 7
theorem sc_times : FnScope ["first", "second"] ["first", "second"] (defScope s_times) := ⟨rfl, rfl, rfl, by decide +kernel, rfl, by decide +kernel, by decide +kernel⟩
abbrev s_at_least : Stmt := top 8
theorem sc_at_least : FnScope ["first", "second"] ["first", "second"] (defScope s_at_least) := ⟨rfl, rfl, rfl, by decide +kernel, rfl, by decide +kernel, by decide +kernel⟩
abbrev s_Book_init : Stmt := inClass (top 12) 0
theorem sc_Book_init : FnScope ["self", "people", "companies", "holder"] ["self", "people", "companies"] (defScope s_Book_init) := ⟨rfl, rfl, rfl, by decide +kernel, rfl, by decide +kernel, by decide +kernel⟩
abbrev s_Book_has_person : Stmt := inClass (top 12) 1
theorem sc_Book_has_person : FnScope ["self", "person"] ["self", "person"] (defScope s_Book_has_person) := ⟨rfl, rfl, rfl, by decide +kernel, rfl, by decide +kernel, by decide +kernel⟩
abbrev s_Book_has_company : Stmt := inClass (top 12) 2
theorem sc_Book_has_company : FnScope ["self", "company"] ["self", "company"] (defScope s_Book_has_company) := ⟨rfl, rfl, rfl, by decide +kernel, rfl, by decide +kernel, by decide +kernel⟩
abbrev s_Book_has_holder : Stmt := inClass (top 12) 3
theorem sc_Book_has_holder : FnScope ["self", "holder"] ["self", "holder"] (defScope s_Book_has_holder) := ⟨rfl, rfl, rfl, by decide +kernel, rfl, by decide +kernel, by decide +kernel⟩
abbrev s_Book_company_as_holder : Stmt := inClass (top 12) 4
theorem sc_Book_company_as_holder : FnScope ["self", "company"] ["self", "company"] (defScope s_Book_company_as_holder) := ⟨rfl, rfl, rfl, by decide +kernel, rfl, by decide +kernel, by decide +kernel⟩
abbrev s_Book_part_of : Stmt := inClass (top 12) 5
theorem sc_Book_part_of : FnScope ["self", "holder", "company"] ["self", "holder", "company"] (defScope s_Book_part_of) := ⟨rfl, rfl, rfl, by decide +kernel, rfl, by decide +kernel, by decide +kernel⟩
abbrev s_Book_give_part : Stmt := inClass (top 12) 6
theorem sc_Book_give_part : FnScope ["self", "holder", "company", "share"] ["self", "holder", "company", "share"] (defScope s_Book_give_part) := ⟨rfl, rfl, rfl, by decide +kernel, rfl, by decide +kernel, by decide +kernel⟩
abbrev s_Book_held_by : Stmt := inClass (top 12) 7
theorem sc_Book_held_by : FnScope ["self", "holders", "company", "total", "holder"] ["self", "holders", "company"] (defScope s_Book_held_by) := ⟨rfl, rfl, rfl, by decide +kernel, rfl, by decide +kernel, by decide +kernel⟩
abbrev s_Book_held_by_others : Stmt := inClass (top 12) 8
theorem sc_Book_held_by_others : FnScope ["self", "holder", "company", "others", "other"] ["self", "holder", "company"] (defScope s_Book_held_by_others) := ⟨rfl, rfl, rfl, by decide +kernel, rfl, by decide +kernel, by decide +kernel⟩
abbrev s_votes_of : Stmt := top 14
theorem sc_votes_of : FnScope ["book", "company"] ["book", "company"] (defScope s_votes_of) := ⟨rfl, rfl, rfl, by decide +kernel, rfl, by decide +kernel, by decide +kernel⟩
abbrev s_has_votes : Stmt := top 15
theorem sc_has_votes : FnScope ["book", "company"] ["book", "company"] (defScope s_has_votes) := ⟨rfl, rfl, rfl, by decide +kernel, rfl, by decide +kernel, by decide +kernel⟩
abbrev s_needed_of : Stmt := top 16
theorem sc_needed_of : FnScope ["book", "company"] ["book", "company"] (defScope s_needed_of) := ⟨rfl, rfl, rfl, by decide +kernel, rfl, by decide +kernel, by decide +kernel⟩
abbrev s_commanded : Stmt := top 17
theorem sc_commanded : FnScope ["book", "people", "ruled", "company", "holders", "other"] ["book", "people", "ruled", "company"] (defScope s_commanded) := ⟨rfl, rfl, rfl, by decide +kernel, rfl, by decide +kernel, by decide +kernel⟩
abbrev s_is_ruled_by_way_of : Stmt := top 18
theorem sc_is_ruled_by_way_of : FnScope ["book", "people", "ruled", "company"] ["book", "people", "ruled", "company"] (defScope s_is_ruled_by_way_of) := ⟨rfl, rfl, rfl, by decide +kernel, rfl, by decide +kernel, by decide +kernel⟩
abbrev s_newly_ruled : Stmt := top 19
theorem sc_newly_ruled : FnScope ["book", "people", "ruled", "fresh", "company"] ["book", "people", "ruled"] (defScope s_newly_ruled) := ⟨rfl, rfl, rfl, by decide +kernel, rfl, by decide +kernel, by decide +kernel⟩
abbrev s_ruled_from : Stmt := top 20
theorem sc_ruled_from : FnScope ["book", "people", "ruled", "fresh"] ["book", "people", "ruled"] (defScope s_ruled_from) := ⟨rfl, rfl, rfl, by decide +kernel, rfl, by decide +kernel, by decide +kernel⟩
abbrev s_ruled_together : Stmt := top 21
theorem sc_ruled_together : FnScope ["book", "people"] ["book", "people"] (defScope s_ruled_together) := ⟨rfl, rfl, rfl, by decide +kernel, rfl, by decide +kernel, by decide +kernel⟩
abbrev s_rulers_of : Stmt := top 22
theorem sc_rulers_of : FnScope ["book", "company", "person"] ["book", "company"] (defScope s_rulers_of) := ⟨rfl, rfl, rfl, by decide +kernel, rfl, by decide +kernel, by decide +kernel⟩
abbrev s_ruled_by_each_other : Stmt := top 23
theorem sc_ruled_by_each_other : FnScope ["book", "companies", "company"] ["book", "companies"] (defScope s_ruled_by_each_other) := ⟨rfl, rfl, rfl, by decide +kernel, rfl, by decide +kernel, by decide +kernel⟩
abbrev s_self_ruled : Stmt := top 24
theorem sc_self_ruled : FnScope ["book", "kept", "still"] ["book"] (defScope s_self_ruled) := ⟨rfl, rfl, rfl, by decide +kernel, rfl, by decide +kernel, by decide +kernel⟩
abbrev s_free_companies : Stmt := top 25
theorem sc_free_companies : FnScope ["book", "bound", "person", "company"] ["book"] (defScope s_free_companies) := ⟨rfl, rfl, rfl, by decide +kernel, rfl, by decide +kernel, by decide +kernel⟩
abbrev s_lack_of : Stmt := top 26
theorem sc_lack_of : FnScope ["book", "person", "ruled", "company", "short"] ["book", "person", "ruled", "company"] (defScope s_lack_of) := ⟨rfl, rfl, rfl, by decide +kernel, rfl, by decide +kernel, by decide +kernel⟩
abbrev s_Way_init : Stmt := inClass (top 28) 0
theorem sc_Way_init : FnScope ["self", "bought", "cost", "ruled"] ["self", "bought", "cost", "ruled"] (defScope s_Way_init) := ⟨rfl, rfl, rfl, by decide +kernel, rfl, by decide +kernel, by decide +kernel⟩
abbrev s_way_with : Stmt := top 29
theorem sc_way_with : FnScope ["book", "person", "way", "company", "share", "cost", "ruled"] ["book", "person", "way", "company"] (defScope s_way_with) := ⟨rfl, rfl, rfl, by decide +kernel, rfl, by decide +kernel, by decide +kernel⟩
abbrev s_ways_onward : Stmt := top 30
theorem sc_ways_onward : FnScope ["book", "person", "ways", "onward", "way", "company"] ["book", "person", "ways"] (defScope s_ways_onward) := ⟨rfl, rfl, rfl, by decide +kernel, rfl, by decide +kernel, by decide +kernel⟩
abbrev s_is_cheaper : Stmt := top 31
theorem sc_is_cheaper : FnScope ["way", "best"] ["way", "best"] (defScope s_is_cheaper) := ⟨rfl, rfl, rfl, by decide +kernel, rfl, by decide +kernel, by decide +kernel⟩
abbrev s_cheapest_that_rules : Stmt := top 32
theorem sc_cheapest_that_rules : FnScope ["best", "ways", "company", "way"] ["best", "ways", "company"] (defScope s_cheapest_that_rules) := ⟨rfl, rfl, rfl, by decide +kernel, rfl, by decide +kernel, by decide +kernel⟩
abbrev s_worth_going_on : Stmt := top 33
theorem sc_worth_going_on : FnScope ["ways", "best", "company", "way"] ["ways", "best", "company"] (defScope s_worth_going_on) := ⟨rfl, rfl, rfl, by decide +kernel, rfl, by decide +kernel, by decide +kernel⟩
abbrev s_cheapest_way : Stmt := top 34
theorem sc_cheapest_way : FnScope ["book", "person", "company", "best", "ways"] ["book", "person", "company"] (defScope s_cheapest_way) := ⟨rfl, rfl, rfl, by decide +kernel, rfl, by decide +kernel, by decide +kernel⟩
abbrev s_group_count : Stmt := top 36
theorem sc_group_count : FnScope ["book"] ["book"] (defScope s_group_count) := ⟨rfl, rfl, rfl, by decide +kernel, rfl, by decide +kernel, by decide +kernel⟩
abbrev s_is_member : Stmt := top 37
theorem sc_is_member : FnScope ["group", "person"] ["group", "person"] (defScope s_is_member) := ⟨rfl, rfl, rfl, by decide +kernel, rfl, by decide +kernel, by decide +kernel⟩
abbrev s_without : Stmt := top 38
theorem sc_without : FnScope ["group", "person"] ["group", "person"] (defScope s_without) := ⟨rfl, rfl, rfl, by decide +kernel, rfl, by decide +kernel, by decide +kernel⟩
abbrev s_members_of : Stmt := top 39
theorem sc_members_of : FnScope ["book", "group", "person"] ["book", "group"] (defScope s_members_of) := ⟨rfl, rfl, rfl, by decide +kernel, rfl, by decide +kernel, by decide +kernel⟩
abbrev s_ruled_by_group : Stmt := top 40
theorem sc_ruled_by_group : FnScope ["book", "group"] ["book", "group"] (defScope s_ruled_by_group) := ⟨rfl, rfl, rfl, by decide +kernel, rfl, by decide +kernel, by decide +kernel⟩
abbrev s_ruling_groups : Stmt := top 41
theorem sc_ruling_groups : FnScope ["book", "company", "group"] ["book", "company"] (defScope s_ruling_groups) := ⟨rfl, rfl, rfl, by decide +kernel, rfl, by decide +kernel, by decide +kernel⟩
abbrev s_hangs_on : Stmt := top 42
theorem sc_hangs_on : FnScope ["ruling", "group", "person"] ["ruling", "group", "person"] (defScope s_hangs_on) := ⟨rfl, rfl, rfl, by decide +kernel, rfl, by decide +kernel, by decide +kernel⟩
abbrev s_needs_all : Stmt := top 43
theorem sc_needs_all : FnScope ["book", "ruling", "group", "person"] ["book", "ruling", "group"] (defScope s_needs_all) := ⟨rfl, rfl, rfl, by decide +kernel, rfl, by decide +kernel, by decide +kernel⟩
abbrev s_least_groups : Stmt := top 44
theorem sc_least_groups : FnScope ["book", "company", "ruling", "group"] ["book", "company"] (defScope s_least_groups) := ⟨rfl, rfl, rfl, by decide +kernel, rfl, by decide +kernel, by decide +kernel⟩
abbrev s_weight_of : Stmt := top 45
theorem sc_weight_of : FnScope ["book", "person", "company", "ruling", "group"] ["book", "person", "company"] (defScope s_weight_of) := ⟨rfl, rfl, rfl, by decide +kernel, rfl, by decide +kernel, by decide +kernel⟩
abbrev s_with_fraction : Stmt := top 53
theorem sc_with_fraction : FnScope ["fraction"] ["fraction"] (defScope s_with_fraction) := ⟨rfl, rfl, rfl, by decide +kernel, rfl, by decide +kernel, by decide +kernel⟩
abbrev s_with_count : Stmt := top 54
theorem sc_with_count : FnScope ["numbers"] ["numbers"] (defScope s_with_count) := ⟨rfl, rfl, rfl, by decide +kernel, rfl, by decide +kernel, by decide +kernel⟩
abbrev s_is_share : Stmt := top 55
theorem sc_is_share : FnScope ["upper", "lower"] ["upper", "lower"] (defScope s_is_share) := ⟨rfl, rfl, rfl, by decide +kernel, rfl, by decide +kernel, by decide +kernel⟩
abbrev s_hold : Stmt := top 56
theorem sc_hold : FnScope ["book", "given", "holder", "company", "share", "before"] ["book", "given"] (defScope s_hold) := ⟨rfl, rfl, rfl, by decide +kernel, rfl, by decide +kernel, by decide +kernel⟩
abbrev s_part : Stmt := top 57
theorem sc_part : FnScope ["book", "given", "holder", "company"] ["book", "given"] (defScope s_part) := ⟨rfl, rfl, rfl, by decide +kernel, rfl, by decide +kernel, by decide +kernel⟩
abbrev s_quorum : Stmt := top 58
theorem sc_quorum : FnScope ["book", "given", "upper", "lower"] ["book", "given"] (defScope s_quorum) := ⟨rfl, rfl, rfl, by decide +kernel, rfl, by decide +kernel, by decide +kernel⟩
abbrev s_prices : Stmt := top 59
theorem sc_prices : FnScope ["book", "given"] ["book", "given"] (defScope s_prices) := ⟨rfl, rfl, rfl, by decide +kernel, rfl, by decide +kernel, by decide +kernel⟩
abbrev s_votes : Stmt := top 60
theorem sc_votes : FnScope ["book", "given", "company"] ["book", "given"] (defScope s_votes) := ⟨rfl, rfl, rfl, by decide +kernel, rfl, by decide +kernel, by decide +kernel⟩
abbrev s_rules : Stmt := top 61
theorem sc_rules : FnScope ["book", "given", "person"] ["book", "given"] (defScope s_rules) := ⟨rfl, rfl, rfl, by decide +kernel, rfl, by decide +kernel, by decide +kernel⟩
abbrev s_ruler : Stmt := top 62
theorem sc_ruler : FnScope ["book", "given", "company", "rulers"] ["book", "given"] (defScope s_ruler) := ⟨rfl, rfl, rfl, by decide +kernel, rfl, by decide +kernel, by decide +kernel⟩
abbrev s_selfruled : Stmt := top 63
theorem sc_selfruled : FnScope ["book", "given"] ["book", "given"] (defScope s_selfruled) := ⟨rfl, rfl, rfl, by decide +kernel, rfl, by decide +kernel, by decide +kernel⟩
abbrev s_free : Stmt := top 64
theorem sc_free : FnScope ["book", "given"] ["book", "given"] (defScope s_free) := ⟨rfl, rfl, rfl, by decide +kernel, rfl, by decide +kernel, by decide +kernel⟩
abbrev s_together : Stmt := top 65
theorem sc_together : FnScope ["book", "given", "group"] ["book", "given"] (defScope s_together) := ⟨rfl, rfl, rfl, by decide +kernel, rfl, by decide +kernel, by decide +kernel⟩
abbrev s_least : Stmt := top 66
theorem sc_least : FnScope ["book", "given", "company"] ["book", "given"] (defScope s_least) := ⟨rfl, rfl, rfl, by decide +kernel, rfl, by decide +kernel, by decide +kernel⟩
abbrev s_weight : Stmt := top 67
theorem sc_weight : FnScope ["book", "given", "person", "company"] ["book", "given"] (defScope s_weight) := ⟨rfl, rfl, rfl, by decide +kernel, rfl, by decide +kernel, by decide +kernel⟩
abbrev s_cheapest : Stmt := top 68
theorem sc_cheapest : FnScope ["book", "given", "person", "company", "way", "told", "bought", "share"] ["book", "given"] (defScope s_cheapest) := ⟨rfl, rfl, rfl, by decide +kernel, rfl, by decide +kernel, by decide +kernel⟩
abbrev s_lacking : Stmt := top 69
theorem sc_lacking : FnScope ["book", "given", "person", "company"] ["book", "given"] (defScope s_lacking) := ⟨rfl, rfl, rfl, by decide +kernel, rfl, by decide +kernel, by decide +kernel⟩
abbrev s_state : Stmt := top 70
theorem sc_state : FnScope ["book", "given"] ["book", "given"] (defScope s_state) := ⟨rfl, rfl, rfl, by decide +kernel, rfl, by decide +kernel, by decide +kernel⟩
abbrev s_answer_call : Stmt := top 72
theorem sc_answer_call : FnScope ["book", "number", "given", "call"] ["book", "number", "given"] (defScope s_answer_call) := ⟨rfl, rfl, rfl, by decide +kernel, rfl, by decide +kernel, by decide +kernel⟩
abbrev s_Desk_init : Stmt := inClass (top 79) 0
theorem sc_Desk_init : FnScope ["self"] ["self"] (defScope s_Desk_init) := ⟨rfl, rfl, rfl, by decide +kernel, rfl, by decide +kernel, by decide +kernel⟩
abbrev s_Desk_begin : Stmt := inClass (top 79) 1
theorem sc_Desk_begin : FnScope ["self", "people", "companies"] ["self", "people", "companies"] (defScope s_Desk_begin) := ⟨rfl, rfl, rfl, by decide +kernel, rfl, by decide +kernel, by decide +kernel⟩
abbrev s_Desk_answer : Stmt := inClass (top 79) 2
theorem sc_Desk_answer : FnScope ["self", "number", "given"] ["self", "number", "given"] (defScope s_Desk_answer) := ⟨rfl, rfl, rfl, by decide +kernel, rfl, by decide +kernel, by decide +kernel⟩
abbrev s_start_of_given : Stmt := top 80
theorem sc_start_of_given : FnScope ["calls", "place"] ["calls", "place"] (defScope s_start_of_given) := ⟨rfl, rfl, rfl, by decide +kernel, rfl, by decide +kernel, by decide +kernel⟩
abbrev s_count_of_given : Stmt := top 81
theorem sc_count_of_given : FnScope ["calls", "place"] ["calls", "place"] (defScope s_count_of_given) := ⟨rfl, rfl, rfl, by decide +kernel, rfl, by decide +kernel, by decide +kernel⟩
abbrev s_answers : Stmt := top 82
theorem sc_answers : FnScope ["calls", "desk", "told", "place", "start", "end", "answer"] ["calls"] (defScope s_answers) := ⟨rfl, rfl, rfl, by decide +kernel, rfl, by decide +kernel, by decide +kernel⟩
/-- where things stand -/
structure Ad where
  f_greatest_common : Addr
  d_greatest_common : FuncData
  f_lowest : Addr
  d_lowest : FuncData
  f_plus : Addr
  d_plus : FuncData
  f_minus : Addr
  d_minus : FuncData
  f_times : Addr
  d_times : FuncData
  f_at_least : Addr
  d_at_least : FuncData
  f_Book_init : Addr
  d_Book_init : FuncData
  f_Book_has_person : Addr
  d_Book_has_person : FuncData
  f_Book_has_company : Addr
  d_Book_has_company : FuncData
  f_Book_has_holder : Addr
  d_Book_has_holder : FuncData
  f_Book_company_as_holder : Addr
  d_Book_company_as_holder : FuncData
  f_Book_part_of : Addr
  d_Book_part_of : FuncData
  f_Book_give_part : Addr
  d_Book_give_part : FuncData
  f_Book_held_by : Addr
  d_Book_held_by : FuncData
  f_Book_held_by_others : Addr
  d_Book_held_by_others : FuncData
  f_votes_of : Addr
  d_votes_of : FuncData
  f_has_votes : Addr
  d_has_votes : FuncData
  f_needed_of : Addr
  d_needed_of : FuncData
  f_commanded : Addr
  d_commanded : FuncData
  f_is_ruled_by_way_of : Addr
  d_is_ruled_by_way_of : FuncData
  f_newly_ruled : Addr
  d_newly_ruled : FuncData
  f_ruled_from : Addr
  d_ruled_from : FuncData
  f_ruled_together : Addr
  d_ruled_together : FuncData
  f_rulers_of : Addr
  d_rulers_of : FuncData
  f_ruled_by_each_other : Addr
  d_ruled_by_each_other : FuncData
  f_self_ruled : Addr
  d_self_ruled : FuncData
  f_free_companies : Addr
  d_free_companies : FuncData
  f_lack_of : Addr
  d_lack_of : FuncData
  f_Way_init : Addr
  d_Way_init : FuncData
  f_way_with : Addr
  d_way_with : FuncData
  f_ways_onward : Addr
  d_ways_onward : FuncData
  f_is_cheaper : Addr
  d_is_cheaper : FuncData
  f_cheapest_that_rules : Addr
  d_cheapest_that_rules : FuncData
  f_worth_going_on : Addr
  d_worth_going_on : FuncData
  f_cheapest_way : Addr
  d_cheapest_way : FuncData
  f_group_count : Addr
  d_group_count : FuncData
  f_is_member : Addr
  d_is_member : FuncData
  f_without : Addr
  d_without : FuncData
  f_members_of : Addr
  d_members_of : FuncData
  f_ruled_by_group : Addr
  d_ruled_by_group : FuncData
  f_ruling_groups : Addr
  d_ruling_groups : FuncData
  f_hangs_on : Addr
  d_hangs_on : FuncData
  f_needs_all : Addr
  d_needs_all : FuncData
  f_least_groups : Addr
  d_least_groups : FuncData
  f_weight_of : Addr
  d_weight_of : FuncData
  f_with_fraction : Addr
  d_with_fraction : FuncData
  f_with_count : Addr
  d_with_count : FuncData
  f_is_share : Addr
  d_is_share : FuncData
  f_hold : Addr
  d_hold : FuncData
  f_part : Addr
  d_part : FuncData
  f_quorum : Addr
  d_quorum : FuncData
  f_prices : Addr
  d_prices : FuncData
  f_votes : Addr
  d_votes : FuncData
  f_rules : Addr
  d_rules : FuncData
  f_ruler : Addr
  d_ruler : FuncData
  f_selfruled : Addr
  d_selfruled : FuncData
  f_free : Addr
  d_free : FuncData
  f_together : Addr
  d_together : FuncData
  f_least : Addr
  d_least : FuncData
  f_weight : Addr
  d_weight : FuncData
  f_cheapest : Addr
  d_cheapest : FuncData
  f_lacking : Addr
  d_lacking : FuncData
  f_state : Addr
  d_state : FuncData
  f_answer_call : Addr
  d_answer_call : FuncData
  f_Desk_init : Addr
  d_Desk_init : FuncData
  f_Desk_begin : Addr
  d_Desk_begin : FuncData
  f_Desk_answer : Addr
  d_Desk_answer : FuncData
  f_start_of_given : Addr
  d_start_of_given : FuncData
  f_count_of_given : Addr
  d_count_of_given : FuncData
  f_answers : Addr
  d_answers : FuncData
  C_Book : Addr
  C_Way : Addr
  C_Desk : Addr
  a_ZERO : Addr
  a_ONE : Addr
  a_FIRST_QUORUM : Addr
  t_FIRST_PRICE : Tok
  t_NO_SUCH : Tok
  t_NOT_BEGUN : Tok
  t_NOT_RIGHT : Tok
  t_NONE_OR_TOO_MUCH : Tok
  t_MOST_LOWER : Tok
  t_MOST_PRICE : Tok
  a_CALLS : Addr
  t_MOST_PEOPLE : Tok
  t_MOST_COMPANIES : Tok
  t_BEGIN : Tok
  t_PRICES : Tok
  a_COUNTS : Addr
/-- a def of the text -/
structure Df (K : PySem.W.Frag) (mg : Str → Option Value) (x : Str) (st : Stmt) (ps : List Str) (f : Addr) (fd : FuncData) : Prop where
  F : Fun K x x st f fd
  g : mg x = some (.ref f)
  b : Binds K fd ps []
/-- a method of the text -/
structure Dm (K : PySem.W.Frag) (x q : Str) (st : Stmt) (ps : List Str) (f : Addr) (fd : FuncData) : Prop where
  F : Fun K x q st f fd
  b : Binds K fd ps []
/-- what the top has written -/
structure Txt (K : PySem.W.Frag) (mg : Str → Option Value) (A : Ad) : Prop where
  d_greatest_common : Df K mg "greatest_common" s_greatest_common ["first", "second"] A.f_greatest_common A.d_greatest_common
  d_lowest : Df K mg "lowest" s_lowest ["upper", "lower"] A.f_lowest A.d_lowest
  d_plus : Df K mg "plus" s_plus ["first", "second"] A.f_plus A.d_plus
  d_minus : Df K mg "minus" s_minus ["first", "second"] A.f_minus A.d_minus
  d_times : Df K mg "times" s_times ["first", "second"] A.f_times A.d_times
  d_at_least : Df K mg "at_least" s_at_least ["first", "second"] A.f_at_least A.d_at_least
  d_Book_init : Dm K "__init__" "Book.__init__" s_Book_init ["self", "people", "companies"] A.f_Book_init A.d_Book_init
  d_Book_has_person : Dm K "has_person" "Book.has_person" s_Book_has_person ["self", "person"] A.f_Book_has_person A.d_Book_has_person
  m_Book_has_person : Meth K A.C_Book "has_person" A.f_Book_has_person
  d_Book_has_company : Dm K "has_company" "Book.has_company" s_Book_has_company ["self", "company"] A.f_Book_has_company A.d_Book_has_company
  m_Book_has_company : Meth K A.C_Book "has_company" A.f_Book_has_company
  d_Book_has_holder : Dm K "has_holder" "Book.has_holder" s_Book_has_holder ["self", "holder"] A.f_Book_has_holder A.d_Book_has_holder
  m_Book_has_holder : Meth K A.C_Book "has_holder" A.f_Book_has_holder
  d_Book_company_as_holder : Dm K "company_as_holder" "Book.company_as_holder" s_Book_company_as_holder ["self", "company"] A.f_Book_company_as_holder A.d_Book_company_as_holder
  m_Book_company_as_holder : Meth K A.C_Book "company_as_holder" A.f_Book_company_as_holder
  d_Book_part_of : Dm K "part_of" "Book.part_of" s_Book_part_of ["self", "holder", "company"] A.f_Book_part_of A.d_Book_part_of
  m_Book_part_of : Meth K A.C_Book "part_of" A.f_Book_part_of
  d_Book_give_part : Dm K "give_part" "Book.give_part" s_Book_give_part ["self", "holder", "company", "share"] A.f_Book_give_part A.d_Book_give_part
  m_Book_give_part : Meth K A.C_Book "give_part" A.f_Book_give_part
  d_Book_held_by : Dm K "held_by" "Book.held_by" s_Book_held_by ["self", "holders", "company"] A.f_Book_held_by A.d_Book_held_by
  m_Book_held_by : Meth K A.C_Book "held_by" A.f_Book_held_by
  d_Book_held_by_others : Dm K "held_by_others" "Book.held_by_others" s_Book_held_by_others ["self", "holder", "company"] A.f_Book_held_by_others A.d_Book_held_by_others
  m_Book_held_by_others : Meth K A.C_Book "held_by_others" A.f_Book_held_by_others
  d_votes_of : Df K mg "votes_of" s_votes_of ["book", "company"] A.f_votes_of A.d_votes_of
  d_has_votes : Df K mg "has_votes" s_has_votes ["book", "company"] A.f_has_votes A.d_has_votes
  d_needed_of : Df K mg "needed_of" s_needed_of ["book", "company"] A.f_needed_of A.d_needed_of
  d_commanded : Df K mg "commanded" s_commanded ["book", "people", "ruled", "company"] A.f_commanded A.d_commanded
  d_is_ruled_by_way_of : Df K mg "is_ruled_by_way_of" s_is_ruled_by_way_of ["book", "people", "ruled", "company"] A.f_is_ruled_by_way_of A.d_is_ruled_by_way_of
  d_newly_ruled : Df K mg "newly_ruled" s_newly_ruled ["book", "people", "ruled"] A.f_newly_ruled A.d_newly_ruled
  d_ruled_from : Df K mg "ruled_from" s_ruled_from ["book", "people", "ruled"] A.f_ruled_from A.d_ruled_from
  d_ruled_together : Df K mg "ruled_together" s_ruled_together ["book", "people"] A.f_ruled_together A.d_ruled_together
  d_rulers_of : Df K mg "rulers_of" s_rulers_of ["book", "company"] A.f_rulers_of A.d_rulers_of
  d_ruled_by_each_other : Df K mg "ruled_by_each_other" s_ruled_by_each_other ["book", "companies"] A.f_ruled_by_each_other A.d_ruled_by_each_other
  d_self_ruled : Df K mg "self_ruled" s_self_ruled ["book"] A.f_self_ruled A.d_self_ruled
  d_free_companies : Df K mg "free_companies" s_free_companies ["book"] A.f_free_companies A.d_free_companies
  d_lack_of : Df K mg "lack_of" s_lack_of ["book", "person", "ruled", "company"] A.f_lack_of A.d_lack_of
  d_Way_init : Dm K "__init__" "Way.__init__" s_Way_init ["self", "bought", "cost", "ruled"] A.f_Way_init A.d_Way_init
  d_way_with : Df K mg "way_with" s_way_with ["book", "person", "way", "company"] A.f_way_with A.d_way_with
  d_ways_onward : Df K mg "ways_onward" s_ways_onward ["book", "person", "ways"] A.f_ways_onward A.d_ways_onward
  d_is_cheaper : Df K mg "is_cheaper" s_is_cheaper ["way", "best"] A.f_is_cheaper A.d_is_cheaper
  d_cheapest_that_rules : Df K mg "cheapest_that_rules" s_cheapest_that_rules ["best", "ways", "company"] A.f_cheapest_that_rules A.d_cheapest_that_rules
  d_worth_going_on : Df K mg "worth_going_on" s_worth_going_on ["ways", "best", "company"] A.f_worth_going_on A.d_worth_going_on
  d_cheapest_way : Df K mg "cheapest_way" s_cheapest_way ["book", "person", "company"] A.f_cheapest_way A.d_cheapest_way
  d_group_count : Df K mg "group_count" s_group_count ["book"] A.f_group_count A.d_group_count
  d_is_member : Df K mg "is_member" s_is_member ["group", "person"] A.f_is_member A.d_is_member
  d_without : Df K mg "without" s_without ["group", "person"] A.f_without A.d_without
  d_members_of : Df K mg "members_of" s_members_of ["book", "group"] A.f_members_of A.d_members_of
  d_ruled_by_group : Df K mg "ruled_by_group" s_ruled_by_group ["book", "group"] A.f_ruled_by_group A.d_ruled_by_group
  d_ruling_groups : Df K mg "ruling_groups" s_ruling_groups ["book", "company"] A.f_ruling_groups A.d_ruling_groups
  d_hangs_on : Df K mg "hangs_on" s_hangs_on ["ruling", "group", "person"] A.f_hangs_on A.d_hangs_on
  d_needs_all : Df K mg "needs_all" s_needs_all ["book", "ruling", "group"] A.f_needs_all A.d_needs_all
  d_least_groups : Df K mg "least_groups" s_least_groups ["book", "company"] A.f_least_groups A.d_least_groups
  d_weight_of : Df K mg "weight_of" s_weight_of ["book", "person", "company"] A.f_weight_of A.d_weight_of
  d_with_fraction : Df K mg "with_fraction" s_with_fraction ["fraction"] A.f_with_fraction A.d_with_fraction
  d_with_count : Df K mg "with_count" s_with_count ["numbers"] A.f_with_count A.d_with_count
  d_is_share : Df K mg "is_share" s_is_share ["upper", "lower"] A.f_is_share A.d_is_share
  d_hold : Df K mg "hold" s_hold ["book", "given"] A.f_hold A.d_hold
  d_part : Df K mg "part" s_part ["book", "given"] A.f_part A.d_part
  d_quorum : Df K mg "quorum" s_quorum ["book", "given"] A.f_quorum A.d_quorum
  d_prices : Df K mg "prices" s_prices ["book", "given"] A.f_prices A.d_prices
  d_votes : Df K mg "votes" s_votes ["book", "given"] A.f_votes A.d_votes
  d_rules : Df K mg "rules" s_rules ["book", "given"] A.f_rules A.d_rules
  d_ruler : Df K mg "ruler" s_ruler ["book", "given"] A.f_ruler A.d_ruler
  d_selfruled : Df K mg "selfruled" s_selfruled ["book", "given"] A.f_selfruled A.d_selfruled
  d_free : Df K mg "free" s_free ["book", "given"] A.f_free A.d_free
  d_together : Df K mg "together" s_together ["book", "given"] A.f_together A.d_together
  d_least : Df K mg "least" s_least ["book", "given"] A.f_least A.d_least
  d_weight : Df K mg "weight" s_weight ["book", "given"] A.f_weight A.d_weight
  d_cheapest : Df K mg "cheapest" s_cheapest ["book", "given"] A.f_cheapest A.d_cheapest
  d_lacking : Df K mg "lacking" s_lacking ["book", "given"] A.f_lacking A.d_lacking
  d_state : Df K mg "state" s_state ["book", "given"] A.f_state A.d_state
  d_answer_call : Df K mg "answer_call" s_answer_call ["book", "number", "given"] A.f_answer_call A.d_answer_call
  d_Desk_init : Dm K "__init__" "Desk.__init__" s_Desk_init ["self"] A.f_Desk_init A.d_Desk_init
  d_Desk_begin : Dm K "begin" "Desk.begin" s_Desk_begin ["self", "people", "companies"] A.f_Desk_begin A.d_Desk_begin
  m_Desk_begin : Meth K A.C_Desk "begin" A.f_Desk_begin
  d_Desk_answer : Dm K "answer" "Desk.answer" s_Desk_answer ["self", "number", "given"] A.f_Desk_answer A.d_Desk_answer
  m_Desk_answer : Meth K A.C_Desk "answer" A.f_Desk_answer
  d_start_of_given : Df K mg "start_of_given" s_start_of_given ["calls", "place"] A.f_start_of_given A.d_start_of_given
  d_count_of_given : Df K mg "count_of_given" s_count_of_given ["calls", "place"] A.f_count_of_given A.d_count_of_given
  d_answers : Df K mg "answers" s_answers ["calls"] A.f_answers A.d_answers
  c_Book : Cls K A.C_Book
  g_Book : mg "Book" = some (.ref A.C_Book)
  mk_Book : Mk K A.C_Book A.f_Book_init
  n_Book_people : NoAttr K A.C_Book "people"
  n_Book_companies : NoAttr K A.C_Book "companies"
  n_Book_parts : NoAttr K A.C_Book "parts"
  n_Book_quorum : NoAttr K A.C_Book "quorum"
  n_Book_prices : NoAttr K A.C_Book "prices"
  c_Way : Cls K A.C_Way
  g_Way : mg "Way" = some (.ref A.C_Way)
  mk_Way : Mk K A.C_Way A.f_Way_init
  n_Way_bought : NoAttr K A.C_Way "bought"
  n_Way_cost : NoAttr K A.C_Way "cost"
  n_Way_ruled : NoAttr K A.C_Way "ruled"
  c_Desk : Cls K A.C_Desk
  g_Desk : mg "Desk" = some (.ref A.C_Desk)
  mk_Desk : Mk K A.C_Desk A.f_Desk_init
  n_Desk_book : NoAttr K A.C_Desk "book"
  g_ZERO : mg "ZERO" = some (.ref A.a_ZERO)
  v_ZERO : ∀ H, SqT K H A.a_ZERO [.int 0, .int 1]
  g_ONE : mg "ONE" = some (.ref A.a_ONE)
  v_ONE : ∀ H, SqT K H A.a_ONE [.int 1, .int 1]
  g_FIRST_QUORUM : mg "FIRST_QUORUM" = some (.ref A.a_FIRST_QUORUM)
  v_FIRST_QUORUM : ∀ H, SqT K H A.a_FIRST_QUORUM [.int 3, .int 5]
  g_FIRST_PRICE : mg "FIRST_PRICE" = some (.int (100) A.t_FIRST_PRICE)
  g_NO_SUCH : mg "NO_SUCH" = some (.int (-2) A.t_NO_SUCH)
  g_NOT_BEGUN : mg "NOT_BEGUN" = some (.int (-11) A.t_NOT_BEGUN)
  g_NOT_RIGHT : mg "NOT_RIGHT" = some (.int (-22) A.t_NOT_RIGHT)
  g_NONE_OR_TOO_MUCH : mg "NONE_OR_TOO_MUCH" = some (.int (-33) A.t_NONE_OR_TOO_MUCH)
  g_MOST_LOWER : mg "MOST_LOWER" = some (.int (100) A.t_MOST_LOWER)
  g_MOST_PRICE : mg "MOST_PRICE" = some (.int (1000) A.t_MOST_PRICE)
  g_CALLS : mg "CALLS" = some (.ref A.a_CALLS)
  v_CALLS : ∃ t0 t1 t2 t3 t4 t5 t6 t7 t8 t9 t10 t11 t12 t13 t14 : Tok, KDI K A.a_CALLS [⟨1, .int 1 t0, .ref A.f_hold⟩, ⟨2, .int 2 t1, .ref A.f_part⟩, ⟨3, .int 3 t2, .ref A.f_quorum⟩, ⟨4, .int 4 t3, .ref A.f_prices⟩, ⟨5, .int 5 t4, .ref A.f_votes⟩, ⟨6, .int 6 t5, .ref A.f_rules⟩, ⟨7, .int 7 t6, .ref A.f_ruler⟩, ⟨8, .int 8 t7, .ref A.f_selfruled⟩, ⟨9, .int 9 t8, .ref A.f_free⟩, ⟨10, .int 10 t9, .ref A.f_together⟩, ⟨11, .int 11 t10, .ref A.f_least⟩, ⟨12, .int 12 t11, .ref A.f_weight⟩, ⟨13, .int 13 t12, .ref A.f_cheapest⟩, ⟨14, .int 14 t13, .ref A.f_lacking⟩, ⟨15, .int 15 t14, .ref A.f_state⟩]
  g_MOST_PEOPLE : mg "MOST_PEOPLE" = some (.int (4) A.t_MOST_PEOPLE)
  g_MOST_COMPANIES : mg "MOST_COMPANIES" = some (.int (5) A.t_MOST_COMPANIES)
  g_BEGIN : mg "BEGIN" = some (.int (0) A.t_BEGIN)
  g_PRICES : mg "PRICES" = some (.int (4) A.t_PRICES)
  g_COUNTS : mg "COUNTS" = some (.ref A.a_COUNTS)
  v_COUNTS : ∀ H, SqT K H A.a_COUNTS [.int 2, .int 4, .int 2, .int 2, .int 0, .int 1, .int 1, .int 1, .int 0, .int 0, .int 1, .int 1, .int 2, .int 2, .int 2, .int 0]
  no_len : mg "len" = none
  no_range : mg "range" = none
  no_list : mg "list" = none
  no_sorted : mg "sorted" = none
  no_max : mg "max" = none
  no_all : mg "all" = none
end Wr
/-! The defs of ratio.py: their promises, and that they keep them. -/
namespace Wr
open PySem PySem.Spec PyProof.Rows L2
open Evl (Ex ex_l ex_t)
theorem itT {c : Bool} {A B : Prop} (hc : c = true) (h : A) : if c = true then A else B := by
  rw [if_pos hc]
  exact h
theorem itF {c : Bool} {A B : Prop} (hc : c = false) (h : B) : if c = true then A else B := by
  rw [hc, if_neg Bool.false_ne_true]
  exact h
/-- a while's next turn -/
def nextW (W : Nat → L2.St → Hp → Prop) (m : Nat) : L2.St → Hp → Prop := fun σ' H' => ∃ m', m' < m ∧ W m' σ' H'
/-- a fraction lies at a -/
def Fr (K : PySem.W.Frag) (H : Hp) (a : Addr) (r : Rat) : Prop := SqT K H a [.int r.num, .int (r.den : Int)]
theorem Fr.ex {K : PySem.W.Frag} {H H' : Hp} {a : Addr} {r : Rat} (e : Ex H H') (h : Fr K H a r) : Fr K H' a r := ex_t e h
theorem at0 {x y : V} : atI [x, y] 0 = some x := rfl
theorem at1 {x y : V} : atI [x, y] 1 = some y := rfl
theorem Sm.pos {k : Nat} {r : Rat} (h : Sm k r) : 0 < k := by
  rcases Nat.eq_zero_or_pos k with e | e
  · subst e
    have h1 := h.2
    have h2 := r.den_pos
    simp at h1
    omega
  · exact e
section
variable {P : Program} {w : PySem.World} {K : PySem.W.Frag} {mg : Str → Option Value} {base : Heap} {A : Ad}
/-! ### greatest_common -/
def spGcd : Sp := fun vs H Q _ => ∃ u l : Int, vs = [.int u, .int l] ∧ 0 < l ∧ Q (.int (Int.gcd u l)) H
def gcdW (u l : Int) (H : Hp) : Nat → L2.St → Hp → Prop := fun m σ H' => H' = H ∧ ∃ (a b : Int) (v : Option V), σ = [some (.int a), some (.int b), v] ∧ 0 ≤ b ∧ (b = 0 → 0 < a) ∧ Int.gcd a b = Int.gcd u l ∧ m = b.toNat
theorem ok_greatest_common (T : Txt K mg A) : FnOk P w K mg base CX0 1 A.f_greatest_common A.d_greatest_common ["first", "second"] spGcd := by
  refine T.d_greatest_common.F.ok sc_greatest_common (fun vs H Q E h => ?_) (fun cdv Ar outer s H vs Q E hr h => ⟨_, (pss_cons (ps_while PassesOwn.never (pt_cmpR op_ne (pv 1) pe_int (nomark _)) (pss_cons (ps_set (i := 2) sc_greatest_common.nd rfl (Or.inl rfl) (pe_op op_mod (pv 0) (pv 1))) (pss_cons (ps_set (i := 0) sc_greatest_common.nd rfl (Or.inl rfl) (pv 1)) (pss_one (ps_set (i := 1) sc_greatest_common.nd rfl (Or.inl rfl) (pv 2)))))) (pss_one (ps_ret (pv 0)))), ?_⟩)
  · obtain ⟨u, l, rfl, _⟩ := h
    rfl
  · obtain ⟨u, l, rfl, hl, q⟩ := h
    refine ⟨gcdW u l H, ⟨_, rfl, u, l, none, rfl, by omega, by omega, rfl, rfl⟩, ?_⟩
    rintro m σ H' ⟨rfl, a, b, v, rfl, hb, hz, hg, rfl⟩
    refine ⟨_, rfl, rfl, _, rfl, ?_⟩
    by_cases c : b = 0
    · subst c
      refine iteNS rfl ?_
      rw [Int.gcd_zero_right] at hg
      have e : a = (Int.gcd u l : Int) := by have := hz rfl; omega
      exact ⟨_, rfl, by rw [e]; exact q⟩
    · refine itT (by rw [decide_eq_false (fun z => c (V.int.inj z))]; rfl) ⟨nextW (gcdW u l H') b.toNat, fun _ _ h => h, ?_⟩
      have hp : 0 < b := by omega
      refine ⟨_, rfl, _, rfl, _, _, rfl, rfl, hp, _, rfl, _, rfl, ?_⟩
      have h1 := Int.emod_nonneg a c
      have h2 := Int.emod_lt_of_pos a hp
      exact ⟨(a % b).toNat, by omega, rfl, b, a % b, _, rfl, h1, fun _ => hp, (gcd_step a b).trans hg, rfl⟩
/-! ### lowest -/
def spLow (K : PySem.W.Frag) : Sp := fun vs H Q _ => ∃ (u l : Int) (k : Nat), vs = [.int u, .int l] ∧ 0 < l ∧ u.natAbs < 2 ^ k ∧ l.natAbs < 2 ^ k ∧ k ≤ 9000 ∧
  ∀ p H', Ex H H' → Fr K H' p (mkRat u l.toNat) → Q (.ref p) H'
theorem ok_lowest (T : Txt K mg A) : FnOk P w K mg base CX0 2 A.f_lowest A.d_lowest ["upper", "lower"] (spLow K) := by
  have G_greatest_common := ok_greatest_common (P := P) (w := w) (base := base) T
  refine T.d_lowest.F.ok sc_lowest (fun vs H Q E h => ?_) (fun cdv Ar outer s H vs Q E hr h => ⟨_, (pss_cons (ps_set (i := 2) sc_lowest.nd rfl (Or.inl rfl) (pe_call G_greatest_common (hr.mono (by decide)) rfl T.d_greatest_common.g T.d_greatest_common.F.kp T.d_greatest_common.b .nil pass0 (pa_cons (pv 0) (pa_cons (pv 1) pa_nil)))) (pss_one (ps_ret (pe_tup (pa_cons (pe_op op_fdivW (pv 0) (pv 2)) (pa_cons (pe_op op_fdivW (pv 1) (pv 2)) pa_nil)))))), ?_⟩)
  · obtain ⟨u, l, k, rfl, _⟩ := h
    rfl
  · obtain ⟨u, l, k, rfl, hl, hu, hk, k9, q⟩ := h
    have hg : 0 < Int.gcd u l := Int.gcd_pos_of_ne_zero_right _ (by omega)
    have hgl : Int.gcd u l ≤ l.natAbs := Nat.le_of_dvd (by omega) (Int.gcd_dvd_natAbs_right u l)
    have k0 : 0 < k := by
      rcases Nat.eq_zero_or_pos k with e | e
      · subst e; simp at hk; omega
      · exact e
    have hgk : ((Int.gcd u l : Nat) : Int).natAbs < 2 ^ k := by rw [Int.natAbs_natCast]; omega
    have dv : ∀ i : Int, CDivW i (Int.gcd u l : Int) := fun i => wide_div (by omega) hgk k0 k9
    refine ⟨_, rfl, _, rfl, u, l, rfl, hl, ?_⟩
    refine ⟨_, rfl, _, rfl, _, _, rfl, rfl, dv _, _, rfl, _, rfl, _, _, rfl, rfl, dv _, by show 2 ≤ sizeLine; decide, fun p hp => ?_⟩
    refine q p _ (Ex.new hp) (SqT.of ?_)
    have n0 : l.toNat ≠ 0 := by omega
    have el : ((l.toNat : Nat) : Int) = l := Int.toNat_of_nonneg (by omega)
    rw [low_num n0, low_den n0, el]
    exact upd_same
/-! ### plus, minus, times, at_least -/
def spOp (K : PySem.W.Frag) (f : Rat → Rat → Rat) : Sp := fun vs H Q _ => ∃ (a b : Addr) (x y : Rat) (m n : Nat), vs = [.ref a, .ref b] ∧ Fr K H a x ∧ Fr K H b y ∧ Sm m x ∧ Sm n y ∧ m + n < 9000 ∧
  ∀ p H', Ex H H' → Fr K H' p (f x y) → Q (.ref p) H'
theorem cm {m n : Nat} {i j : Int} (hi : i.natAbs < 2 ^ m) (hj : j.natAbs < 2 ^ n) (m0 : 0 < m) (n0 : 0 < n) (h : m + n < 9000) : CMulW i j := wide_mul hi hj m0 n0 (by omega)
theorem Sm.d {k : Nat} {r : Rat} (h : Sm k r) : ((r.den : Nat) : Int).natAbs < 2 ^ k := by
  rw [Int.natAbs_natCast]
  exact h.2
theorem pow_two {k : Nat} : 2 ^ (k + 1) = 2 ^ k + 2 ^ k := by rw [Nat.pow_succ]; omega
theorem pow_up {a m n : Nat} (h : a < 2 ^ m) (hm : m ≤ n) : a < 2 ^ n := Nat.lt_of_lt_of_le h (Nat.pow_le_pow_right (by decide) hm)
theorem den_toNat (x y : Rat) : ((x.den : Int) * (y.den : Int)).toNat = x.den * y.den := by
  rw [← Int.natCast_mul, Int.toNat_natCast]
theorem dens_pos (x y : Rat) : (0 : Int) < (x.den : Int) * (y.den : Int) := by
  rw [← Int.natCast_mul]
  exact Int.natCast_pos.mpr (Nat.mul_pos x.den_pos y.den_pos)
theorem dens_lt {x y : Rat} {m n : Nat} (hx : Sm m x) (hy : Sm n y) : ((x.den : Int) * (y.den : Int)).natAbs < 2 ^ (m + n) := by
  rw [Int.natAbs_mul]
  exact mul_lt_pow hx.d hy.d
theorem ok_plus (T : Txt K mg A) : FnOk P w K mg base CX0 3 A.f_plus A.d_plus ["first", "second"] (spOp K (· + ·)) := by
  have G_lowest := ok_lowest (P := P) (w := w) (base := base) T
  refine T.d_plus.F.ok sc_plus (fun vs H Q E h => ?_) (fun cdv Ar outer s H vs Q E hr h => ⟨_, (pss_one (ps_ret (pe_call G_lowest (hr.mono (by decide)) rfl T.d_lowest.g T.d_lowest.F.kp T.d_lowest.b .nil pass0 (pa_cons (pe_op op_add (pe_op op_mulW (pe_ix ix_tup (pv 0) pe_int (fun _ _ => rfl)) (pe_ix ix_tup (pv 1) pe_int (fun _ _ => rfl))) (pe_op op_mulW (pe_ix ix_tup (pv 1) pe_int (fun _ _ => rfl)) (pe_ix ix_tup (pv 0) pe_int (fun _ _ => rfl)))) (pa_cons (pe_op op_mulW (pe_ix ix_tup (pv 0) pe_int (fun _ _ => rfl)) (pe_ix ix_tup (pv 1) pe_int (fun _ _ => rfl))) pa_nil))))), ?_⟩)
  · obtain ⟨a, b, x, y, m, n, rfl, _⟩ := h
    rfl
  · obtain ⟨a, b, x, y, m, n, rfl, ha, hb, hx, hy, hmn, q⟩ := h
    have mx := hx.pos
    have ny := hy.pos
    have c1 := sm_cross hx hy
    have c2 := sm_cross hy hx
    have c3 := dens_lt hx hy
    rw [Nat.add_comm n m] at c2
    refine ⟨_, rfl, _, _, _, _, rfl, rfl, ha, at0, _, rfl, _, _, _, _, rfl, rfl, hb, at1, _, _, rfl, rfl, cm hx.1 hy.d mx ny hmn, ?_⟩
    refine ⟨_, rfl, _, _, _, _, rfl, rfl, hb, at0, _, rfl, _, _, _, _, rfl, rfl, ha, at1, _, _, rfl, rfl, cm hy.1 hx.d ny mx (by omega), _, _, rfl, rfl, ?_⟩
    refine ⟨_, rfl, _, _, _, _, rfl, rfl, ha, at1, _, rfl, _, _, _, _, rfl, rfl, hb, at1, _, _, rfl, rfl, cm hx.d hy.d mx ny hmn, ?_⟩
    refine ⟨_, _, m + n + 1, rfl, dens_pos x y, ?_, pow_up c3 (by omega), by omega, fun p H' e f => q p H' e ?_⟩
    · rw [pow_two]; omega
    · rw [den_toNat, ← Rat.add_def'] at f
      exact f
theorem ok_minus (T : Txt K mg A) : FnOk P w K mg base CX0 3 A.f_minus A.d_minus ["first", "second"] (spOp K (· - ·)) := by
  have G_lowest := ok_lowest (P := P) (w := w) (base := base) T
  refine T.d_minus.F.ok sc_minus (fun vs H Q E h => ?_) (fun cdv Ar outer s H vs Q E hr h => ⟨_, (pss_one (ps_ret (pe_call G_lowest (hr.mono (by decide)) rfl T.d_lowest.g T.d_lowest.F.kp T.d_lowest.b .nil pass0 (pa_cons (pe_op op_sub (pe_op op_mulW (pe_ix ix_tup (pv 0) pe_int (fun _ _ => rfl)) (pe_ix ix_tup (pv 1) pe_int (fun _ _ => rfl))) (pe_op op_mulW (pe_ix ix_tup (pv 1) pe_int (fun _ _ => rfl)) (pe_ix ix_tup (pv 0) pe_int (fun _ _ => rfl)))) (pa_cons (pe_op op_mulW (pe_ix ix_tup (pv 0) pe_int (fun _ _ => rfl)) (pe_ix ix_tup (pv 1) pe_int (fun _ _ => rfl))) pa_nil))))), ?_⟩)
  · obtain ⟨a, b, x, y, m, n, rfl, _⟩ := h
    rfl
  · obtain ⟨a, b, x, y, m, n, rfl, ha, hb, hx, hy, hmn, q⟩ := h
    have mx := hx.pos
    have ny := hy.pos
    have c1 := sm_cross hx hy
    have c2 := sm_cross hy hx
    have c3 := dens_lt hx hy
    rw [Nat.add_comm n m] at c2
    refine ⟨_, rfl, _, _, _, _, rfl, rfl, ha, at0, _, rfl, _, _, _, _, rfl, rfl, hb, at1, _, _, rfl, rfl, cm hx.1 hy.d mx ny hmn, ?_⟩
    refine ⟨_, rfl, _, _, _, _, rfl, rfl, hb, at0, _, rfl, _, _, _, _, rfl, rfl, ha, at1, _, _, rfl, rfl, cm hy.1 hx.d ny mx (by omega), _, _, rfl, rfl, ?_⟩
    refine ⟨_, rfl, _, _, _, _, rfl, rfl, ha, at1, _, rfl, _, _, _, _, rfl, rfl, hb, at1, _, _, rfl, rfl, cm hx.d hy.d mx ny hmn, ?_⟩
    refine ⟨_, _, m + n + 1, rfl, dens_pos x y, ?_, pow_up c3 (by omega), by omega, fun p H' e f => q p H' e ?_⟩
    · rw [pow_two]; omega
    · rw [den_toNat, ← Rat.sub_def'] at f
      exact f
theorem ok_times (T : Txt K mg A) : FnOk P w K mg base CX0 3 A.f_times A.d_times ["first", "second"] (spOp K (· * ·)) := by
  have G_lowest := ok_lowest (P := P) (w := w) (base := base) T
  refine T.d_times.F.ok sc_times (fun vs H Q E h => ?_) (fun cdv Ar outer s H vs Q E hr h => ⟨_, (pss_one (ps_ret (pe_call G_lowest (hr.mono (by decide)) rfl T.d_lowest.g T.d_lowest.F.kp T.d_lowest.b .nil pass0 (pa_cons (pe_op op_mulW (pe_ix ix_tup (pv 0) pe_int (fun _ _ => rfl)) (pe_ix ix_tup (pv 1) pe_int (fun _ _ => rfl))) (pa_cons (pe_op op_mulW (pe_ix ix_tup (pv 0) pe_int (fun _ _ => rfl)) (pe_ix ix_tup (pv 1) pe_int (fun _ _ => rfl))) pa_nil))))), ?_⟩)
  · obtain ⟨a, b, x, y, m, n, rfl, _⟩ := h
    rfl
  · obtain ⟨a, b, x, y, m, n, rfl, ha, hb, hx, hy, hmn, q⟩ := h
    have mx := hx.pos
    have ny := hy.pos
    have c3 := dens_lt hx hy
    refine ⟨_, rfl, _, _, _, _, rfl, rfl, ha, at0, _, rfl, _, _, _, _, rfl, rfl, hb, at0, _, _, rfl, rfl, cm hx.1 hy.1 mx ny hmn, ?_⟩
    refine ⟨_, rfl, _, _, _, _, rfl, rfl, ha, at1, _, rfl, _, _, _, _, rfl, rfl, hb, at1, _, _, rfl, rfl, cm hx.d hy.d mx ny hmn, ?_⟩
    refine ⟨_, _, m + n, rfl, dens_pos x y, ?_, c3, by omega, fun p H' e f => q p H' e ?_⟩
    · rw [Int.natAbs_mul]; exact mul_lt_pow hx.1 hy.1
    · rw [den_toNat, ← Rat.mul_def'] at f
      exact f
def spGe (K : PySem.W.Frag) : Sp := fun vs H Q _ => ∃ (a b : Addr) (x y : Rat) (m n : Nat), vs = [.ref a, .ref b] ∧ Fr K H a x ∧ Fr K H b y ∧ Sm m x ∧ Sm n y ∧ m + n < 9000 ∧ Q (.bl (decide (y ≤ x))) H
theorem ok_at_least (T : Txt K mg A) : FnOk P w K mg base CX0 1 A.f_at_least A.d_at_least ["first", "second"] (spGe K) := by
  refine T.d_at_least.F.ok sc_at_least (fun vs H Q E h => ?_) (fun cdv Ar outer s H vs Q E hr h => ⟨_, (pss_one (ps_ret (pe_cmpR op_ge (pe_op op_mulW (pe_ix ix_tup (pv 0) pe_int (fun _ _ => rfl)) (pe_ix ix_tup (pv 1) pe_int (fun _ _ => rfl))) (pe_op op_mulW (pe_ix ix_tup (pv 1) pe_int (fun _ _ => rfl)) (pe_ix ix_tup (pv 0) pe_int (fun _ _ => rfl))) (nomark _)))), ?_⟩)
  · obtain ⟨a, b, x, y, m, n, rfl, _⟩ := h
    rfl
  · obtain ⟨a, b, x, y, m, n, rfl, ha, hb, hx, hy, hmn, q⟩ := h
    have mx := hx.pos
    have ny := hy.pos
    refine ⟨_, rfl, _, _, _, _, rfl, rfl, ha, at0, _, rfl, _, _, _, _, rfl, rfl, hb, at1, _, _, rfl, rfl, cm hx.1 hy.d mx ny hmn, ?_⟩
    refine ⟨_, rfl, _, _, _, _, rfl, rfl, hb, at0, _, rfl, _, _, _, _, rfl, rfl, ha, at1, _, _, rfl, rfl, cm hy.1 hx.d ny mx (by omega), _, _, rfl, rfl, ?_⟩
    have e : decide (y.num * (x.den : Int) ≤ x.num * (y.den : Int)) = decide (y ≤ x) := by
      rw [Bool.eq_iff_iff, decide_eq_true_eq, decide_eq_true_eq, Rat.le_iff]
    show Q (.bl (decide (y.num * (x.den : Int) ≤ x.num * (y.den : Int)))) H
    rw [e]
    exact q
end
end Wr
/-! The book: how it lies in the heap; the methods of Book. -/
namespace Wr
open PySem PySem.Spec PyProof.Rows L2
open Evl (Ex ex_l ex_t)
theorem lk_here {k : Str} {v : V} {r : List (Str × V)} : List.lookup k ((k, v) :: r) = some v := by
  have e : (k == k) = true := beq_self_eq_true k
  simp only [List.lookup, e]
theorem lk_past {k g : Str} {v : V} {r : List (Str × V)} (h : (k == g) = false) : List.lookup k ((g, v) :: r) = List.lookup k r := by
  simp only [List.lookup, h]
theorem lk_none {k : Str} : List.lookup k ([] : List (Str × V)) = none := rfl
/-- what is asked of a desk -/
structure Good (d : Krcg.Desk) : Prop where
  p1 : 1 ≤ d.w.people
  p4 : d.w.people ≤ 4
  f1 : 1 ≤ d.w.firms
  f5 : d.w.firms ≤ 5
  len : d.w.parts.length = d.w.people + d.w.firms
  row : ∀ r ∈ d.w.parts, r.length = d.w.firms
  sm : ∀ h j, Sm 7 (d.w.part h j)
  pos : ∀ h j, 0 ≤ d.w.part h j
  le : ∀ h j, d.w.part h j ≤ 1
  qs : Sm 7 d.q
  pl : d.prices.length = d.w.firms
  pm : ∀ x ∈ d.prices, x ≤ 1000
def bookF (d : Krcg.Desk) (pa qa pr : Addr) : List (Str × V) := [("people", .int (d.w.people : Int)), ("companies", .int (d.w.firms : Int)), ("parts", .ref pa), ("quorum", .ref qa), ("prices", .ref pr)]
theorem bookF_people {d : Krcg.Desk} {pa qa pr : Addr} : (bookF d pa qa pr).lookup ("people" : Str) = some (.int (d.w.people : Int)) := lk_here
theorem bookF_companies {d : Krcg.Desk} {pa qa pr : Addr} : (bookF d pa qa pr).lookup ("companies" : Str) = some (.int (d.w.firms : Int)) := (lk_past (by decide +kernel)).trans lk_here
theorem bookF_parts {d : Krcg.Desk} {pa qa pr : Addr} : (bookF d pa qa pr).lookup ("parts" : Str) = some (.ref pa) := (lk_past (by decide +kernel)).trans ((lk_past (by decide +kernel)).trans lk_here)
theorem bookF_quorum {d : Krcg.Desk} {pa qa pr : Addr} : (bookF d pa qa pr).lookup ("quorum" : Str) = some (.ref qa) := (lk_past (by decide +kernel)).trans ((lk_past (by decide +kernel)).trans ((lk_past (by decide +kernel)).trans lk_here))
theorem bookF_prices {d : Krcg.Desk} {pa qa pr : Addr} : (bookF d pa qa pr).lookup ("prices" : Str) = some (.ref pr) := (lk_past (by decide +kernel)).trans ((lk_past (by decide +kernel)).trans ((lk_past (by decide +kernel)).trans ((lk_past (by decide +kernel)).trans lk_here)))
/-- no attribute of that name: a method's -/
theorem bookF_no {d : Krcg.Desk} {pa qa pr : Addr} {m : Str} (h1 : (m == ("people" : Str)) = false) (h2 : (m == ("companies" : Str)) = false) (h3 : (m == ("parts" : Str)) = false) (h4 : (m == ("quorum" : Str)) = false) (h5 : (m == ("prices" : Str)) = false) : (bookF d pa qa pr).lookup m = none :=
  (lk_past h1).trans ((lk_past h2).trans ((lk_past h3).trans ((lk_past h4).trans ((lk_past h5).trans rfl))))
/-- where the book's parts lie -/
structure Lay where
  dx : Addr
  pa : Addr
  qa : Addr
  pr : Addr
  rows : List Addr
/-- the book of the desk d lies at b -/
structure BookAt (K : PySem.W.Frag) (C : Addr) (H : Hp) (b : Addr) (d : Krcg.Desk) (L : Lay) : Prop where
  ins : H b = some (.ins C L.dx (bookF d L.pa L.qa L.pr))
  lpa : H L.pa = some (.lst (L.rows.map V.ref))
  nd : L.rows.Nodup
  len : L.rows.length = d.w.people + d.w.firms
  row : ∀ (h : Nat) (r : Addr), L.rows[h]? = some r → ∃ cs : List Addr, H r = some (.lst (cs.map V.ref)) ∧ cs.length = d.w.firms ∧ ∀ (j : Nat) (c : Addr), cs[j]? = some c → Fr K H c (d.w.part h j)
  q : Fr K H L.qa d.q
  lpr : H L.pr = some (.lst (d.prices.map fun (n : Nat) => V.int (n : Int)))
theorem BookAt.ex {K : PySem.W.Frag} {C : Addr} {H H' : Hp} {b : Addr} {d : Krcg.Desk} {L : Lay} (e : Ex H H') (B : BookAt K C H b d L) : BookAt K C H' b d L where
  ins := e _ _ B.ins
  lpa := e _ _ B.lpa
  nd := B.nd
  len := B.len
  row := fun h r hr => by
    obtain ⟨cs, h1, h2, h3⟩ := B.row h r hr
    exact ⟨cs, e _ _ h1, h2, fun j c hc => (h3 j c hc).ex e⟩
  q := B.q.ex e
  lpr := e _ _ B.lpr
/-- the cell of holder h and company j -/
theorem BookAt.cell {K : PySem.W.Frag} {C : Addr} {H : Hp} {b : Addr} {d : Krcg.Desk} {L : Lay} (B : BookAt K C H b d L) {h j : Nat} (hh : h < d.w.people + d.w.firms) (hj : j < d.w.firms) :
    ∃ (r : Addr) (cs : List Addr) (c : Addr), L.rows[h]? = some r ∧ H r = some (.lst (cs.map V.ref)) ∧ cs[j]? = some c ∧ Fr K H c (d.w.part h j) := by
  have h1 : h < L.rows.length := by rw [B.len]; exact hh
  obtain ⟨cs, h2, h3, h4⟩ := B.row h _ (List.getElem?_eq_getElem h1)
  have h5 : j < cs.length := by rw [h3]; exact hj
  exact ⟨_, cs, _, List.getElem?_eq_getElem h1, h2, List.getElem?_eq_getElem h5, h4 j _ (List.getElem?_eq_getElem h5)⟩
theorem map_at {α : Type} {f : α → V} {l : List α} {i : Nat} {x : α} (h : l[i]? = some x) : (l.map f)[i]? = some (f x) := by
  rw [List.getElem?_map, h]
  rfl
section
variable {P : Program} {w : PySem.World} {K : PySem.W.Frag} {mg : Str → Option Value} {base : Heap} {A : Ad}
/-! ### has_person, has_company, has_holder, company_as_holder, part_of -/
def spLess (K : PySem.W.Frag) (C : Addr) (f : Krcg.Desk → Nat) : Sp := fun vs H Q _ => ∃ (b : Addr) (d : Krcg.Desk) (L : Lay) (p : Nat), vs = [.ref b, .int (p : Int)] ∧ BookAt K C H b d L ∧ Q (.bl (decide (p < f d))) H
theorem dec_cast {a b : Nat} : decide ((a : Int) < (b : Int)) = decide (a < b) := by
  rw [Bool.eq_iff_iff, decide_eq_true_eq, decide_eq_true_eq]
  omega
theorem ok_Book_has_person (T : Txt K mg A) : FnOk P w K mg base CX0 1 A.f_Book_has_person A.d_Book_has_person ["self", "person"] (spLess K A.C_Book (fun d => d.w.people)) := by
  refine T.d_Book_has_person.F.ok sc_Book_has_person (fun vs H Q E h => ?_) (fun cdv Ar outer s H vs Q E hr h => ⟨_, (pss_one (ps_ret (pe_cmpR op_lt (pv 1) (pe_fld (pv 0) rfl) (nomark _)))), ?_⟩)
  · obtain ⟨b, d, L, p, rfl, _⟩ := h
    rfl
  · obtain ⟨b, d, L, p, rfl, B, q⟩ := h
    refine ⟨_, rfl, _, rfl, _, _, _, _, _, rfl, B.ins, T.c_Book, T.n_Book_people, bookF_people, _, _, rfl, rfl, ?_⟩
    show Q (.bl (decide ((p : Int) < (d.w.people : Int)))) H
    rw [dec_cast]
    exact q
theorem ok_Book_has_company (T : Txt K mg A) : FnOk P w K mg base CX0 1 A.f_Book_has_company A.d_Book_has_company ["self", "company"] (spLess K A.C_Book (fun d => d.w.firms)) := by
  refine T.d_Book_has_company.F.ok sc_Book_has_company (fun vs H Q E h => ?_) (fun cdv Ar outer s H vs Q E hr h => ⟨_, (pss_one (ps_ret (pe_cmpR op_lt (pv 1) (pe_fld (pv 0) rfl) (nomark _)))), ?_⟩)
  · obtain ⟨b, d, L, p, rfl, _⟩ := h
    rfl
  · obtain ⟨b, d, L, p, rfl, B, q⟩ := h
    refine ⟨_, rfl, _, rfl, _, _, _, _, _, rfl, B.ins, T.c_Book, T.n_Book_companies, bookF_companies, _, _, rfl, rfl, ?_⟩
    show Q (.bl (decide ((p : Int) < (d.w.firms : Int)))) H
    rw [dec_cast]
    exact q
theorem ok_Book_has_holder (T : Txt K mg A) : FnOk P w K mg base CX0 1 A.f_Book_has_holder A.d_Book_has_holder ["self", "holder"] (spLess K A.C_Book (fun d => d.w.people + d.w.firms)) := by
  refine T.d_Book_has_holder.F.ok sc_Book_has_holder (fun vs H Q E h => ?_) (fun cdv Ar outer s H vs Q E hr h => ⟨_, (pss_one (ps_ret (pe_cmpR op_lt (pv 1) (pe_op op_add (pe_fld (pv 0) rfl) (pe_fld (pv 0) rfl)) (nomark _)))), ?_⟩)
  · obtain ⟨b, d, L, p, rfl, _⟩ := h
    rfl
  · obtain ⟨b, d, L, p, rfl, B, q⟩ := h
    refine ⟨_, rfl, _, rfl, _, _, _, _, _, rfl, B.ins, T.c_Book, T.n_Book_people, bookF_people, _, rfl, _, _, _, _, _, rfl, B.ins, T.c_Book, T.n_Book_companies, bookF_companies, _, _, rfl, rfl, _, _, rfl, rfl, ?_⟩
    show Q (.bl (decide ((p : Int) < (d.w.people : Int) + (d.w.firms : Int)))) H
    rw [← Int.natCast_add, dec_cast]
    exact q
def spHolder (K : PySem.W.Frag) (C : Addr) : Sp := fun vs H Q _ => ∃ (b : Addr) (d : Krcg.Desk) (L : Lay) (j : Nat), vs = [.ref b, .int (j : Int)] ∧ BookAt K C H b d L ∧ Q (.int ((d.w.people + j : Nat) : Int)) H
theorem ok_Book_company_as_holder (T : Txt K mg A) : FnOk P w K mg base CX0 1 A.f_Book_company_as_holder A.d_Book_company_as_holder ["self", "company"] (spHolder K A.C_Book) := by
  refine T.d_Book_company_as_holder.F.ok sc_Book_company_as_holder (fun vs H Q E h => ?_) (fun cdv Ar outer s H vs Q E hr h => ⟨_, (pss_one (ps_ret (pe_op op_add (pe_fld (pv 0) rfl) (pv 1)))), ?_⟩)
  · obtain ⟨b, d, L, p, rfl, _⟩ := h
    rfl
  · obtain ⟨b, d, L, p, rfl, B, q⟩ := h
    refine ⟨_, rfl, _, _, _, _, _, rfl, B.ins, T.c_Book, T.n_Book_people, bookF_people, _, rfl, _, _, rfl, rfl, ?_⟩
    show Q (.int ((d.w.people : Int) + (p : Int))) H
    rw [← Int.natCast_add]
    exact q
def spPartOf (K : PySem.W.Frag) (C : Addr) : Sp := fun vs H Q _ => ∃ (b : Addr) (d : Krcg.Desk) (L : Lay) (h j : Nat), vs = [.ref b, .int (h : Int), .int (j : Int)] ∧ BookAt K C H b d L ∧ h < d.w.people + d.w.firms ∧ j < d.w.firms ∧
  ∀ c, Fr K H c (d.w.part h j) → Q (.ref c) H
theorem ok_Book_part_of (T : Txt K mg A) : FnOk P w K mg base CX0 1 A.f_Book_part_of A.d_Book_part_of ["self", "holder", "company"] (spPartOf K A.C_Book) := by
  refine T.d_Book_part_of.F.ok sc_Book_part_of (fun vs H Q E h => ?_) (fun cdv Ar outer s H vs Q E hr h => ⟨_, (pss_one (ps_ret (pe_ix ix_list (pe_ix ix_list (pe_fld (pv 0) rfl) (pv 1) (fun _ _ => rfl)) (pv 2) (fun _ _ => rfl)))), ?_⟩)
  · obtain ⟨b, d, L, h, j, rfl, _⟩ := h
    rfl
  · obtain ⟨b, d, L, h, j, rfl, B, hh, hj, q⟩ := h
    obtain ⟨r, cs, c, h1, h2, h3, h4⟩ := B.cell hh hj
    exact ⟨_, rfl, _, _, _, _, _, rfl, B.ins, T.c_Book, T.n_Book_parts, bookF_parts, _, rfl, _, _, _, _, rfl, rfl, SqL.of B.lpa, atI_nat (map_at h1), _, rfl, _, _, _, _, rfl, rfl, SqL.of h2, atI_nat (map_at h3), q c h4⟩
/-! ### held_by -/
def partsOf (d : Krcg.Desk) (hs : List Nat) (j : Nat) : List Rat := hs.map fun h => d.w.part h j
theorem sm_parts {d : Krcg.Desk} (g : Good d) (j : Nat) : ∀ hs : List Nat, Sm (1 + 8 * hs.length) (Krcf.sum (partsOf d hs j))
  | [] => sm_zero
  | h :: r => by
    have e : Krcf.sum (partsOf d (h :: r) j) = d.w.part h j + Krcf.sum (partsOf d r j) := sum_cons _ _
    rw [e]
    exact (sm_add (g.sm h j) (sm_parts g j r)).mono (by rw [List.length_cons]; omega)
theorem take_more {α : Type} : ∀ {l : List α} {i : Nat} {x : α}, l[i]? = some x → l.take (i + 1) = l.take i ++ [x]
  | [], i, x, h => by simp at h
  | a :: l, 0, x, h => by
    have e : a = x := Option.some.inj h
    subst e
    rfl
  | a :: l, i + 1, x, h => by
    have ih := take_more (l := l) (i := i) (x := x) h
    show a :: l.take (i + 1) = a :: l.take i ++ [x]
    rw [ih]
    rfl
theorem sum_more {d : Krcg.Desk} {hs : List Nat} {j i h : Nat} (e : hs[i]? = some h) : Krcf.sum (partsOf d (hs.take (i + 1)) j) = Krcf.sum (partsOf d (hs.take i) j) + d.w.part h j := by
  unfold partsOf
  rw [take_more e, List.map_append, sum_append]
  congr 1
  show Krcf.sum [d.w.part h j] = _
  rw [sum_cons, sum_nil, Rat.add_zero]
abbrev nats (l : List Nat) : List V := l.map fun (n : Nat) => V.int (n : Int)
theorem nats_at {l : List Nat} {i : Nat} {y : V} (h : (nats l)[i]? = some y) : ∃ n, l[i]? = some n ∧ y = V.int (n : Int) := by
  rw [List.getElem?_map] at h
  cases e : l[i]? with
  | none =>
    rw [e] at h
    cases h
  | some z =>
    rw [e] at h
    exact ⟨z, rfl, (Option.some.inj h).symm⟩
def spHeldBy (K : PySem.W.Frag) (C : Addr) : Sp := fun vs H Q _ => ∃ (b l : Addr) (d : Krcg.Desk) (L : Lay) (hs : List Nat) (j : Nat), vs = [.ref b, .ref l, .int (j : Int)] ∧ BookAt K C H b d L ∧ Good d ∧ SqL K H l (nats hs) ∧ (∀ h ∈ hs, h < d.w.people + d.w.firms) ∧ hs.length ≤ 100 ∧ j < d.w.firms ∧
  ∀ p H', Ex H H' → Fr K H' p (Krcf.sum (partsOf d hs j)) → Q (.ref p) H'
theorem fr_zero (T : Txt K mg A) (H : Hp) : Fr K H A.a_ZERO 0 := T.v_ZERO H
theorem fr_one (T : Txt K mg A) (H : Hp) : Fr K H A.a_ONE 1 := T.v_ONE H
theorem ok_Book_held_by (T : Txt K mg A) : FnOk P w K mg base CX0 4 A.f_Book_held_by A.d_Book_held_by ["self", "holders", "company"] (spHeldBy K A.C_Book) := by
  have G_plus := ok_plus (P := P) (w := w) (base := base) T
  have G_Book_part_of := ok_Book_part_of (P := P) (w := w) (base := base) T
  refine T.d_Book_held_by.F.ok sc_Book_held_by (fun vs H Q E h => ?_) (fun cdv Ar outer s H vs Q E hr h => ⟨_, (pss_cons (ps_set (i := 3) sc_Book_held_by.nd rfl (Or.inl rfl) (pe_glob (v := .ref A.a_ZERO) rfl T.g_ZERO rfl)) (pss_cons (ps_for PassesOwn.never rfl (pi_list (pv 1)) (pg_name (i := 4) sc_Book_held_by.nd rfl (Or.inl rfl)) (pss_one (ps_set (i := 3) sc_Book_held_by.nd rfl (Or.inl rfl) (pe_call G_plus (hr.mono (by decide)) rfl T.d_plus.g T.d_plus.F.kp T.d_plus.b .nil pass0 (pa_cons (pv 3) (pa_cons (pe_meth (pv 0) T.c_Book T.m_Book_part_of G_Book_part_of (hr.mono (by decide)) T.d_Book_part_of.b .nil pass0 (pa_cons (pv 4) (pa_cons (pv 2) pa_nil))) pa_nil)))))) (pss_one (ps_ret (pv 3))))), ?_⟩)
  · obtain ⟨b, l, d, L, hs, j, rfl, _⟩ := h
    rfl
  · obtain ⟨b, l, d, L, hs, j, rfl, B, g, hl, hb, hn, hj, q⟩ := h
    refine ⟨_, rfl, l, rfl, ⟨_, hl⟩, for_list (K := K) (a := l) (xs := nats hs) (fun i σ H' => Ex H H' ∧ ∃ (t : Addr) (v : Option V), σ = [some (.ref b), some (.ref l), some (.int (j : Int)), some (.ref t), v] ∧ Fr K H' t (Krcf.sum (partsOf d (hs.take i) j)))
      ⟨Ex.refl H, A.a_ZERO, none, rfl, fr_zero T H⟩ (fun i σ H' _ p => ex_l p.1 hl) ?_ ?_⟩
    · rintro i y σ H' hi ⟨e, t, v, rfl, ht⟩
      obtain ⟨h, hh, rfl⟩ := nats_at hi
      have hb' := hb h (List.mem_of_getElem? hh)
      have il : i < hs.length := (List.getElem?_eq_some_iff.mp hh).1
      refine ⟨_, rfl, _, rfl, _, _, _, rfl, (B.ex e).ins, bookF_no (by decide +kernel) (by decide +kernel) (by decide +kernel) (by decide +kernel) (by decide +kernel), _, rfl, _, rfl, ?_⟩
      refine ⟨b, d, L, h, j, rfl, B.ex e, hb', hj, fun c hc => ?_⟩
      refine ⟨t, c, _, _, _, _, rfl, ht, hc, sm_parts g j _, g.sm h j, ?_, fun p H2 e2 f => ?_⟩
      · rw [List.length_take]; omega
      · refine ⟨e.trans e2, p, _, rfl, ?_⟩
        rw [sum_more hh]
        exact f
    · rintro σ H' ⟨e, t, v, rfl, ht⟩
      refine ⟨_, rfl, q t H' e ?_⟩
      rw [List.length_map, List.take_length] at ht
      exact ht
end
end Wr
/-! The book, further: held_by_others, give_part, __init__. -/
namespace Wr
open PySem PySem.Spec PyProof.Rows L2
open Evl (Ex ex_l ex_t)
section
variable {P : Program} {w : PySem.World} {K : PySem.W.Frag} {mg : Str → Option Value} {base : Heap} {A : Ad}
def othersOf (d : Krcg.Desk) (h : Nat) : List Nat := (List.range (d.w.people + d.w.firms)).filter fun x => x != h
def spOthers (K : PySem.W.Frag) (C : Addr) : Sp := fun vs H Q _ => ∃ (b : Addr) (d : Krcg.Desk) (L : Lay) (h j : Nat), vs = [.ref b, .int (h : Int), .int (j : Int)] ∧ BookAt K C H b d L ∧ Good d ∧ j < d.w.firms ∧
  ∀ p H', Ex H H' → Fr K H' p (Krcf.sum (partsOf d (othersOf d h) j)) → Q (.ref p) H'
theorem ok_Book_held_by_others (T : Txt K mg A) : FnOk P w K mg base CX0 5 A.f_Book_held_by_others A.d_Book_held_by_others ["self", "holder", "company"] (spOthers K A.C_Book) := by
  have G_Book_held_by := ok_Book_held_by (P := P) (w := w) (base := base) T
  refine T.d_Book_held_by_others.F.ok sc_Book_held_by_others (fun vs H Q E h => ?_) (fun cdv Ar outer s H vs Q E hr h => ⟨_, (pss_cons (ps_setLc (i := 3) (own := [("other", 4)]) (g := gName 4) rfl sc_Book_held_by_others.nd rfl rfl (sw_true rfl rfl rfl (by decide +kernel)) (pi_range1 rfl T.no_range (pa_cons (pe_op op_add (pe_fld (pv 0) rfl) (pe_fld (pv 0) rfl)) pa_nil)) (blkOk_by (N := ["self", "holder", "company", "others", "other"]) (sc := defScope s_Book_held_by_others) (by decide +kernel)) (fun _ _ _ _ _ => (pg_name (i := 4) sc_Book_held_by_others.nd rfl (Or.inl rfl))) (fun _ _ _ _ _ => pts_one (pt_cmpR op_ne (pv 4) (pv 1) (nomark _))) (fun _ _ _ _ _ => (pv 4))) (pss_one (ps_ret (pe_meth (pv 0) T.c_Book T.m_Book_held_by G_Book_held_by (hr.mono (by decide)) T.d_Book_held_by.b .nil pass0 (pa_cons (pv 3) (pa_cons (pv 2) pa_nil)))))), ?_⟩)
  · obtain ⟨b, d, L, h, j, rfl, _⟩ := h
    rfl
  · obtain ⟨b, d, L, h, j, rfl, B, g, hj, q⟩ := h
    have hp4 := g.p4
    have hf5 := g.f5
    have en : ((d.w.people : Int) + (d.w.firms : Int)).toNat = d.w.people + d.w.firms := by omega
    refine ⟨_, rfl, _, _, _, _, _, rfl, B.ins, T.c_Book, T.n_Book_people, bookF_people, _, rfl, _, _, _, _, _, rfl, B.ins, T.c_Book, T.n_Book_companies, bookF_companies, _, _, rfl, rfl, _, rfl, by omega, by omega, fun D hD => ?_⟩
    refine lc_range (lo := 0) (n := ((d.w.people : Int) + (d.w.firms : Int)).toNat) (fun i H' => Ex H H' ∧ i ≤ d.w.people + d.w.firms ∧ H' D = some (.lst (nats ((List.range i).filter fun x => x != h)))) ⟨Ex.new hD, Nat.zero_le _, upd_same⟩ ?_ ?_
    · rintro i H' hi ⟨e, _, hl⟩
      refine ⟨rfl, _, rfl, _, rfl, rfl, _, rfl, ?_⟩
      have ec : (!decide (V.int (0 + (i : Int)) = V.int (h : Int))) = (i != h) := by
        rw [bne, Int.zero_add, show (i == h) = decide (i = h) from rfl]
        congr 1
        rw [Bool.eq_iff_iff, decide_eq_true_eq, decide_eq_true_eq]
        exact ⟨fun z => by have := V.int.inj z; omega, fun z => by rw [z]⟩
      have ef : (List.range (i + 1)).filter (fun x => x != h) = (List.range i).filter (fun x => x != h) ++ (if (i != h) = true then [i] else []) := by
        rw [List.range_succ, List.filter_append, List.filter_cons, List.filter_nil]
      cases c : (i != h) with
      | true =>
        refine itT (ec.trans c) ⟨_, rfl, _, hl, ?_, e.mut hD, by omega, ?_⟩
        · rw [List.length_map]
          exact Nat.lt_of_le_of_lt (List.length_filter_le _ _) (by rw [List.length_range]; exact small1000 (by omega))
        · rw [upd_same, ef, if_pos c, nats, nats, List.map_append, Int.zero_add]
          rfl
      | false =>
        refine itF (ec.trans c) ⟨e, by omega, ?_⟩
        rw [ef, if_neg (by rw [c]; exact Bool.false_ne_true), List.append_nil]
        exact hl
    · rintro H' ⟨e, _, hl⟩
      rw [en] at hl
      refine ⟨_, rfl, _, _, _, rfl, (B.ex e).ins, bookF_no (by decide +kernel) (by decide +kernel) (by decide +kernel) (by decide +kernel) (by decide +kernel), _, rfl, _, rfl, ?_⟩
      refine ⟨b, D, d, L, othersOf d h, j, rfl, B.ex e, g, SqL.of hl, fun x hx => List.mem_range.mp (List.mem_filter.mp hx).1, ?_, hj, fun p H2 e2 f => q p H2 (e.trans e2) f⟩
      exact Nat.le_trans (List.length_filter_le _ _) (by rw [List.length_range]; omega)
end
end Wr
/-! The book, further: give_part, __init__. -/
namespace Wr
open PySem PySem.Spec PyProof.Rows L2
open Evl (Ex ex_l ex_t)
/-- the book's own things: an instance of Book, a list of objects that is not empty -/
def Own (C : Addr) (o : HO) : Prop := (∃ dx d pa qa pr, o = .ins C dx (bookF d pa qa pr)) ∨ ∃ xs : List Addr, xs ≠ [] ∧ o = .lst (xs.map V.ref)
/-- all but the book's own stays -/
def Keeps (C : Addr) (H H' : Hp) : Prop := ∀ x o, H x = some o → ¬ Own C o → H' x = some o
theorem Fr.upd {K : PySem.W.Frag} {H : Hp} {c r : Addr} {x : Rat} {xs : List V} {o : HO} (hr : H r = some (.lst xs)) (h : Fr K H c x) : Fr K (upd H r o) c x := by
  rcases h with (h | ⟨u, h⟩) | h
  · exact .inl (.inl (by rw [upd_ne (ne_of h hr (fun z => nomatch z))]; exact h))
  · exact .inl (.inr ⟨u, by rw [upd_ne (ne_of h hr (fun z => nomatch z))]; exact h⟩)
  · exact .inr h
theorem Fr.updI {K : PySem.W.Frag} {H : Hp} {c r : Addr} {x : Rat} {C dx : Addr} {fs : List (Str × V)} {o : HO} (hr : H r = some (.ins C dx fs)) (h : Fr K H c x) : Fr K (L2.upd H r o) c x := by
  rcases h with (h | ⟨u, h⟩) | h
  · exact .inl (.inl (by rw [upd_ne (ne_of h hr (fun z => nomatch z))]; exact h))
  · exact .inl (.inr ⟨u, by rw [upd_ne (ne_of h hr (fun z => nomatch z))]; exact h⟩)
  · exact .inr h
/-! ### a part set -/
def withPart (d : Krcg.Desk) (h j : Nat) (x : Rat) : Krcg.Desk := { d with w := d.w.setPart h j x }
theorem part_set {w : Krcf.World} {h j h' j' : Nat} {x : Rat} (hh : h < w.parts.length) (hj : j < (w.parts.getD h []).length) : (w.setPart h j x).part h' j' = if h' = h ∧ j' = j then x else w.part h' j' := by
  unfold Krcf.World.setPart Krcf.World.part
  simp only [List.getD_eq_getElem?_getD]
  by_cases e : h' = h
  · subst e
    rw [List.getElem?_set_self hh]
    simp only [Option.getD_some, true_and]
    by_cases e2 : j' = j
    · subst e2
      rw [if_pos rfl, List.getElem?_set_self (by simpa [List.getD_eq_getElem?_getD] using hj)]
      rfl
    · rw [if_neg e2, List.getElem?_set_ne (fun z => e2 z.symm)]
  · rw [if_neg (fun z => e z.1), List.getElem?_set_ne (fun z => e z.symm)]
theorem Good.rowLen {d : Krcg.Desk} (g : Good d) {h : Nat} (hh : h < d.w.people + d.w.firms) : (d.w.parts.getD h []).length = d.w.firms := by
  have h1 : h < d.w.parts.length := by rw [g.len]; exact hh
  rw [List.getD_eq_getElem?_getD, List.getElem?_eq_getElem h1]
  exact g.row _ (List.getElem_mem h1)
theorem Good.setPart {d : Krcg.Desk} (g : Good d) {h j : Nat} {x : Rat} (hh : h < d.w.people + d.w.firms) (hj : j < d.w.firms) (xs : Sm 7 x) (x0 : 0 ≤ x) (x1 : x ≤ 1) : Good (withPart d h j x) := by
  have h1 : h < d.w.parts.length := by rw [g.len]; exact hh
  have h2 : j < (d.w.parts.getD h []).length := by rw [g.rowLen hh]; exact hj
  have e : ∀ h' j', (withPart d h j x).w.part h' j' = if h' = h ∧ j' = j then x else d.w.part h' j' := fun h' j' => part_set h1 h2
  refine ⟨g.p1, g.p4, g.f1, g.f5, ?_, ?_, fun h' j' => ?_, fun h' j' => ?_, fun h' j' => ?_, g.qs, g.pl, g.pm⟩
  · show (d.w.parts.set h _).length = _
    rw [List.length_set]
    exact g.len
  · intro r hr
    rcases List.mem_or_eq_of_mem_set hr with m | m
    · exact g.row r m
    · rw [m, List.length_set]
      exact g.rowLen hh
  · rw [e]
    split
    · exact xs
    · exact g.sm _ _
  · rw [e]
    split
    · exact x0
    · exact g.pos _ _
  · rw [e]
    split
    · exact x1
    · exact g.le _ _
theorem ref_inj : ∀ {xs ys : List Addr}, xs.map V.ref = ys.map V.ref → xs = ys
  | [], [], _ => rfl
  | [], _ :: _, h => by cases h
  | _ :: _, [], h => by cases h
  | x :: xs, y :: ys, h => by
    rw [List.map_cons, List.map_cons] at h
    injection h with h1 h2
    rw [V.ref.inj h1, ref_inj h2]
theorem nats_ne_refs {l : List Nat} {cs : List Addr} (h : cs ≠ []) : nats l ≠ cs.map V.ref := by
  intro z
  cases cs with
  | nil => exact h rfl
  | cons c r =>
    cases l with
    | nil => cases z
    | cons n l => cases z
section
variable {P : Program} {w : PySem.World} {K : PySem.W.Frag} {mg : Str → Option Value} {base : Heap} {A : Ad}
/-- the book behind a part that was set -/
theorem BookAt.give {C : Addr} {H : Hp} {b : Addr} {d : Krcg.Desk} {L : Lay} {h j : Nat} {r c : Addr} {cs : List Addr} {x : Rat} (B : BookAt K C H b d L) (g : Good d) (hh : h < d.w.people + d.w.firms) (hj : j < d.w.firms)
    (hr : L.rows[h]? = some r) (hc : H r = some (.lst (cs.map V.ref))) (hl : cs.length = d.w.firms) (hcs : ∀ (j : Nat) (c : Addr), cs[j]? = some c → Fr K H c (d.w.part h j)) (hx : Fr K H c x) :
    BookAt K C (upd H r (.lst ((cs.map V.ref).set j (.ref c)))) b (withPart d h j x) L ∧ Keeps C H (upd H r (.lst ((cs.map V.ref).set j (.ref c)))) := by
  have f1 := g.f1
  have p1 := g.p1
  have csn : cs ≠ [] := fun z => by rw [z] at hl; simp at hl; omega
  have h1 : h < d.w.parts.length := by rw [g.len]; exact hh
  have h2 : j < (d.w.parts.getD h []).length := by rw [g.rowLen hh]; exact hj
  have e : ∀ h' j', (withPart d h j x).w.part h' j' = if h' = h ∧ j' = j then x else d.w.part h' j' := fun h' j' => part_set h1 h2
  refine ⟨⟨?_, ?_, B.nd, B.len, ?_, ?_, ?_⟩, ?_⟩
  · rw [upd_ne (ne_of B.ins hc (fun z => nomatch z))]
    exact B.ins
  · rw [upd_ne (ne_of B.lpa hc (fun z => ?_))]
    · exact B.lpa
    · have z1 := ref_inj (HO.lst.inj z)
      have z2 := B.len
      rw [z1, hl] at z2
      omega
  · intro h' r' hr'
    by_cases eh : h' = h
    · subst eh
      rw [hr] at hr'
      cases hr'
      refine ⟨cs.set j c, ?_, ?_, fun j' c' hc' => ?_⟩
      · rw [upd_same, List.map_set]
      · rw [List.length_set]
        exact hl
      · refine Fr.upd hc ?_
        rw [e]
        by_cases ej : j' = j
        · subst ej
          rw [List.getElem?_set_self (by rw [hl]; exact hj)] at hc'
          cases hc'
          rw [if_pos ⟨rfl, rfl⟩]
          exact hx
        · rw [List.getElem?_set_ne (fun z => ej z.symm)] at hc'
          rw [if_neg (fun z => ej z.2)]
          exact hcs j' c' hc'
    · have ne : r' ≠ r := fun z => by
        subst z
        exact eh (nd_ix B.nd hr' hr)
      obtain ⟨cs', q1, q2, q3⟩ := B.row h' r' hr'
      refine ⟨cs', by rw [upd_ne ne]; exact q1, q2, fun j' c' hc' => Fr.upd hc ?_⟩
      rw [e, if_neg (fun z => eh z.1)]
      exact q3 j' c' hc'
  · exact Fr.upd hc B.q
  · rw [upd_ne (ne_of B.lpr hc (fun z => nats_ne_refs csn (HO.lst.inj z)))]
    exact B.lpr
  · intro y o ho no
    rw [upd_ne (ne_of ho hc (fun z => no (.inr ⟨cs, csn, z⟩)))]
    exact ho
def spGive (K : PySem.W.Frag) (C : Addr) : Sp := fun vs H Q _ => ∃ (b c : Addr) (d : Krcg.Desk) (L : Lay) (h j : Nat) (x : Rat), vs = [.ref b, .int (h : Int), .int (j : Int), .ref c] ∧ BookAt K C H b d L ∧ Good d ∧ h < d.w.people + d.w.firms ∧ j < d.w.firms ∧ Fr K H c x ∧
  ∀ H', BookAt K C H' b (withPart d h j x) L → Keeps C H H' → (∀ c y, Fr K H c y → Fr K H' c y) → (∀ x, H' x = none → H x = none) → Q .non H'
theorem ixN_nat {n j : Nat} (h : j < n) : ixN n (j : Int) = some j := by
  unfold ixN
  rw [if_pos (by omega), if_pos (by omega), Int.toNat_natCast]
theorem ok_Book_give_part (T : Txt K mg A) : FnOk P w K mg base CX0 1 A.f_Book_give_part A.d_Book_give_part ["self", "holder", "company", "share"] (spGive K A.C_Book) := by
  refine T.d_Book_give_part.F.ok sc_Book_give_part (fun vs H Q E h => ?_) (fun cdv Ar outer s H vs Q E hr h => ⟨_, (pss_one (ps_asg (pv 3) (pg_sub (pe_ix ix_list (pe_fld (pv 0) rfl) (pv 1) (fun _ _ => rfl)) (pv 2) set_list))), ?_⟩)
  · obtain ⟨b, c, d, L, h, j, x, rfl, _⟩ := h
    rfl
  · obtain ⟨b, c, d, L, h, j, x, rfl, B, g, hh, hj, hx, q⟩ := h
    have h1 : h < L.rows.length := by rw [B.len]; exact hh
    have hr' := List.getElem?_eq_getElem h1
    obtain ⟨cs, h2, h3, h4⟩ := B.row h _ hr'
    have bg := B.give g hh hj hr' h2 h3 h4 hx
    refine ⟨_, rfl, _, rfl, _, _, _, _, _, rfl, B.ins, T.c_Book, T.n_Book_parts, bookF_parts, _, rfl, _, _, _, _, rfl, rfl, SqL.of B.lpa, atI_nat (map_at hr'), _, rfl, _, _, _, _, rfl, rfl, h2, ixN_nat (by rw [List.length_map, h3]; exact hj), ?_⟩
    exact q _ bg.1 bg.2 (fun c y f => f.upd h2) fun x hx => by
      by_cases z : x = L.rows[h]
      · rw [z, upd_same] at hx
        cases hx
      · rw [upd_ne z] at hx
        exact hx
end
end Wr
/-! The book, further: __init__. -/
namespace Wr
open PySem PySem.Spec PyProof.Rows L2
open Evl (Ex ex_l ex_t)
theorem flat_rep (x : V) : ∀ n : Nat, (List.replicate n [x]).flatten = List.replicate n x
  | 0 => rfl
  | n + 1 => by rw [List.replicate_succ, List.flatten_cons, flat_rep x n, List.replicate_succ]; rfl
theorem put_past {f g : Str} {v x : V} {r : List (Str × V)} (h : ¬ g = f) : putF f v ((g, x) :: r) = (g, x) :: putF f v r := if_neg h
theorem put_here {f : Str} {v x : V} {r : List (Str × V)} : putF f v ((f, x) :: r) = (f, v) :: r := if_pos rfl
theorem bookF_new {m n : Nat} {pa qa pr : Addr} : putF "prices" (.ref pr) (putF "quorum" (.ref qa) (putF "parts" (.ref pa) (putF "companies" (.int (n : Int)) (putF "people" (.int (m : Int)) [])))) = ([("people", .int (m : Int)), ("companies", .int (n : Int)), ("parts", .ref pa), ("quorum", .ref qa), ("prices", .ref pr)] : List (Str × V)) := by
  have n1 : ¬ ("people" : Str) = "companies" := by decide +kernel
  have n2 : ¬ ("people" : Str) = "parts" := by decide +kernel
  have n3 : ¬ ("people" : Str) = "quorum" := by decide +kernel
  have n4 : ¬ ("people" : Str) = "prices" := by decide +kernel
  have n5 : ¬ ("companies" : Str) = "parts" := by decide +kernel
  have n6 : ¬ ("companies" : Str) = "quorum" := by decide +kernel
  have n7 : ¬ ("companies" : Str) = "prices" := by decide +kernel
  have n8 : ¬ ("parts" : Str) = "quorum" := by decide +kernel
  have n9 : ¬ ("parts" : Str) = "prices" := by decide +kernel
  have n10 : ¬ ("quorum" : Str) = "prices" := by decide +kernel
  simp only [putF, if_neg n1, if_neg n2, if_neg n3, if_neg n4, if_neg n5, if_neg n6, if_neg n7, if_neg n8, if_neg n9, if_neg n10]
theorem getD_rep {α : Type} {n i : Nat} {a b : α} (h : a = b) : (List.replicate n a).getD i b = b := by
  rw [List.getD_eq_getElem?_getD, List.getElem?_replicate]
  split
  · exact h
  · rfl
theorem empty_part (m n h j : Nat) : (Krcf.empty m n).part h j = 0 := by
  unfold Krcf.empty Krcf.World.part
  show ((List.replicate (m + n) (List.replicate n (0 : Rat))).getD h []).getD j 0 = 0
  rw [List.getD_eq_getElem?_getD (l := List.replicate (m + n) _), List.getElem?_replicate]
  split
  · exact getD_rep rfl
  · rfl
theorem q35_num : ((3 : Rat) / (5 : Rat)).num = 3 := by decide +kernel
theorem q35_den : (((3 : Rat) / (5 : Rat)).den : Int) = 5 := by decide +kernel
section
variable {P : Program} {w : PySem.World} {K : PySem.W.Frag} {mg : Str → Option Value} {base : Heap} {A : Ad}
def newDesk (m n : Nat) : Krcg.Desk := ⟨Krcf.empty m n, (3 : Rat) / (5 : Rat), List.replicate n 100⟩
def spBookInit (K : PySem.W.Frag) (C : Addr) : Sp := fun vs H Q _ => ∃ (x dx : Addr) (m n : Nat), vs = [.ref x, .int (m : Int), .int (n : Int)] ∧ H x = some (.ins C dx []) ∧ m ≤ 4 ∧ n ≤ 5 ∧
  ∀ (H' : Hp) (L : Lay), BookAt K C H' x (newDesk m n) L → H L.pr = none → (∀ b o, H b = some o → b ≠ x → H' b = some o) → Q .non H'
theorem ok_Book_init (T : Txt K mg A) : FnOk P w K mg base CX0 1 A.f_Book_init A.d_Book_init ["self", "people", "companies"] (spBookInit K A.C_Book) := by
  refine T.d_Book_init.F.ok sc_Book_init (fun vs H Q E h => ?_) (fun cdv Ar outer s H vs Q E hr h => ⟨_, (pss_cons (ps_fld (pv 0) (pv 1) rfl) (pss_cons (ps_fld (pv 0) (pv 2) rfl) (pss_cons (ps_fld (pv 0) (pe_lc (own := [("holder", 3)]) (g := gName 3) (tt := tYes) rfl sc_Book_init.nd (pi_range1 rfl T.no_range (pa_cons (pe_op op_add (pv 1) (pv 2)) pa_nil)) (blkOk_by (N := ["self", "people", "companies", "holder"]) (sc := defScope s_Book_init) (by decide +kernel)) (fun _ _ _ _ _ => (pg_name (i := 3) sc_Book_init.nd rfl (Or.inl rfl))) (fun _ _ _ _ _ => pts_nil) (fun _ _ _ _ _ => (pe_op op_rep (pe_lst (pa_cons (pe_glob (v := .ref A.a_ZERO) rfl T.g_ZERO rfl) pa_nil)) (pv 2)))) rfl) (pss_cons (ps_fld (pv 0) (pe_glob (v := .ref A.a_FIRST_QUORUM) rfl T.g_FIRST_QUORUM rfl) rfl) (pss_one (ps_fld (pv 0) (pe_op op_rep (pe_lst (pa_cons (pe_glob (v := .int (100)) rfl T.g_FIRST_PRICE ⟨_, rfl⟩) pa_nil)) (pv 2)) rfl)))))), ?_⟩)
  · obtain ⟨x, dx, m, n, rfl, _⟩ := h
    rfl
  · obtain ⟨x, dx, m, n, rfl, hx, hm, hn, q⟩ := h
    refine ⟨_, rfl, _, rfl, x, A.C_Book, dx, _, rfl, hx, T.c_Book, T.n_Book_people, (by show 0 < 1000; decide), ?_⟩
    refine ⟨_, rfl, _, rfl, x, A.C_Book, dx, _, rfl, upd_same, T.c_Book, T.n_Book_companies, (by show 1 < 1000; decide), ?_⟩
    refine ⟨_, rfl, _, rfl, _, _, rfl, rfl, _, rfl, by omega, by omega, fun D hD => ?_⟩
    have e1 : ∀ b o, H b = some o → b ≠ x → (upd (upd H x (HO.ins A.C_Book dx (putF "people" (V.int (m : Int)) []))) x (HO.ins A.C_Book dx (putF "companies" (V.int (n : Int)) (putF "people" (V.int (m : Int)) [])))) b = some o := fun b o hb hne => by
      rw [upd_ne hne, upd_ne hne]
      exact hb
    have hx2 : (upd (upd H x (HO.ins A.C_Book dx (putF "people" (V.int (m : Int)) []))) x (HO.ins A.C_Book dx (putF "companies" (V.int (n : Int)) (putF "people" (V.int (m : Int)) [])))) x = some _ := upd_same
    generalize upd (upd H x (HO.ins A.C_Book dx (putF "people" (V.int (m : Int)) []))) x (HO.ins A.C_Book dx (putF "companies" (V.int (n : Int)) (putF "people" (V.int (m : Int)) []))) = H2 at hD e1 hx2 ⊢
    refine lc_range (lo := 0) (n := ((m : Int) + (n : Int)).toNat) (fun i H' => Ex H2 H' ∧ i ≤ m + n ∧ ∃ rows : List Addr, rows.length = i ∧ rows.Nodup ∧ D ∉ rows ∧ H' D = some (.lst (rows.map V.ref)) ∧ ∀ r ∈ rows, H' r = some (.lst (List.replicate n (V.ref A.a_ZERO)))) ⟨Ex.new hD, Nat.zero_le _, [], rfl, List.nodup_nil, List.not_mem_nil, upd_same, fun r hr => nomatch hr⟩ ?_ ?_
    · rintro i H' hi ⟨e, _, rows, hl, nd, dn, hd, hr⟩
      refine ⟨rfl, by show 1 ≤ sizeLine; decide, fun p hp => ⟨_, rfl, _, _, _, rfl, rfl, upd_same, by omega, by omega, ?_, fun p2 hp2 => ?_⟩⟩
      · show 1 * ((n : Int)).toNat ≤ sizeLine
        rw [Int.toNat_natCast, Nat.one_mul]
        exact Nat.le_of_lt (small1000 (by omega))
      rw [Int.toNat_natCast, flat_rep]
      have hp1 : H' p2 = none := by
        by_cases z : p2 = p
        · subst z; rw [upd_same] at hp2; cases hp2
        · rw [upd_ne z] at hp2; exact hp2
      have Dp : D ≠ p := ne_of_none hd hp
      have Dp2 : D ≠ p2 := ne_of_none hd hp1
      have p2r : ∀ r ∈ rows, r ≠ p2 := fun r m => ne_of_none (hr r m) hp1
      refine ⟨rows.map V.ref, ?_, ?_, ?_, by omega, rows ++ [p2], ?_, ?_, ?_, ?_, ?_⟩
      · rw [upd_ne Dp2, upd_ne Dp]
        exact hd
      · rw [List.length_map, hl]
        exact small1000 (by omega)
      · refine Ex.mut ?_ hD
        exact (e.trans (Ex.new hp)).trans (Ex.new hp2)
      · rw [List.length_append, hl]; rfl
      · rw [List.nodup_append]
        exact ⟨nd, by simp, fun a ha b hb => by cases List.mem_singleton.mp hb; exact p2r a ha⟩
      · intro z
        rcases List.mem_append.mp z with z | z
        · exact dn z
        · exact Dp2 (List.mem_singleton.mp z)
      · rw [upd_same, List.map_append]
        rfl
      · intro r hr2
        rcases List.mem_append.mp hr2 with z | z
        · have rD : r ≠ D := fun y => dn (by rw [← y]; exact z)
          rw [upd_ne rD, upd_ne (p2r r z), upd_ne (ne_of_none (hr r z) hp)]
          exact hr r z
        · cases List.mem_singleton.mp z
          rw [upd_ne (fun y => Dp2 y.symm), upd_same]
    · rintro H' ⟨e, _, rows, hl, nd, dn, hd, hr⟩
      have hl : rows.length = m + n := by omega
      refine ⟨_, rfl, x, A.C_Book, dx, _, rfl, e _ _ hx2, T.c_Book, T.n_Book_parts, (by show 2 < 1000; decide), ?_⟩
      refine ⟨_, rfl, x, A.C_Book, dx, _, rfl, upd_same, T.c_Book, T.n_Book_quorum, (by show 3 < 1000; decide), ?_⟩
      refine ⟨by show 1 ≤ sizeLine; decide, fun p hp => ⟨_, rfl, _, _, _, rfl, rfl, upd_same, by omega, by omega, ?_, fun p2 hp2 => ?_⟩⟩
      · show 1 * ((n : Int)).toNat ≤ sizeLine
        rw [Int.toNat_natCast, Nat.one_mul]
        exact Nat.le_of_lt (small1000 (by omega))
      have hx' := e _ _ hx2
      rw [Int.toNat_natCast, flat_rep]
      have xD : x ≠ D := ne_of hx' hd (fun z => nomatch z)
      have xr : ∀ r ∈ rows, r ≠ x := fun r m => ne_of (hr r m) hx' (fun z => nomatch z)
      -- what stands in H' but at x is there behind all
      have pn : H' p = none := by
        by_cases z : p = x
        · subst z; rw [upd_same] at hp; cases hp
        · rw [upd_ne z, upd_ne z] at hp; exact hp
      have p2n : H' p2 = none ∧ p2 ≠ x := by
        by_cases z : p2 = p
        · subst z; rw [upd_same] at hp2; cases hp2
        · rw [upd_ne z] at hp2
          by_cases z2 : p2 = x
          · subst z2; rw [upd_same] at hp2; cases hp2
          · rw [upd_ne z2, upd_ne z2] at hp2; exact ⟨hp2, z2⟩
      have xp : x ≠ p := ne_of_none hx' pn
      have xp2 : x ≠ p2 := fun z => p2n.2 z.symm
      refine ⟨_, rfl, x, A.C_Book, dx, putF "quorum" (V.ref A.a_FIRST_QUORUM) (putF "parts" (V.ref D) (putF "companies" (V.int (n : Int)) (putF "people" (V.int (m : Int)) []))), rfl, ?_, T.c_Book, T.n_Book_prices, (by show 4 < 1000; decide), ?_⟩
      · rw [upd_ne xp2, upd_ne xp, upd_same]
      have keep : ∀ (F : HO) b o, b ≠ x → H' b = some o → upd (upd (upd (upd (upd H' x (HO.ins A.C_Book dx (putF "parts" (V.ref D) (putF "companies" (V.int (n : Int)) (putF "people" (V.int (m : Int)) []))))) x (HO.ins A.C_Book dx (putF "quorum" (V.ref A.a_FIRST_QUORUM) (putF "parts" (V.ref D) (putF "companies" (V.int (n : Int)) (putF "people" (V.int (m : Int)) [])))))) p (HO.lst [V.int 100])) p2 (HO.lst (List.replicate n (V.int 100)))) x F b = some o := fun F b o bx hb => by
        rw [upd_ne bx, upd_ne (ne_of_none hb p2n.1), upd_ne (ne_of_none hb pn), upd_ne bx, upd_ne bx]
        exact hb
      refine q _ ⟨dx, D, A.a_FIRST_QUORUM, p2, rows⟩ ⟨?_, keep _ _ _ (fun z => xD z.symm) hd, nd, hl, ?_, ?_, ?_⟩ ?_ ?_
      · rw [upd_same, bookF_new]
        rfl
      · intro h r hr2
        have rm := List.mem_of_getElem? hr2
        refine ⟨List.replicate n A.a_ZERO, ?_, List.length_replicate, fun j c hc => ?_⟩
        · rw [List.map_replicate]
          exact keep _ _ _ (xr r rm) (hr r rm)
        · have hc' : c = A.a_ZERO := (List.mem_replicate.mp (List.mem_of_getElem? hc)).2
          subst hc'
          show Fr K _ _ ((Krcf.empty m n).part h j)
          rw [empty_part]
          exact fr_zero T _
      · unfold Fr
        rw [show (newDesk m n).q = (3 : Rat) / (5 : Rat) from rfl, q35_num, q35_den]
        exact T.v_FIRST_QUORUM _
      · show upd _ _ _ p2 = some (.lst ((List.replicate n 100).map _))
        rw [upd_ne p2n.2, upd_same, List.map_replicate]
        rfl
      · show H p2 = none
        cases z : H p2 with
        | none => rfl
        | some o =>
          have z2 := e _ _ (e1 p2 o z p2n.2)
          rw [p2n.1] at z2
          cases z2
      · intro b o hb bx
        exact keep _ _ _ bx (e _ _ (e1 b o hb bx))
end
end Wr
/-! The defs of ruling.py, up to one test. -/
namespace Wr
open PySem PySem.Spec PyProof.Rows L2
open Evl (Ex ex_l ex_t)
/-! ### votes -/
theorem votes_sm {d : Krcg.Desk} (g : Good d) (j : Nat) : Sm 9 (Krcg.votes d.w j) := sm_sub sm_one (g.sm _ _)
theorem votes_nonneg {d : Krcg.Desk} (g : Good d) (j : Nat) : 0 ≤ Krcg.votes d.w j := by
  have h := g.le (d.w.people + j) j
  show 0 ≤ 1 - d.w.part (d.w.people + j) j
  grind
theorem Good.Pos {d : Krcg.Desk} (g : Good d) : Pos d.w := g.pos
/-- what these people and these companies have -/
def haveL (d : Krcg.Desk) (pl rl : List Nat) (j : Nat) : Rat := Krcf.sum (partsOf d (pl ++ (rl.filter fun i => i != j).map fun i => d.w.people + i) j)
/-- the list pl tells the set ps of people -/
def Told (d : Krcg.Desk) (ps : Nat) (pl : List Nat) : Prop := pl.Perm ((List.range d.w.people).filter fun p => ps.testBit p)
theorem haveL_eq {d : Krcg.Desk} {ps : Nat} {pl : List Nat} (h : Told d ps pl) (rl : List Nat) (j : Nat) : haveL d pl rl j = Krcg.have_ d.w ps rl j := by
  unfold haveL partsOf Krcg.have_
  rw [List.map_append, sum_append, List.map_map]
  congr 1
  exact sum_perm (h.map _)
theorem Told.lt {d : Krcg.Desk} {ps : Nat} {pl : List Nat} (h : Told d ps pl) {p : Nat} (m : p ∈ pl) : p < d.w.people := List.mem_range.mp (List.mem_filter.mp (h.subset m)).1
theorem Told.len {d : Krcg.Desk} {ps : Nat} {pl : List Nat} (h : Told d ps pl) : pl.length ≤ d.w.people := by
  rw [h.length_eq]
  exact Nat.le_trans (List.length_filter_le _ _) (by rw [List.length_range]; exact Nat.le_refl _)
section
variable {P : Program} {w : PySem.World} {K : PySem.W.Frag} {mg : Str → Option Value} {base : Heap} {A : Ad}
def spVotes (K : PySem.W.Frag) (C : Addr) : Sp := fun vs H Q _ => ∃ (b : Addr) (d : Krcg.Desk) (L : Lay) (j : Nat), vs = [.ref b, .int (j : Int)] ∧ BookAt K C H b d L ∧ Good d ∧ j < d.w.firms ∧
  ∀ p H', Ex H H' → Fr K H' p (Krcg.votes d.w j) → Q (.ref p) H'
theorem no_part_of {d : Krcg.Desk} {pa qa pr : Addr} : (bookF d pa qa pr).lookup ("part_of" : Str) = none := bookF_no (by decide +kernel) (by decide +kernel) (by decide +kernel) (by decide +kernel) (by decide +kernel)
theorem no_as_holder {d : Krcg.Desk} {pa qa pr : Addr} : (bookF d pa qa pr).lookup ("company_as_holder" : Str) = none := bookF_no (by decide +kernel) (by decide +kernel) (by decide +kernel) (by decide +kernel) (by decide +kernel)
theorem no_held_by {d : Krcg.Desk} {pa qa pr : Addr} : (bookF d pa qa pr).lookup ("held_by" : Str) = none := bookF_no (by decide +kernel) (by decide +kernel) (by decide +kernel) (by decide +kernel) (by decide +kernel)
theorem ok_votes_of (T : Txt K mg A) : FnOk P w K mg base CX0 4 A.f_votes_of A.d_votes_of ["book", "company"] (spVotes K A.C_Book) := by
  have G_minus := ok_minus (P := P) (w := w) (base := base) T
  have G_Book_part_of := ok_Book_part_of (P := P) (w := w) (base := base) T
  have G_Book_company_as_holder := ok_Book_company_as_holder (P := P) (w := w) (base := base) T
  refine T.d_votes_of.F.ok sc_votes_of (fun vs H Q E h => ?_) (fun cdv Ar outer s H vs Q E hr h => ⟨_, (pss_one (ps_ret (pe_call G_minus (hr.mono (by decide)) rfl T.d_minus.g T.d_minus.F.kp T.d_minus.b .nil pass0 (pa_cons (pe_glob (v := .ref A.a_ONE) rfl T.g_ONE rfl) (pa_cons (pe_meth (pv 0) T.c_Book T.m_Book_part_of G_Book_part_of (hr.mono (by decide)) T.d_Book_part_of.b .nil pass0 (pa_cons (pe_meth (pv 0) T.c_Book T.m_Book_company_as_holder G_Book_company_as_holder (hr.mono (by decide)) T.d_Book_company_as_holder.b .nil pass0 (pa_cons (pv 1) pa_nil)) (pa_cons (pv 1) pa_nil))) pa_nil))))), ?_⟩)
  · obtain ⟨b, d, L, j, rfl, _⟩ := h
    rfl
  · obtain ⟨b, d, L, j, rfl, B, g, hj, q⟩ := h
    refine ⟨_, rfl, _, _, _, rfl, B.ins, no_part_of, _, rfl, _, _, _, rfl, B.ins, no_as_holder, _, rfl, ?_⟩
    refine ⟨b, d, L, j, rfl, B, _, rfl, ?_⟩
    refine ⟨b, d, L, d.w.people + j, j, rfl, B, by omega, hj, fun c hc => ?_⟩
    exact ⟨_, c, 1, _, 1, 7, rfl, fr_one T H, hc, sm_one, g.sm _ _, by omega, fun p H' e f => q p H' e f⟩
def spCommanded (K : PySem.W.Frag) (C : Addr) : Sp := fun vs H Q _ => ∃ (b l r : Addr) (d : Krcg.Desk) (L : Lay) (pl rl : List Nat) (j : Nat), vs = [.ref b, .ref l, .ref r, .int (j : Int)] ∧ BookAt K C H b d L ∧ Good d ∧ SqL K H l (nats pl) ∧ SqL K H r (nats rl) ∧
  (∀ p ∈ pl, p < d.w.people) ∧ (∀ i ∈ rl, i < d.w.firms) ∧ pl.length ≤ 20 ∧ rl.length ≤ 20 ∧ j < d.w.firms ∧
  ∀ p H', Ex H H' → Fr K H' p (haveL d pl rl j) → Q (.ref p) H'
theorem ok_commanded (T : Txt K mg A) : FnOk P w K mg base CX0 5 A.f_commanded A.d_commanded ["book", "people", "ruled", "company"] (spCommanded K A.C_Book) := by
  have G_Book_held_by := ok_Book_held_by (P := P) (w := w) (base := base) T
  have G_Book_company_as_holder := ok_Book_company_as_holder (P := P) (w := w) (base := base) T
  refine T.d_commanded.F.ok sc_commanded (fun vs H Q E h => ?_) (fun cdv Ar outer s H vs Q E hr h => ⟨_, (pss_cons (ps_set (i := 4) sc_commanded.nd rfl (Or.inl rfl) (pe_callTy call_list_of (by rfl) T.no_list (by decide +kernel) (pa_cons (pv 1) pa_nil))) (pss_cons (ps_for PassesOwn.never rfl (pi_list (pv 2)) (pg_name (i := 5) sc_commanded.nd rfl (Or.inl rfl)) (pss_one (ps_if (pt_cmpR op_ne (pv 5) (pv 3) (nomark _)) (pss_one (ps_expr (pe_bm PySem.F.plainAttrs_list PySem.F.slot_list_append PySem.F.type_list_append mt_append (pv 4) (pa_cons (pe_meth (pv 0) T.c_Book T.m_Book_company_as_holder G_Book_company_as_holder (hr.mono (by decide)) T.d_Book_company_as_holder.b .nil pass0 (pa_cons (pv 5) pa_nil)) pa_nil)))) pss_nil))) (pss_one (ps_ret (pe_meth (pv 0) T.c_Book T.m_Book_held_by G_Book_held_by (hr.mono (by decide)) T.d_Book_held_by.b .nil pass0 (pa_cons (pv 4) (pa_cons (pv 3) pa_nil))))))), ?_⟩)
  · obtain ⟨b, l, r, d, L, pl, rl, j, rfl, _⟩ := h
    rfl
  · obtain ⟨b, l, r, d, L, pl, rl, j, rfl, B, g, hl, hr2, hp, hi, np, ni, hj, q⟩ := h
    refine ⟨_, rfl, l, _, rfl, .inl hl, fun D hD => ?_⟩
    refine ⟨_, rfl, r, rfl, ⟨_, ex_l (Ex.new hD) hr2⟩, for_list (K := K) (a := r) (xs := nats rl) (fun i σ H' => Ex H H' ∧ ∃ v : Option V, σ = [some (.ref b), some (.ref l), some (.ref r), some (.int (j : Int)), some (.ref D), v] ∧ H' D = some (.lst (nats (pl ++ ((rl.take i).filter fun i => i != j).map fun i => d.w.people + i))))
      ⟨Ex.new hD, none, rfl, by rw [upd_same]; simp⟩ (fun i σ H' _ p => ex_l p.1 hr2) ?_ ?_⟩
    · rintro i y σ H' hi' ⟨e, v, rfl, hd⟩
      obtain ⟨o, ho, rfl⟩ := nats_at hi'
      have il : i < rl.length := (List.getElem?_eq_some_iff.mp ho).1
      have ec : (!decide (V.int (o : Int) = V.int (j : Int))) = (o != j) := by
        rw [bne, show (o == j) = decide (o = j) from rfl]
        congr 1
        rw [Bool.eq_iff_iff, decide_eq_true_eq, decide_eq_true_eq]
        exact ⟨fun z => by have := V.int.inj z; omega, fun z => by rw [z]⟩
      refine ⟨_, rfl, _, rfl, rfl, _, rfl, ?_⟩
      cases c : (o != j) with
      | true =>
        refine itT (ec.trans c) ⟨_, rfl, .inl ⟨rfl, _, SqL.of hd⟩, _, rfl, _, _, _, rfl, (B.ex e).ins, no_as_holder, _, rfl, ?_⟩
        refine ⟨b, d, L, o, rfl, B.ex e, _, _, _, rfl, rfl, hd, ?_, e.mut hD, _, rfl, ?_⟩
        · rw [nats, List.length_map, List.length_append, List.length_map]
          have := List.length_filter_le (fun i => i != j) (rl.take i)
          rw [List.length_take] at this
          exact small1000 (by omega)
        · rw [upd_same, take_more ho, List.filter_append, List.filter_cons, List.filter_nil, if_pos c, List.map_append, ← List.append_assoc]
          simp [nats]
      | false =>
        refine itF (ec.trans c) ⟨e, _, rfl, ?_⟩
        rw [take_more ho, List.filter_append, List.filter_cons, List.filter_nil, if_neg (by rw [c]; exact Bool.false_ne_true), List.append_nil]
        exact hd
    · rintro σ H' ⟨e, v, rfl, hd⟩
      rw [nats, List.length_map, List.take_length] at hd
      refine ⟨_, rfl, _, _, _, rfl, (B.ex e).ins, no_held_by, _, rfl, _, rfl, ?_⟩
      refine ⟨b, D, d, L, _, j, rfl, B.ex e, g, SqL.of hd, ?_, ?_, hj, fun p H2 e2 f => q p H2 (e.trans e2) f⟩
      · intro h hm
        rcases List.mem_append.mp hm with m | m
        · have := hp h m; omega
        · obtain ⟨i, m2, rfl⟩ := List.mem_map.mp m
          have := hi i (List.mem_filter.mp m2).1
          omega
      · rw [List.length_append, List.length_map]
        have := List.length_filter_le (fun i => i != j) rl
        omega
/-! ### one test -/
theorem eqv_zero (x : Rat) : PyData.eqv (.tuple [.int x.num, .int (x.den : Int)]) (.tuple [.int 0, .int 1]) = decide (x = 0) := by
  rw [Bool.eq_iff_iff, decide_eq_true_eq]
  constructor
  · intro h
    have h1 : ((x.num == 0) && ((x.den : Int) == 1 && true)) = true := h
    rw [Bool.and_eq_true, beq_iff_eq] at h1
    exact Rat.num_eq_zero.mp h1.1
  · rintro rfl
    rfl
def spHasVotes (K : PySem.W.Frag) (C : Addr) : Sp := fun vs H Q _ => ∃ (b : Addr) (d : Krcg.Desk) (L : Lay) (j : Nat), vs = [.ref b, .int (j : Int)] ∧ BookAt K C H b d L ∧ Good d ∧ j < d.w.firms ∧
  ∀ H', Ex H H' → Q (.bl (decide (0 < Krcg.votes d.w j))) H'
theorem ok_has_votes (T : Txt K mg A) : FnOk P w K mg base CX0 5 A.f_has_votes A.d_has_votes ["book", "company"] (spHasVotes K A.C_Book) := by
  have G_votes_of := ok_votes_of (P := P) (w := w) (base := base) T
  refine T.d_has_votes.F.ok sc_has_votes (fun vs H Q E h => ?_) (fun cdv Ar outer s H vs Q E hr h => ⟨_, (pss_one (ps_ret (pe_cmpR (op_neD hr.units) (pe_call G_votes_of (hr.mono (by decide)) rfl T.d_votes_of.g T.d_votes_of.F.kp T.d_votes_of.b .nil pass0 (pa_cons (pv 0) (pa_cons (pv 1) pa_nil))) (pe_glob (v := .ref A.a_ZERO) rfl T.g_ZERO rfl) (nomark _)))), ?_⟩)
  · obtain ⟨b, d, L, j, rfl, _⟩ := h
    rfl
  · obtain ⟨b, d, L, j, rfl, B, g, hj, q⟩ := h
    refine ⟨_, rfl, _, rfl, b, d, L, j, rfl, B, g, hj, fun v H1 e1 fv => ?_⟩
    refine ⟨_, _, .tup fv (.cons (.int _) (.cons (.int _) .nil)), .tup (T.v_ZERO _) (.cons (.int _) (.cons (.int _) .nil)), rfl, rfl, ?_⟩
    have vn := votes_nonneg g j
    have e : (!PyData.eqv (.tuple [.int (Krcg.votes d.w j).num, .int ((Krcg.votes d.w j).den : Int)]) (.tuple [.int 0, .int 1])) = decide (0 < Krcg.votes d.w j) := by
      rw [eqv_zero]
      by_cases c : Krcg.votes d.w j = 0
      · rw [decide_eq_true c, c]
        rfl
      · rw [decide_eq_false c, decide_eq_true (show 0 < Krcg.votes d.w j by grind)]
        rfl
    have z := q H1 e1
    rw [← e] at z
    exact z
def spNeeded (K : PySem.W.Frag) (C : Addr) : Sp := fun vs H Q _ => ∃ (b : Addr) (d : Krcg.Desk) (L : Lay) (j : Nat), vs = [.ref b, .int (j : Int)] ∧ BookAt K C H b d L ∧ Good d ∧ j < d.w.firms ∧
  ∀ p H', Ex H H' → Fr K H' p (d.q * Krcg.votes d.w j) → Q (.ref p) H'
theorem ok_needed_of (T : Txt K mg A) : FnOk P w K mg base CX0 5 A.f_needed_of A.d_needed_of ["book", "company"] (spNeeded K A.C_Book) := by
  have G_times := ok_times (P := P) (w := w) (base := base) T
  have G_votes_of := ok_votes_of (P := P) (w := w) (base := base) T
  refine T.d_needed_of.F.ok sc_needed_of (fun vs H Q E h => ?_) (fun cdv Ar outer s H vs Q E hr h => ⟨_, (pss_one (ps_ret (pe_call G_times (hr.mono (by decide)) rfl T.d_times.g T.d_times.F.kp T.d_times.b .nil pass0 (pa_cons (pe_fld (pv 0) rfl) (pa_cons (pe_call G_votes_of (hr.mono (by decide)) rfl T.d_votes_of.g T.d_votes_of.F.kp T.d_votes_of.b .nil pass0 (pa_cons (pv 0) (pa_cons (pv 1) pa_nil))) pa_nil))))), ?_⟩)
  · obtain ⟨b, d, L, j, rfl, _⟩ := h
    rfl
  · obtain ⟨b, d, L, j, rfl, B, g, hj, q⟩ := h
    refine ⟨_, rfl, _, _, _, _, _, rfl, B.ins, T.c_Book, T.n_Book_quorum, bookF_quorum, _, rfl, _, rfl, b, d, L, j, rfl, B, g, hj, fun v H1 e1 fv => ?_⟩
    exact ⟨_, v, d.q, _, 7, 9, rfl, (B.ex e1).q, fv, g.qs, votes_sm g j, by omega, fun p H2 e2 fp => q p H2 (e1.trans e2) fp⟩
theorem needed_sm {d : Krcg.Desk} (g : Good d) (j : Nat) : Sm 16 (d.q * Krcg.votes d.w j) := sm_mul g.qs (votes_sm g j)
def spIsRuled (K : PySem.W.Frag) (C : Addr) : Sp := fun vs H Q _ => ∃ (b l r : Addr) (d : Krcg.Desk) (L : Lay) (ps : Nat) (pl rl : List Nat) (j : Nat), vs = [.ref b, .ref l, .ref r, .int (j : Int)] ∧ BookAt K C H b d L ∧ Good d ∧ SqL K H l (nats pl) ∧ SqL K H r (nats rl) ∧
  Told d ps pl ∧ (∀ i ∈ rl, i < d.w.firms) ∧ rl.length ≤ 20 ∧ j < d.w.firms ∧
  ∀ H', Ex H H' → Q (.bl (Krcg.enough d ps rl j)) H'
theorem ok_is_ruled_by_way_of (T : Txt K mg A) : FnOk P w K mg base CX0 6 A.f_is_ruled_by_way_of A.d_is_ruled_by_way_of ["book", "people", "ruled", "company"] (spIsRuled K A.C_Book) := by
  have G_at_least := ok_at_least (P := P) (w := w) (base := base) T
  have G_needed_of := ok_needed_of (P := P) (w := w) (base := base) T
  have G_commanded := ok_commanded (P := P) (w := w) (base := base) T
  have G_has_votes := ok_has_votes (P := P) (w := w) (base := base) T
  refine T.d_is_ruled_by_way_of.F.ok sc_is_ruled_by_way_of (fun vs H Q E h => ?_) (fun cdv Ar outer s H vs Q E hr h => ⟨_, (pss_cons (ps_if (pt_not (pt_val (pe_call G_has_votes (hr.mono (by decide)) rfl T.d_has_votes.g T.d_has_votes.F.kp T.d_has_votes.b .nil pass0 (pa_cons (pv 0) (pa_cons (pv 3) pa_nil))))) (pss_one (ps_ret pe_bl)) pss_nil) (pss_one (ps_ret (pe_call G_at_least (hr.mono (by decide)) rfl T.d_at_least.g T.d_at_least.F.kp T.d_at_least.b .nil pass0 (pa_cons (pe_call G_commanded (hr.mono (by decide)) rfl T.d_commanded.g T.d_commanded.F.kp T.d_commanded.b .nil pass0 (pa_cons (pv 0) (pa_cons (pv 1) (pa_cons (pv 2) (pa_cons (pv 3) pa_nil))))) (pa_cons (pe_call G_needed_of (hr.mono (by decide)) rfl T.d_needed_of.g T.d_needed_of.F.kp T.d_needed_of.b .nil pass0 (pa_cons (pv 0) (pa_cons (pv 3) pa_nil))) pa_nil)))))), ?_⟩)
  · obtain ⟨b, l, r, d, L, ps, pl, rl, j, rfl, _⟩ := h
    rfl
  · obtain ⟨b, l, r, d, L, ps, pl, rl, j, rfl, B, g, hl, hr2, hp, hi, ni, hj, q⟩ := h
    have p4 := g.p4
    refine ⟨_, rfl, _, rfl, b, d, L, j, rfl, B, g, hj, fun H1 e1 => ⟨_, rfl, ?_⟩⟩
    have en : Krcg.enough d ps rl j = (decide (0 < Krcg.votes d.w j) && decide (d.q * Krcg.votes d.w j ≤ Krcg.have_ d.w ps rl j)) := rfl
    by_cases c : 0 < Krcg.votes d.w j
    · refine itF (by rw [decide_eq_true c]; rfl) ?_
      refine ⟨_, rfl, _, rfl, _, rfl, _, rfl, ?_⟩
      refine ⟨b, l, r, d, L, pl, rl, j, rfl, B.ex e1, g, ex_l e1 hl, ex_l e1 hr2, fun p m => hp.lt m, hi, by have := hp.len; omega, ni, hj, fun h H2 e2 fh => ?_⟩
      refine ⟨_, rfl, _, rfl, b, d, L, j, rfl, B.ex (e1.trans e2), g, hj, fun p H3 e3 fp => ?_⟩
      refine ⟨h, p, _, _, 401, 16, rfl, fh.ex e3, fp, ?_, needed_sm g j, by omega, ?_⟩
      · refine (sm_parts g j _).mono ?_
        rw [List.length_append, List.length_map]
        have := List.length_filter_le (fun i => i != j) rl
        have := hp.len
        omega
      · have z := q H3 ((e1.trans e2).trans e3)
        rw [en, decide_eq_true c, Bool.true_and, ← haveL_eq hp] at z
        exact z
    · refine itT (by rw [decide_eq_false c]; rfl) ?_
      have z := q H1 e1
      rw [en, decide_eq_false c] at z
      exact z
end
end Wr
/-! The defs of ruling.py, further: newly_ruled, ruled_together, rulers_of. -/
namespace Wr
open PySem PySem.Spec PyProof.Rows L2
open Evl (Ex ex_l ex_t)
theorem inV_nats (j : Nat) : ∀ l : List Nat, inV (.int (j : Int)) (nats l) = l.contains j
  | [] => rfl
  | a :: l => by
    have ih := inV_nats j l
    show (eqV (.int (a : Int)) (.int (j : Int)) || inV (.int (j : Int)) (nats l)) = (a :: l).contains j
    rw [ih, List.contains_cons]
    congr 1
    show ((a : Int) == (j : Int)) = (j == a)
    rw [Bool.eq_iff_iff, beq_iff_eq, beq_iff_eq]
    omega
theorem flat_nats : ∀ l : List Nat, (nats l).all flatV = true
  | [] => rfl
  | a :: l => by
    show (flatV (.int (a : Int)) && (nats l).all flatV) = true
    rw [flat_nats l]
    rfl
theorem nats_append (l m : List Nat) : nats (l ++ m) = nats l ++ nats m := List.map_append
/-- those that are not ruled yet, and must be -/
def fresh (d : Krcg.Desk) (ps : Nat) (rl : List Nat) : List Nat := (List.range d.w.firms).filter fun j => !rl.contains j && Krcg.enough d ps rl j
theorem filter_succ (p : Nat → Bool) (i : Nat) : (List.range (i + 1)).filter p = (List.range i).filter p ++ (if p i = true then [i] else []) := by
  rw [List.range_succ, List.filter_append, List.filter_cons, List.filter_nil]
theorem filter_len (p : Nat → Bool) (i : Nat) : ((List.range i).filter p).length ≤ i := Nat.le_trans (List.length_filter_le _ _) (by rw [List.length_range]; exact Nat.le_refl _)
section
variable {P : Program} {w : PySem.World} {K : PySem.W.Frag} {mg : Str → Option Value} {base : Heap} {A : Ad}
def spNewly (K : PySem.W.Frag) (C : Addr) : Sp := fun vs H Q _ => ∃ (b l r : Addr) (d : Krcg.Desk) (L : Lay) (ps : Nat) (pl rl : List Nat), vs = [.ref b, .ref l, .ref r] ∧ BookAt K C H b d L ∧ Good d ∧ SqL K H l (nats pl) ∧ SqL K H r (nats rl) ∧
  Told d ps pl ∧ (∀ i ∈ rl, i < d.w.firms) ∧ rl.length ≤ 20 ∧
  ∀ p H', H p = none → Ex H H' → H' p = some (.lst (nats (fresh d ps rl))) → Q (.ref p) H'
theorem ok_newly_ruled (T : Txt K mg A) : FnOk P w K mg base CX0 7 A.f_newly_ruled A.d_newly_ruled ["book", "people", "ruled"] (spNewly K A.C_Book) := by
  have G_is_ruled_by_way_of := ok_is_ruled_by_way_of (P := P) (w := w) (base := base) T
  refine T.d_newly_ruled.F.ok sc_newly_ruled (fun vs H Q E h => ?_) (fun cdv Ar outer s H vs Q E hr h => ⟨_, (pss_cons (ps_set (i := 3) sc_newly_ruled.nd rfl (Or.inl rfl) (pe_lst pa_nil)) (pss_cons (ps_for PassesOwn.never rfl (pi_range1 rfl T.no_range (pa_cons (pe_fld (pv 0) rfl) pa_nil)) (pg_name (i := 4) sc_newly_ruled.nd rfl (Or.inl rfl)) (pss_one (ps_if (PW.pt (pw_and (pt_cmpR op_notIn_seq (pv 4) (pv 2) (by rfl)) (pw_and1 (pt_val (pe_call G_is_ruled_by_way_of (hr.mono (by decide)) rfl T.d_is_ruled_by_way_of.g T.d_is_ruled_by_way_of.F.kp T.d_is_ruled_by_way_of.b .nil pass0 (pa_cons (pv 0) (pa_cons (pv 1) (pa_cons (pv 2) (pa_cons (pv 4) pa_nil))))))))) (pss_one (ps_expr (pe_bm PySem.F.plainAttrs_list PySem.F.slot_list_append PySem.F.type_list_append mt_append (pv 3) (pa_cons (pv 4) pa_nil)))) pss_nil))) (pss_one (ps_ret (pv 3))))), ?_⟩)
  · obtain ⟨b, l, r, d, L, ps, pl, rl, rfl, _⟩ := h
    rfl
  · obtain ⟨b, l, r, d, L, ps, pl, rl, rfl, B, g, hl, hr2, hp, hi, ni, q⟩ := h
    have f5 := g.f5
    refine ⟨Nat.zero_le _, fun D hD => ?_⟩
    refine ⟨_, rfl, _, _, _, _, _, rfl, (B.ex (Ex.new hD)).ins, T.c_Book, T.n_Book_companies, bookF_companies, _, rfl, by omega, by omega, ?_⟩
    refine for_range (lo := 0) (n := ((d.w.firms : Nat) : Int).toNat) (fun i σ H' => Ex H H' ∧ i ≤ d.w.firms ∧ ∃ v : Option V, σ = [some (.ref b), some (.ref l), some (.ref r), some (.ref D), v] ∧ H' D = some (.lst (nats ((List.range i).filter fun j => !rl.contains j && Krcg.enough d ps rl j))))
      ⟨Ex.new hD, Nat.zero_le _, none, rfl, upd_same⟩ ?_ ?_
    · rintro i σ H' hi' ⟨e, _, v, rfl, hd⟩
      have il : i < d.w.firms := by omega
      rw [Int.zero_add]
      refine ⟨_, rfl, _, rfl, r, _, rfl, .inl (ex_l e hr2), rfl, flat_nats rl, _, rfl, ?_⟩
      have e1 : (if true = true then !inV (V.int (i : Int)) (nats rl) else inV (V.int (i : Int)) (nats rl)) = !rl.contains i := by
        rw [if_pos rfl, inV_nats]
      have ef := filter_succ (fun j => !rl.contains j && Krcg.enough d ps rl j) i
      have done : ∀ H2, Ex H H2 → H2 D = some (.lst (nats ((List.range i).filter fun j => !rl.contains j && Krcg.enough d ps rl j))) → (!rl.contains i && Krcg.enough d ps rl i) = false → H2 D = some (.lst (nats ((List.range (i + 1)).filter fun j => !rl.contains j && Krcg.enough d ps rl j))) := fun H2 _ h2 c => by
        rw [ef, if_neg (by rw [c]; exact Bool.false_ne_true), List.append_nil]
        exact h2
      cases c : rl.contains i with
      | true =>
        refine itF (by rw [e1, c]; rfl) ?_
        refine itF rfl ⟨e, il, _, rfl, done H' e hd (by rw [c]; rfl)⟩
      | false =>
        refine itT (by rw [e1, c]; rfl) ?_
        refine ⟨_, rfl, _, rfl, _, rfl, _, rfl, ?_⟩
        refine ⟨b, l, r, d, L, ps, pl, rl, i, rfl, B.ex e, g, ex_l e hl, ex_l e hr2, hp, hi, ni, il, fun H2 e2 => ⟨_, rfl, ?_⟩⟩
        cases c2 : Krcg.enough d ps rl i with
        | true =>
          refine itT rfl ⟨_, rfl, .inl ⟨rfl, _, SqL.of (e2 _ _ hd)⟩, _, rfl, _, _, _, rfl, rfl, e2 _ _ hd, ?_, (e.trans e2).mut hD, il, _, rfl, ?_⟩
          · rw [nats, List.length_map]
            exact small1000 (by have := filter_len (fun j => !rl.contains j && Krcg.enough d ps rl j) i; omega)
          · rw [upd_same, ef, if_pos (by rw [c, c2]; rfl), nats_append]
            rfl
        | false =>
          exact itF rfl ⟨e.trans e2, il, _, rfl, done H2 (e.trans e2) (e2 _ _ hd) (by rw [c2, Bool.and_false])⟩
    · rintro σ H' ⟨e, _, v, rfl, hd⟩
      rw [Int.toNat_natCast] at hd
      exact ⟨_, rfl, q D H' hD e hd⟩
end
end Wr
/-! The defs of ruling.py, further: ruled_together, rulers_of. -/
namespace Wr
open PySem PySem.Spec PyProof.Rows L2
open Evl (Ex ex_l ex_t)
theorem mem_fresh {d : Krcg.Desk} {ps : Nat} {rl : List Nat} {j : Nat} : j ∈ fresh d ps rl ↔ j < d.w.firms ∧ j ∉ rl ∧ Krcg.enough d ps rl j = true := by
  unfold fresh
  rw [List.mem_filter, List.mem_range, Bool.and_eq_true, Bool.not_eq_true', ← Bool.not_eq_true, List.contains_iff_mem]
theorem nats_ints (l : List Nat) : nats l = (l.map fun (n : Nat) => (n : Int)).map V.int := by
  rw [List.map_map]
  rfl
theorem sorted_nats {n : Nat} {ns : List Int} {rl t : List Nat} (p : ns.Perm (rl.map fun (n : Nat) => (n : Int))) (s : ns.Pairwise (· ≤ ·)) (q : rl.Perm t) (ht : Canon n t) : ns.map V.int = nats t := by
  rw [nats_ints]
  congr 1
  refine (p.trans (q.map _)).eq_of_pairwise (le := (· ≤ ·)) (fun a b _ _ h1 h2 => Int.le_antisymm h1 h2) s ?_
  rw [List.pairwise_map]
  exact ht.sorted.imp fun h => by omega
/-- what the while knows -/
structure Rld (d : Krcg.Desk) (ps : Nat) (s rl : List Nat) : Prop where
  nd : rl.Nodup
  lt : ∀ x ∈ rl, x < d.w.firms
  has : ∀ x ∈ s, x ∈ rl
  so : Sound d ps s rl
theorem Rld.len {d : Krcg.Desk} {ps : Nat} {s rl : List Nat} (h : Rld d ps s rl) : rl.length ≤ d.w.firms := by
  have := h.nd.length_le_of_subset (l₂ := List.range d.w.firms) (fun x m => List.mem_range.mpr (h.lt x m))
  rwa [List.length_range] at this
theorem Rld.more {d : Krcg.Desk} {ps : Nat} {s rl : List Nat} (g : Good d) (h : Rld d ps s rl) : Rld d ps s (rl ++ fresh d ps rl) where
  nd := by
    rw [List.nodup_append]
    exact ⟨h.nd, List.nodup_range.filter _, fun a ha b hb z => (mem_fresh.mp hb).2.1 (z ▸ ha)⟩
  lt := fun x m => by
    rcases List.mem_append.mp m with m | m
    · exact h.lt x m
    · exact (mem_fresh.mp m).1
  has := fun x m => List.mem_append.mpr (.inl (h.has x m))
  so := h.so.app g.Pos h.nd h.lt fun x m => ⟨(mem_fresh.mp m).1, (mem_fresh.mp m).2.2⟩
theorem Rld.done {d : Krcg.Desk} {ps : Nat} {s rl : List Nat} (g : Good d) (sn : s.Nodup) (sb : ∀ x ∈ s, x < d.w.firms) (h : Rld d ps s rl) (e : fresh d ps rl = []) : rl.Perm (Krcg.ruledFrom d ps s) := by
  refine ruledFrom_perm g.Pos sn sb h.nd h.lt h.has (fun j hj en => ?_) h.so
  by_cases m : j ∈ rl
  · exact m
  · have z := mem_fresh.mpr ⟨hj, m, en⟩
    rw [e] at z
    cases z
section
variable {P : Program} {w : PySem.World} {K : PySem.W.Frag} {mg : Str → Option Value} {base : Heap} {A : Ad}
def spRuledFrom (K : PySem.W.Frag) (C : Addr) : Sp := fun vs H Q _ => ∃ (b l r : Addr) (d : Krcg.Desk) (L : Lay) (ps : Nat) (pl rl : List Nat), vs = [.ref b, .ref l, .ref r] ∧ BookAt K C H b d L ∧ Good d ∧ SqL K H l (nats pl) ∧ H r = some (.lst (nats rl)) ∧ Told d ps pl ∧ rl.Nodup ∧ (∀ x ∈ rl, x < d.w.firms) ∧
  ∀ p H', H p = none → Ex H H' → H' p = some (.lst (nats (Krcg.ruledFrom d ps rl))) → Q (.ref p) H'
def rldW (b l : Addr) (d : Krcg.Desk) (ps : Nat) (r0 : List Nat) (H : Hp) : Nat → L2.St → Hp → Prop := fun m σ H' => Ex H H' ∧ ∃ (r f : Addr) (rl : List Nat), σ = [some (.ref b), some (.ref l), some (.ref r), some (.ref f)] ∧ H' r = some (.lst (nats rl)) ∧ H' f = some (.lst (nats (fresh d ps rl))) ∧ Rld d ps r0 rl ∧ m + rl.length = d.w.firms
theorem ok_ruled_from (T : Txt K mg A) : FnOk P w K mg base CX0 8 A.f_ruled_from A.d_ruled_from ["book", "people", "ruled"] (spRuledFrom K A.C_Book) := by
  have G_newly_ruled := ok_newly_ruled (P := P) (w := w) (base := base) T
  refine T.d_ruled_from.F.ok sc_ruled_from (fun vs H Q E h => ?_) (fun cdv Ar outer s H vs Q E hr h => ⟨_, (pss_cons (ps_set (i := 3) sc_ruled_from.nd rfl (Or.inl rfl) (pe_call G_newly_ruled (hr.mono (by decide)) rfl T.d_newly_ruled.g T.d_newly_ruled.F.kp T.d_newly_ruled.b .nil pass0 (pa_cons (pv 0) (pa_cons (pv 1) (pa_cons (pv 2) pa_nil))))) (pss_cons (ps_while PassesOwn.never (pt_cmpR op_gt (pe_callB call_len_seq (by rfl) T.no_len PySem.boot_len (pa_cons (pv 3) pa_nil)) pe_int (nomark _)) (pss_cons (ps_set (i := 2) sc_ruled_from.nd rfl (Or.inl rfl) (pe_op op_cat (pv 2) (pv 3))) (pss_one (ps_set (i := 3) sc_ruled_from.nd rfl (Or.inl rfl) (pe_call G_newly_ruled (hr.mono (by decide)) rfl T.d_newly_ruled.g T.d_newly_ruled.F.kp T.d_newly_ruled.b .nil pass0 (pa_cons (pv 0) (pa_cons (pv 1) (pa_cons (pv 2) pa_nil)))))))) (pss_one (ps_ret (pe_callB cr_sorted (by rfl) T.no_sorted (by decide +kernel) (pa_cons (pv 2) pa_nil)))))), ?_⟩)
  · obtain ⟨b, l, r, d, L, ps, pl, rl, rfl, _⟩ := h
    rfl
  · obtain ⟨b, l, r0, d, L, ps, pl, r0l, rfl, B, g, hl, hr0, hp, sn, sb, q⟩ := h
    have f5 := g.f5
    have R0 : Rld d ps r0l r0l := ⟨sn, sb, fun _ m => m, Sound.start d ps r0l⟩
    have R0len := R0.len
    refine ⟨_, rfl, _, rfl, _, rfl, ?_⟩
    refine ⟨b, l, r0, d, L, ps, pl, r0l, rfl, B, g, hl, SqL.of hr0, hp, sb, by omega, fun f H1 fn e1 hf => ?_⟩
    refine ⟨rldW b l d ps r0l H, ⟨d.w.firms - r0l.length, e1, r0, f, r0l, rfl, e1 _ _ hr0, hf, R0, by omega⟩, ?_⟩
    rintro m σ H' ⟨e, r, f, rl, rfl, h1, h2, R, hm⟩
    refine ⟨_, rfl, f, _, rfl, .inl (SqL.of h2), _, _, rfl, rfl, _, rfl, ?_⟩
    have rlen := R.len
    cases c : fresh d ps rl with
    | nil =>
      refine itF (by rw [nats, List.map_nil]; rfl) ?_
      refine ⟨_, rfl, r, rl.map (fun (n : Nat) => (n : Int)), rfl, SqL.of (by rw [← nats_ints]; exact h1), by rw [List.length_map]; omega, fun ns p perm srt hpn => ?_⟩
      refine q p _ (Evl.fresh_back e hpn) (e.trans (Ex.new hpn)) ?_
      rw [upd_same, sorted_nats perm srt (R.done g sn sb c) (ruledFrom_canon d ps r0l)]
    | cons x xs =>
      refine itT ?_ ⟨nextW (rldW b l d ps r0l H) m, fun _ _ h => h, ?_⟩
      · rw [decide_eq_true_eq, nats, List.length_map, List.length_cons]
        omega
      · have R2 := R.more g
        have rlen2 := R2.len
        rw [List.length_append] at rlen2
        have fl : 0 < (fresh d ps rl).length := by rw [c, List.length_cons]; omega
        refine ⟨_, rfl, _, rfl, r, f, _, _, rfl, rfl, h1, h2, ?_, fun r2 hr2 => ?_⟩
        · rw [nats, nats, List.length_map, List.length_map]
          exact Nat.le_of_lt (small1000 (by omega))
        · rw [← nats_append]
          refine ⟨_, rfl, _, rfl, _, rfl, ?_⟩
          have e3 := e.trans (Ex.new (o := .lst (nats (rl ++ fresh d ps rl))) hr2)
          refine ⟨b, l, r2, d, L, ps, pl, _, rfl, B.ex e3, g, ex_l e3 hl, SqL.of upd_same, hp, R2.lt, by have := R2.len; omega, fun f2 H2 fn2 e2 hf2 => ?_⟩
          exact ⟨m - (fresh d ps rl).length, by omega, e3.trans e2, r2, f2, _, rfl, e2 _ _ upd_same, hf2, R2, by rw [List.length_append]; omega⟩
def spTogether (K : PySem.W.Frag) (C : Addr) : Sp := fun vs H Q _ => ∃ (b l : Addr) (d : Krcg.Desk) (L : Lay) (ps : Nat) (pl : List Nat), vs = [.ref b, .ref l] ∧ BookAt K C H b d L ∧ Good d ∧ SqL K H l (nats pl) ∧ Told d ps pl ∧
  ∀ p H', H p = none → Ex H H' → H' p = some (.lst (nats (Krcg.ruled d ps))) → Q (.ref p) H'
theorem ok_ruled_together (T : Txt K mg A) : FnOk P w K mg base CX0 9 A.f_ruled_together A.d_ruled_together ["book", "people"] (spTogether K A.C_Book) := by
  have G_ruled_from := ok_ruled_from (P := P) (w := w) (base := base) T
  refine T.d_ruled_together.F.ok sc_ruled_together (fun vs H Q E h => ?_) (fun cdv Ar outer s H vs Q E hr h => ⟨_, (pss_one (ps_ret (pe_call G_ruled_from (hr.mono (by decide)) rfl T.d_ruled_from.g T.d_ruled_from.F.kp T.d_ruled_from.b .nil pass0 (pa_cons (pv 0) (pa_cons (pv 1) (pa_cons (pe_lst pa_nil) pa_nil)))))), ?_⟩)
  · obtain ⟨b, l, d, L, ps, pl, rfl, _⟩ := h
    rfl
  · obtain ⟨b, l, d, L, ps, pl, rfl, B, g, hl, hp, q⟩ := h
    refine ⟨_, rfl, _, rfl, Nat.zero_le _, fun r hr0 => ?_⟩
    have e0 := Ex.new (o := .lst []) hr0
    exact ⟨b, l, r, d, L, ps, pl, [], rfl, B.ex e0, g, ex_l e0 hl, upd_same, hp, List.nodup_nil, fun _ m => (nomatch m), fun p H' pn e hp => q p H' (Evl.fresh_back e0 pn) (e0.trans e) hp⟩
/-! ### rulers_of -/
theorem testBit_two {p x : Nat} : (2 ^ p).testBit x = decide (p = x) := Nat.testBit_two_pow
theorem told_one {d : Krcg.Desk} {p : Nat} (h : p < d.w.people) : Told d (2 ^ p) [p] := by
  unfold Told
  rw [List.perm_ext_iff_of_nodup (by simp) (List.nodup_range.filter _)]
  intro a
  rw [List.mem_singleton, List.mem_filter, List.mem_range, testBit_two, decide_eq_true_eq]
  constructor
  · rintro rfl; exact ⟨h, rfl⟩
  · rintro ⟨_, e⟩; exact e.symm
def rulersOf (d : Krcg.Desk) (j : Nat) : List Nat := (List.range d.w.people).filter fun p => (Krcg.ruled d (2 ^ p)).contains j
def spRulers (K : PySem.W.Frag) (C : Addr) : Sp := fun vs H Q _ => ∃ (b : Addr) (d : Krcg.Desk) (L : Lay) (j : Nat), vs = [.ref b, .int (j : Int)] ∧ BookAt K C H b d L ∧ Good d ∧
  ∀ p H', H p = none → Ex H H' → H' p = some (.lst (nats (rulersOf d j))) → Q (.ref p) H'
theorem ok_rulers_of (T : Txt K mg A) : FnOk P w K mg base CX0 10 A.f_rulers_of A.d_rulers_of ["book", "company"] (spRulers K A.C_Book) := by
  have G_ruled_together := ok_ruled_together (P := P) (w := w) (base := base) T
  refine T.d_rulers_of.F.ok sc_rulers_of (fun vs H Q E h => ?_) (fun cdv Ar outer s H vs Q E hr h => ⟨_, (pss_one (ps_ret (pe_lc (own := [("person", 2)]) (g := gName 2) rfl sc_rulers_of.nd (pi_range1 rfl T.no_range (pa_cons (pe_fld (pv 0) rfl) pa_nil)) (blkOk_by (N := ["book", "company", "person"]) (sc := defScope s_rulers_of) (by decide +kernel)) (fun _ _ _ _ _ => (pg_name (i := 2) sc_rulers_of.nd rfl (Or.inl rfl))) (fun _ _ _ _ _ => pts_one (pt_cmpR (show OpR _ (compareOp CmpOp.In) (rIn K false) from op_in_seq) (pv 1) (pe_call G_ruled_together (hr.mono (by decide)) rfl T.d_ruled_together.g T.d_ruled_together.F.kp T.d_ruled_together.b .nil pass0 (pa_cons (pv 0) (pa_cons (pe_lst (pa_cons (pv 2) pa_nil)) pa_nil))) (by rfl))) (fun _ _ _ _ _ => (pv 2))))), ?_⟩)
  · obtain ⟨b, d, L, j, rfl, _⟩ := h
    rfl
  · obtain ⟨b, d, L, j, rfl, B, g, q⟩ := h
    have p4 := g.p4
    refine ⟨_, rfl, _, _, _, _, _, rfl, B.ins, T.c_Book, T.n_Book_people, bookF_people, _, rfl, by omega, by omega, fun D hD => ?_⟩
    refine lc_range (lo := 0) (n := ((d.w.people : Nat) : Int).toNat) (fun i H' => Ex H H' ∧ i ≤ d.w.people ∧ H' D = some (.lst (nats ((List.range i).filter fun p => (Krcg.ruled d (2 ^ p)).contains j)))) ⟨Ex.new hD, Nat.zero_le _, upd_same⟩ ?_ ?_
    · rintro i H' hi ⟨e, _, hl⟩
      have il : i < d.w.people := by omega
      have ef := filter_succ (fun p => (Krcg.ruled d (2 ^ p)).contains j) i
      rw [Int.zero_add]
      refine ⟨rfl, _, rfl, _, rfl, _, rfl, by show 1 ≤ sizeLine; decide, fun s1 hs1 => ?_⟩
      refine ⟨b, s1, d, L, 2 ^ i, [i], rfl, B.ex (e.trans (Ex.new hs1)), g, SqL.of upd_same, told_one il, fun t H2 tn e2 ht => ?_⟩
      have e3 := (e.trans (Ex.new (o := .lst [V.int (i : Int)]) hs1)).trans e2
      have hl2 := e2 _ _ (Ex.new (o := .lst [V.int (i : Int)]) hs1 _ _ hl)
      refine ⟨t, _, rfl, .inl (SqL.of ht), rfl, flat_nats _, _, rfl, ?_⟩
      have e1 : (if false = true then !inV (V.int (j : Int)) (nats (Krcg.ruled d (2 ^ i))) else inV (V.int (j : Int)) (nats (Krcg.ruled d (2 ^ i)))) = (Krcg.ruled d (2 ^ i)).contains j := by
        rw [if_neg Bool.false_ne_true, inV_nats]
      cases c : (Krcg.ruled d (2 ^ i)).contains j with
      | true =>
        refine itT (e1.trans c) ⟨_, rfl, _, hl2, ?_, e3.mut hD, il, ?_⟩
        · rw [nats, List.length_map]
          exact small1000 (by have := filter_len (fun p => (Krcg.ruled d (2 ^ p)).contains j) i; omega)
        · rw [upd_same, ef, if_pos c, nats_append]
          rfl
      | false =>
        refine itF (e1.trans c) ⟨e3, il, ?_⟩
        rw [ef, if_neg (by rw [c]; exact Bool.false_ne_true), List.append_nil]
        exact hl2
    · rintro H' ⟨e, _, hl⟩
      rw [Int.toNat_natCast] at hl
      exact q D H' hD e hl
end
end Wr
/-! What act says of each call, opened once. -/
namespace Wr
open Krcf (say nat frac list fr partOk ownOk)
theorem act_hold (d : Krcg.Desk) (h j a b : Nat) : Krcg.act (some d) (.hold h j a b) =
    if (decide (d.w.people + d.w.firms ≤ h) || decide (d.w.firms ≤ j)) = true then (some d, say (-2))
    else if (!partOk a b) = true then (some d, say (-22))
    else if 1 < d.w.held j - d.w.part h j + (a : Rat) / (b : Rat) then (some d, say (-33))
    else (some { d with w := d.w.setPart h j ((a : Rat) / (b : Rat)) }, frac (d.w.part h j)) := by
  have e : Krcf.act (some d.w) (.hold h j a b) = if (decide (d.w.people + d.w.firms ≤ h) || decide (d.w.firms ≤ j)) = true then (some d.w, say (-2))
    else if (!partOk a b) = true then (some d.w, say (-22))
    else if 1 < d.w.held j - d.w.part h j + (a : Rat) / (b : Rat) then (some d.w, say (-33))
    else (some (d.w.setPart h j ((a : Rat) / (b : Rat))), frac (d.w.part h j)) := rfl
  show Krcg.edits d (.hold h j a b) = _
  unfold Krcg.edits
  rw [e]
  clear e
  by_cases c1 : (decide (d.w.people + d.w.firms ≤ h) || decide (d.w.firms ≤ j)) = true
  · rw [if_pos c1, if_pos c1]
  · rw [if_neg c1, if_neg c1]
    by_cases c2 : (!partOk a b) = true
    · rw [if_pos c2, if_pos c2]
    · rw [if_neg c2, if_neg c2]
      by_cases c3 : 1 < d.w.held j - d.w.part h j + (a : Rat) / (b : Rat)
      · rw [if_pos c3, if_pos c3]
      · rw [if_neg c3, if_neg c3]
theorem act_part (d : Krcg.Desk) (h j : Nat) : Krcg.act (some d) (.part h j) = (some d, if (decide (d.w.people + d.w.firms ≤ h) || decide (d.w.firms ≤ j)) = true then say (-2) else frac (d.w.part h j)) := rfl
theorem act_quorum (d : Krcg.Desk) (a b : Nat) : Krcg.act (some d) (.quorum a b) = if (!partOk a b || decide (2 * a ≤ b)) = true then (some d, say (-22)) else (some { d with q := (a : Rat) / (b : Rat) }, say 0) := rfl
theorem act_prices (d : Krcg.Desk) (l : List Nat) : Krcg.act (some d) (.prices l) = if (!ownOk d.w l) = true then (some d, say (-22)) else (some { d with prices := l }, say 0) := rfl
theorem act_votes (d : Krcg.Desk) (j : Nat) : Krcg.act (some d) (.votes j) = (some d, if decide (d.w.firms ≤ j) = true then say (-2) else frac (Krcg.votes d.w j)) := rfl
theorem act_rules (d : Krcg.Desk) (p : Nat) : Krcg.act (some d) (.rules p) = (some d, if decide (d.w.people ≤ p) = true then say (-2) else list (Krcg.ruled d (2 ^ p))) := rfl
theorem act_ruler (d : Krcg.Desk) (j : Nat) : Krcg.act (some d) (.ruler j) = (some d, if decide (d.w.firms ≤ j) = true then say (-2) else match Krcg.ruler d j with | none => say (-33) | some p => nat p) := rfl
theorem act_begin (x : Krcg.Abs) (m n : Nat) : Krcg.act x (.begin_ m n) = if m = 0 ∨ n = 0 ∨ 4 < m ∨ 5 < n then (x, say (-22)) else (some ⟨Krcf.empty m n, (3 : Rat) / (5 : Rat), List.replicate n 100⟩, say 0) := by
  by_cases c : m = 0 ∨ n = 0 ∨ 4 < m ∨ 5 < n
  · rw [if_pos c]
    have e : (decide (m = 0) || decide (n = 0) || decide (Krcf.mostPeople < m) || decide (Krcf.mostFirms < n)) = true := by
      have e4 : Krcf.mostPeople = 4 := rfl
      have e5 : Krcf.mostFirms = 5 := rfl
      rw [e4, e5]
      simp only [Bool.or_eq_true, decide_eq_true_eq]
      omega
    simp only [Krcg.act, Krcf.act, e, if_true]
  · rw [if_neg c]
    have e : ¬ (decide (m = 0) || decide (n = 0) || decide (Krcf.mostPeople < m) || decide (Krcf.mostFirms < n)) = true := by
      have e4 : Krcf.mostPeople = 4 := rfl
      have e5 : Krcf.mostFirms = 5 := rfl
      rw [e4, e5]
      simp only [Bool.or_eq_true, decide_eq_true_eq]
      omega
    simp only [Krcg.act, Krcf.act, if_neg e]
theorem act_none (c : Krcg.Call) (h : ∀ m n, c ≠ .begin_ m n) : Krcg.act none c = (none, say (-11)) := by
  cases c with
  | begin_ m n => exact absurd rfl (h m n)
  | _ => rfl
/-- all but one -/
theorem sum_others (f : Nat → Rat) (h : Nat) : ∀ n, h < n → Krcf.sum (((List.range n).filter fun x => x != h).map f) = Krcf.sum ((List.range n).map f) - f h
  | 0, z => absurd z (Nat.not_lt_zero _)
  | n + 1, z => by
    rw [List.range_succ, List.filter_append, List.map_append, List.map_append, sum_append, sum_append, List.filter_cons, List.filter_nil]
    by_cases e : n = h
    · subst e
      have e1 : (List.range n).filter (fun x => x != n) = List.range n := List.filter_eq_self.mpr fun x m => by
        have := List.mem_range.mp m
        rw [bne_iff_ne]
        omega
      rw [e1, if_neg (by simp), List.map_nil, List.map_cons, List.map_nil, sum_nil, sum_cons, sum_nil]
      grind
    · have ih := sum_others f h n (by omega)
      rw [ih, if_pos (by rw [bne_iff_ne]; exact e), List.map_cons, List.map_nil, sum_cons, sum_nil]
      grind
end Wr
/-! More people rule no less; who is self-ruled; the least sets; the best way. -/
namespace Wr
open Krcf (World sum)
open Krcg
/-! ### more people -/
def Sub (a b : Nat) : Prop := ∀ p, a.testBit p = true → b.testBit p = true
theorem have_people {w : World} {a b : Nat} {s : List Nat} {j : Nat} (hp : Pos w) (h : Sub a b) : have_ w a s j ≤ have_ w b s j := by
  unfold have_
  have q := sum_filter_le (f := fun p => w.part p j) (p := fun p => a.testBit p) (q := fun p => b.testBit p) (List.range w.people) (fun x _ => hp _ _) (fun x _ c => h x c)
  grind
theorem enough_people {d : Desk} {a b : Nat} {s : List Nat} {j : Nat} (hp : Pos d.w) (h : Sub a b) (e : enough d a s j = true) : enough d b s j = true := by
  unfold enough at e ⊢
  rw [Bool.and_eq_true, decide_eq_true_eq, decide_eq_true_eq] at e ⊢
  exact ⟨e.1, Rat.le_trans e.2 (have_people hp h)⟩
theorem ruled_mono {d : Desk} {a b : Nat} (hp : Pos d.w) (h : Sub a b) {x : Nat} (m : x ∈ ruled d a) : x ∈ ruled d b := by
  refine ruledFrom_sound (s := []) hp List.nodup_nil (fun _ z => nomatch z) (ruled d b) (ruledFrom_canon d b []).nodup (fun _ z => (ruledFrom_canon d b []).lt z) (fun _ z => nomatch z) ?_ x m
  exact fun j hj e => ruledFrom_closed d b [] j hj (enough_people hp h e)
/-! ### the least sets -/
theorem subset_iff {a b : Nat} (ha : a < 2 ^ 8) : subset a b = true ↔ Sub a b := by
  unfold subset
  rw [List.all_eq_true]
  constructor
  · intro h p hp
    by_cases c : p < 8
    · have q := h p (List.mem_range.mpr c)
      rw [hp] at q
      exact q
    · have e : a < 2 ^ p := Nat.lt_of_lt_of_le ha (Nat.pow_le_pow_right (by decide) (by omega))
      rw [Nat.testBit_lt_two_pow e] at hp
      cases hp
  · intro h p _
    cases c : a.testBit p with
    | false => rfl
    | true => rw [h p c]; rfl
theorem rules_iff {d : Desk} {s j : Nat} : (ruled d s).contains j = true ↔ j ∈ ruled d s := List.contains_iff_mem
theorem mem_least {d : Desk} {j s : Nat} (p4 : d.w.people ≤ 4) : s ∈ least d j ↔ s < 2 ^ d.w.people ∧ j ∈ ruled d s ∧ ∀ t, t < 2 ^ d.w.people → Sub t s → t ≠ s → j ∉ ruled d t := by
  have h8 : ∀ t, t < 2 ^ d.w.people → t < 2 ^ 8 := fun t h => Nat.lt_of_lt_of_le h (Nat.pow_le_pow_right (by decide) (by omega))
  unfold least
  simp only [List.mem_filter, List.mem_range, List.all_eq_true, Bool.or_eq_true, beq_iff_eq, Bool.not_eq_true', rules_iff]
  constructor
  · rintro ⟨⟨h1, h2⟩, h3⟩
    refine ⟨h1, h2, fun t ht sub ne hr => ?_⟩
    rcases h3 t ⟨ht, hr⟩ with z | z
    · exact ne z
    · rw [(subset_iff (h8 t ht)).mpr sub] at z
      cases z
  · rintro ⟨h1, h2, h3⟩
    refine ⟨⟨h1, h2⟩, fun t ⟨ht, hr⟩ => ?_⟩
    by_cases e : t = s
    · exact .inl e
    · right
      cases c : subset t s with
      | false => rfl
      | true => exact absurd hr (h3 t ht ((subset_iff (h8 t ht)).mp c) e)
theorem least_canon (d : Desk) (j : Nat) : Canon (2 ^ d.w.people) (least d j) := by
  unfold least
  simp only
  rw [List.filter_filter]
  exact canon_filter _ _
/-! ### self-ruled -/
/-- those of s that the others of s rule -/
def keepers (d : Desk) (s : List Nat) : List Nat := s.filter fun j => enough d 0 s j
theorem selfRuled_iter (d : Desk) : selfRuled d = iter (keepers d) (d.w.firms + 1) d.w.fs := by
  have e := fold_iter (keepers d) (List.range (d.w.firms + 1)) d.w.fs
  rw [List.length_range] at e
  exact e
theorem filter_iter_stable {d : Desk} : ∀ (m : Nat) (t : List Nat), t.length ≤ m → keepers d (iter (keepers d) m t) = iter (keepers d) m t
  | 0, t, h => by
    have e : t = [] := List.length_eq_zero_iff.mp (by omega)
    subst e
    rfl
  | m + 1, t, h => by
    by_cases e : keepers d t = t
    · rw [iter_stable e (m + 1)]
      exact e
    · refine filter_iter_stable m _ ?_
      have hl : (keepers d t).length ≤ t.length := (List.filter_sublist (p := fun j => enough d 0 t j) (l := t)).length_le
      have hn : (keepers d t).length ≠ t.length := fun z => e ((List.filter_sublist (p := fun j => enough d 0 t j) (l := t)).eq_of_length z)
      omega
theorem canon_sub {n : Nat} {t : List Nat} {p : Nat → Bool} (h : Canon n t) : Canon n (t.filter p) := by
  have e : t.filter p = (List.range n).filter fun i => t.contains i && p i := by
    conv => lhs; rw [h]
    rw [List.filter_filter]
    exact List.filter_congr fun x _ => Bool.and_comm _ _
  rw [e]
  exact canon_filter _ _
theorem iter_canon {d : Desk} : ∀ (m : Nat) (t : List Nat), Canon d.w.firms t → Canon d.w.firms (iter (keepers d) m t)
  | 0, _, h => h
  | m + 1, _, h => iter_canon m _ (canon_sub h)
theorem fs_canon (w : World) : Canon w.firms w.fs := by
  have e : w.fs = (List.range w.firms).filter fun _ => true := (List.filter_eq_self.mpr fun _ _ => rfl).symm
  rw [e]
  exact canon_filter _ _
theorem selfRuled_canon (d : Desk) : Canon d.w.firms (selfRuled d) := by
  rw [selfRuled_iter]
  exact iter_canon _ _ (fs_canon d.w)
theorem selfRuled_all {d : Desk} {j : Nat} (h : j ∈ selfRuled d) : enough d 0 (selfRuled d) j = true := by
  have e := filter_iter_stable (d := d) (d.w.firms + 1) d.w.fs (by unfold World.fs; rw [List.length_range]; omega)
  rw [← selfRuled_iter] at e
  rw [← e] at h
  exact (List.mem_filter.mp h).2
theorem iter_keeps {d : Desk} (hp : Pos d.w) {u : List Nat} (un : u.Nodup) (ub : ∀ x ∈ u, x < d.w.firms) (ue : ∀ x ∈ u, enough d 0 u x = true) : ∀ (m : Nat) (t : List Nat), Canon d.w.firms t → (∀ x ∈ u, x ∈ t) → ∀ x ∈ u, x ∈ iter (keepers d) m t
  | 0, _, _, h => h
  | m + 1, _, c, h => iter_keeps hp un ub ue m _ (canon_sub c) fun x hx => List.mem_filter.mpr ⟨h x hx, enough_mono hp un c.nodup ub (fun _ z => c.lt z) h (ue x hx)⟩
/-- the most of them -/
theorem selfRuled_most {d : Desk} (hp : Pos d.w) {u : List Nat} (un : u.Nodup) (ub : ∀ x ∈ u, x < d.w.firms) (ue : ∀ x ∈ u, enough d 0 u x = true) : ∀ x ∈ u, x ∈ selfRuled d := by
  rw [selfRuled_iter]
  exact iter_keeps hp un ub ue _ _ (fs_canon d.w) fun x hx => List.mem_range.mpr (ub x hx)
/-- what a search that strikes out ends with -/
theorem selfRuled_eq {d : Desk} (hp : Pos d.w) {u : List Nat} (un : u.Nodup) (ub : ∀ x ∈ u, x < d.w.firms) (ue : ∀ x ∈ u, enough d 0 u x = true) (hm : ∀ x ∈ selfRuled d, x ∈ u) : u.Perm (selfRuled d) := by
  rw [List.perm_ext_iff_of_nodup un (selfRuled_canon d).nodup]
  exact fun x => ⟨selfRuled_most hp un ub ue x, hm x⟩
/-- nobody of them may be struck out -/
theorem selfRuled_stays {d : Desk} (hp : Pos d.w) {t : List Nat} (tn : t.Nodup) (tb : ∀ x ∈ t, x < d.w.firms) (h : ∀ x ∈ selfRuled d, x ∈ t) {x : Nat} (m : x ∈ selfRuled d) : enough d 0 t x = true :=
  enough_mono hp (selfRuled_canon d).nodup tn (fun _ z => (selfRuled_canon d).lt z) tb h (selfRuled_all m)
end Wr
/-! The best of some ways. -/
namespace Wr
open Krcg
theorem lex_refl : ∀ l : List Nat, lexLess l l = true
  | [] => rfl
  | a :: l => by
    show (decide (a < a) || (a == a && lexLess l l)) = true
    rw [lex_refl l, beq_self_eq_true, Bool.and_true, Bool.or_true]
theorem lex_cons {a b : Nat} {l m : List Nat} : lexLess (a :: l) (b :: m) = true ↔ a < b ∨ (a = b ∧ lexLess l m = true) := by
  show (decide (a < b) || (a == b && lexLess l m)) = true ↔ _
  rw [Bool.or_eq_true, Bool.and_eq_true, decide_eq_true_eq, beq_iff_eq]
theorem lex_total : ∀ l m : List Nat, lexLess l m = true ∨ lexLess m l = true
  | [], _ => .inl rfl
  | _ :: _, [] => .inr rfl
  | a :: l, b :: m => by
    rw [lex_cons, lex_cons]
    rcases Nat.lt_trichotomy a b with h | h | h
    · exact .inl (.inl h)
    · rcases lex_total l m with z | z
      · exact .inl (.inr ⟨h, z⟩)
      · exact .inr (.inr ⟨h.symm, z⟩)
    · exact .inr (.inl h)
theorem lex_trans : ∀ {l m k : List Nat}, lexLess l m = true → lexLess m k = true → lexLess l k = true
  | [], _, _, _, _ => rfl
  | _ :: _, [], _, h, _ => by cases h
  | _ :: _, _ :: _, [], _, h => by cases h
  | a :: l, b :: m, c :: k, h1, h2 => by
    rw [lex_cons] at h1 h2 ⊢
    rcases h1 with h1 | ⟨rfl, h1⟩
    · rcases h2 with h2 | ⟨rfl, _⟩
      · exact .inl (by omega)
      · exact .inl h1
    · rcases h2 with h2 | ⟨rfl, h2⟩
      · exact .inl h2
      · exact .inr ⟨rfl, lex_trans h1 h2⟩
theorem lex_antisymm : ∀ {l m : List Nat}, lexLess l m = true → lexLess m l = true → l = m
  | [], [], _, _ => rfl
  | [], _ :: _, _, h => by cases h
  | _ :: _, [], h, _ => by cases h
  | a :: l, b :: m, h1, h2 => by
    rw [lex_cons] at h1 h2
    rcases h1 with h1 | ⟨rfl, h1⟩
    · rcases h2 with h2 | ⟨rfl, _⟩ <;> omega
    · rcases h2 with h2 | ⟨_, h2⟩
      · omega
      · rw [lex_antisymm h1 h2]
/-- the companies that a way buys of, in order -/
def comps (w : Way) : List Nat := w.buys.map Prod.fst
theorem better_iff {a b : Way} : better a b = true ↔ a.cost < b.cost ∨ (a.cost = b.cost ∧ (a.buys.length < b.buys.length ∨ (a.buys.length = b.buys.length ∧ lexLess (comps a) (comps b) = true))) := by
  unfold better comps
  rw [Bool.or_eq_true, Bool.and_eq_true, Bool.or_eq_true, Bool.and_eq_true, decide_eq_true_eq, beq_iff_eq, decide_eq_true_eq, beq_iff_eq]
theorem better_refl (a : Way) : better a a = true := better_iff.mpr (.inr ⟨rfl, .inr ⟨rfl, lex_refl _⟩⟩)
theorem better_total (a b : Way) : better a b = true ∨ better b a = true := by
  rw [better_iff, better_iff]
  have t : a.cost < b.cost ∨ a.cost = b.cost ∨ b.cost < a.cost := by grind
  rcases t with h | h | h
  · exact .inl (.inl h)
  · rcases Nat.lt_trichotomy a.buys.length b.buys.length with z | z | z
    · exact .inl (.inr ⟨h, .inl z⟩)
    · rcases lex_total (comps a) (comps b) with y | y
      · exact .inl (.inr ⟨h, .inr ⟨z, y⟩⟩)
      · exact .inr (.inr ⟨h.symm, .inr ⟨z.symm, y⟩⟩)
    · exact .inr (.inr ⟨h.symm, .inl z⟩)
  · exact .inr (.inl h)
theorem better_trans {a b c : Way} (h1 : better a b = true) (h2 : better b c = true) : better a c = true := by
  rw [better_iff] at h1 h2 ⊢
  rcases h1 with h1 | ⟨e1, h1⟩
  · rcases h2 with h2 | ⟨e2, h2⟩
    · exact .inl (by grind)
    · exact .inl (by grind)
  · rcases h2 with h2 | ⟨e2, h2⟩
    · exact .inl (by grind)
    · refine .inr ⟨e1.trans e2, ?_⟩
      rcases h1 with h1 | ⟨l1, h1⟩
      · rcases h2 with h2 | ⟨l2, h2⟩
        · exact .inl (by omega)
        · exact .inl (by omega)
      · rcases h2 with h2 | ⟨l2, h2⟩
        · exact .inl (by omega)
        · exact .inr ⟨by omega, lex_trans h1 h2⟩
theorem better_comps {a b : Way} (h1 : better a b = true) (h2 : better b a = true) : a.cost = b.cost ∧ comps a = comps b := by
  rw [better_iff] at h1 h2
  rcases h1 with h1 | ⟨e1, h1⟩
  · rcases h2 with h2 | ⟨e2, h2⟩
    · exfalso; grind
    · exfalso; grind
  · rcases h2 with h2 | ⟨e2, h2⟩
    · exfalso; grind
    · refine ⟨e1, ?_⟩
      rcases h1 with h1 | ⟨l1, h1⟩
      · rcases h2 with h2 | ⟨l2, h2⟩ <;> omega
      · rcases h2 with h2 | ⟨l2, h2⟩
        · omega
        · exact lex_antisymm h1 h2
/-- one step of the search for the best -/
def take1 (m : Option Way) (w : Way) : Option Way := match m with
  | none => some w
  | some x => if better w x then some w else some x
theorem best_fold (l : List Way) : best l = l.foldl take1 none := rfl
theorem fold_some : ∀ (l : List Way) (x : Way), ∃ r, l.foldl take1 (some x) = some r ∧ (r = x ∨ r ∈ l) ∧ better r x = true ∧ ∀ y ∈ l, better r y = true
  | [], x => ⟨x, rfl, .inl rfl, better_refl x, fun _ h => nomatch h⟩
  | w :: l, x => by
    by_cases c : better w x = true
    · obtain ⟨r, h1, h2, h3, h4⟩ := fold_some l w
      refine ⟨r, ?_, ?_, better_trans h3 c, fun y hy => ?_⟩
      · show l.foldl take1 (if better w x then some w else some x) = some r
        rw [if_pos c]
        exact h1
      · rcases h2 with h2 | h2
        · exact .inr (by rw [h2]; exact .head _)
        · exact .inr (.tail _ h2)
      · cases hy with
        | head => exact h3
        | tail _ hy => exact h4 y hy
    · obtain ⟨r, h1, h2, h3, h4⟩ := fold_some l x
      refine ⟨r, ?_, ?_, h3, fun y hy => ?_⟩
      · show l.foldl take1 (if better w x then some w else some x) = some r
        rw [if_neg c]
        exact h1
      · rcases h2 with h2 | h2
        · exact .inl h2
        · exact .inr (.tail _ h2)
      · cases hy with
        | head =>
          rcases better_total w x with z | z
          · exact absurd z c
          · exact better_trans h3 z
        | tail _ hy => exact h4 y hy
theorem best_none {l : List Way} : best l = none ↔ l = [] := by
  cases l with
  | nil => exact ⟨fun _ => rfl, fun _ => rfl⟩
  | cons w l =>
    obtain ⟨r, h1, _⟩ := fold_some l w
    constructor
    · intro h
      have h : l.foldl take1 (some w) = none := h
      rw [h1] at h
      cases h
    · intro h; cases h
theorem best_some {l : List Way} {r : Way} (h : best l = some r) : r ∈ l ∧ ∀ y ∈ l, better r y = true := by
  cases l with
  | nil => cases h
  | cons w l =>
    obtain ⟨r', h1, h2, h3, h4⟩ := fold_some l w
    have h : l.foldl take1 (some w) = some r := h
    rw [h1] at h
    cases h
    refine ⟨?_, fun y hy => ?_⟩
    · rcases h2 with h2 | h2
      · rw [h2]; exact .head _
      · exact .tail _ h2
    · cases hy with
      | head => exact h3
      | tail _ hy => exact h4 y hy
/-- ways that buy of the same companies are the same -/
theorem ways_comps {d : Desk} {p j : Nat} : ∀ (k : Nat) (s : List Nat) {a b : Way}, a ∈ ways d p j k s → b ∈ ways d p j k s → comps a = comps b → a = b
  | 0, s, a, b, ha, hb, _ => by
    unfold ways at ha hb
    split at ha
    · rename_i c
      rw [if_pos c] at hb
      rw [List.mem_singleton.mp ha, List.mem_singleton.mp hb]
    · cases ha
  | k + 1, s, a, b, ha, hb, e => by
    unfold ways at ha hb
    by_cases c : s.contains j = true
    · rw [if_pos c] at ha hb
      rw [List.mem_singleton.mp ha, List.mem_singleton.mp hb]
    · rw [if_neg c] at ha hb
      obtain ⟨i, _, hi⟩ := List.mem_flatMap.mp ha
      obtain ⟨i', _, hi'⟩ := List.mem_flatMap.mp hb
      obtain ⟨u, hu, rfl⟩ := List.mem_map.mp hi
      obtain ⟨v, hv, rfl⟩ := List.mem_map.mp hi'
      have e : i :: comps u = i' :: comps v := e
      injection e with e1 e2
      subst e1
      rw [ways_comps k _ hu hv e2]
theorem flat_congr {f g : Nat → List Way} : ∀ (l : List Nat), (∀ x ∈ l, f x = g x) → l.flatMap f = l.flatMap g
  | [], _ => rfl
  | a :: l, h => by
    rw [List.flatMap_cons, List.flatMap_cons, h a (.head _), flat_congr l fun x hx => h x (.tail _ hx)]
/-- behind a buy there is one more at least -/
theorem ruledFrom_grow {d : Desk} {ps : Nat} {s : List Nat} {i : Nat} (c : Canon d.w.firms s) (hi : i < d.w.firms) (hn : i ∉ s) : s.length + 1 ≤ (ruledFrom d ps (s ++ [i])).length := by
  have nd : (s ++ [i]).Nodup := by
    rw [List.nodup_append]
    exact ⟨c.nodup, by simp, fun a ha b hb z => by cases List.mem_singleton.mp hb; exact hn (z ▸ ha)⟩
  have q := nd.length_le_of_subset (l₂ := ruledFrom d ps (s ++ [i])) (fun x hx => by
    refine ruledFrom_has ?_ hx
    rcases List.mem_append.mp hx with m | m
    · exact c.lt m
    · cases List.mem_singleton.mp m; exact hi)
  rw [List.length_append] at q
  exact q
/-- more turns than companies tell nothing more -/
theorem ways_fuel {d : Desk} {p j : Nat} (hj : j < d.w.firms) : ∀ (k : Nat) (s : List Nat), Canon d.w.firms s → d.w.firms ≤ s.length + k → ways d p j (k + 1) s = ways d p j k s
  | 0, s, c, h => by
    have e : s = List.range d.w.firms := by
      have sl : s.Sublist (List.range d.w.firms) := by
        conv => lhs; rw [c]
        exact List.filter_sublist
      exact sl.eq_of_length_le (by rw [List.length_range]; omega)
    have m : s.contains j = true := by
      rw [List.contains_iff_mem, e]
      exact List.mem_range.mpr hj
    unfold ways
    rw [if_pos m, if_pos m]
  | k + 1, s, c, h => by
    conv => lhs; unfold ways
    conv => rhs; unfold ways
    by_cases m : s.contains j = true
    · rw [if_pos m, if_pos m]
    · rw [if_neg m, if_neg m]
      refine flat_congr _ fun i hi => ?_
      obtain ⟨hi1, hi2⟩ := List.mem_filter.mp hi
      rw [Bool.and_eq_true, Bool.not_eq_true', ← Bool.not_eq_true, List.contains_iff_mem] at hi2
      have g := ruledFrom_grow (ps := 2 ^ p) c (List.mem_range.mp hi1) hi2.1
      simp only
      rw [ways_fuel hj k _ (ruledFrom_canon d (2 ^ p) (s ++ [i])) (by omega)]
/-- the cheapest way is the one that is better than all -/
theorem cheapest_eq {d : Desk} {p j : Nat} {r : Way} (h : r ∈ ways d p j d.w.firms (ruled d (2 ^ p))) (hb : ∀ y ∈ ways d p j d.w.firms (ruled d (2 ^ p)), better r y = true) : cheapest d p j = some r := by
  unfold cheapest
  cases e : best (ways d p j d.w.firms (ruled d (2 ^ p))) with
  | none =>
    rw [best_none.mp e] at h
    cases h
  | some x =>
    obtain ⟨h1, h2⟩ := best_some e
    have q := better_comps (h2 r h) (hb x h1)
    rw [ways_comps _ _ h1 h q.2]
end Wr
/-! Sets of people as numbers; the least ones; who makes the difference; who is free. -/
namespace Wr
open Krcf (World sum)
open Krcg
theorem bit_div (g p : Nat) : decide (g / 2 ^ p % 2 = 1) = g.testBit p := (Nat.testBit_eq_decide_div_mod_eq).symm
theorem drop16 : ∀ g < 16, ∀ p < 4, g.testBit p = true → 2 ^ p ≤ g ∧ (∀ q < 4, (g - 2 ^ p).testBit q = (g.testBit q && !decide (q = p))) := by decide +kernel
theorem add16' : ∀ s < 16, ∀ m < 5, ∀ p < m, (!(decide (s < 2 ^ m) && !s.testBit p) || (decide (s + 2 ^ p < 2 ^ m) && (s + 2 ^ p).testBit p)) = true := by decide +kernel
theorem add16 {s m p : Nat} (h1 : s < 16) (h2 : m < 5) (h3 : s < 2 ^ m) (h4 : p < m) (h5 : s.testBit p = false) : s + 2 ^ p < 2 ^ m ∧ (s + 2 ^ p).testBit p = true := by
  have q := add16' s h1 m h2 p h4
  rw [h5, decide_eq_true h3] at q
  have q : (decide (s + 2 ^ p < 2 ^ m) && (s + 2 ^ p).testBit p) = true := q
  rw [Bool.and_eq_true, decide_eq_true_eq] at q
  exact q
theorem sub16 : ∀ g < 16, ∀ p < 4, g.testBit p = true → (g - 2 ^ p).testBit p = false ∧ g - 2 ^ p + 2 ^ p = g := by decide +kernel
theorem low_bits {g m : Nat} (m4 : m ≤ 4) (h : g < 2 ^ m) : g < 16 := Nat.lt_of_lt_of_le h (Nat.pow_le_pow_right (n := 2) (by decide) m4)
theorem bit_lt {g m p : Nat} (h : g < 2 ^ m) (b : g.testBit p = true) : p < m := by
  by_cases c : p < m
  · exact c
  · have e : g < 2 ^ p := Nat.lt_of_lt_of_le h (Nat.pow_le_pow_right (by decide) (by omega))
    rw [Nat.testBit_lt_two_pow e] at b
    cases b
theorem bit_high {g q : Nat} (h : g < 16) (hq : ¬ q < 4) : g.testBit q = false := by
  have e : g < 2 ^ q := Nat.lt_of_lt_of_le (m := 2 ^ 4) h (Nat.pow_le_pow_right (by decide) (by omega))
  exact Nat.testBit_lt_two_pow e
/-- without p -/
theorem bit_drop {g p q : Nat} (h : g < 16) (b : g.testBit p = true) : (g - 2 ^ p).testBit q = (g.testBit q && !decide (q = p)) := by
  have p4 : p < 4 := bit_lt (m := 4) h b
  by_cases c : q < 4
  · exact (drop16 g h p p4 b).2 q c
  · rw [bit_high (g := g - 2 ^ p) (Nat.lt_of_le_of_lt (Nat.sub_le _ _) h) c, bit_high h c]
    rfl
theorem drop_le {g p : Nat} (h : g < 16) (b : g.testBit p = true) : 2 ^ p ≤ g := (drop16 g h p (bit_lt (m := 4) h b) b).1
/-- the sets that rule company j -/
def rulingGroups (d : Desk) (j : Nat) : List Nat := (List.range (2 ^ d.w.people)).filter fun s => (ruled d s).contains j
theorem mem_ruling {d : Desk} {j s : Nat} : s ∈ rulingGroups d j ↔ s < 2 ^ d.w.people ∧ j ∈ ruled d s := by
  unfold rulingGroups
  rw [List.mem_filter, List.mem_range, List.contains_iff_mem]
def hangs (rl : List Nat) (g p : Nat) : Bool := g.testBit p && !rl.contains (g - 2 ^ p)
def membersOf (d : Desk) (g : Nat) : List Nat := (List.range d.w.people).filter fun p => g.testBit p
def leastGroups (d : Desk) (j : Nat) : List Nat := (rulingGroups d j).filter fun g => (membersOf d g).all fun p => hangs (rulingGroups d j) g p
theorem mem_members {d : Desk} {g p : Nat} : p ∈ membersOf d g ↔ p < d.w.people ∧ g.testBit p = true := by
  unfold membersOf
  rw [List.mem_filter, List.mem_range]
theorem leastGroups_eq {d : Desk} {j : Nat} (p4 : d.w.people ≤ 4) (hp : Pos d.w) : leastGroups d j = least d j := by
  refine canon_ext (n := 2 ^ d.w.people) ?_ (least_canon d j) fun g => ?_
  · unfold leastGroups rulingGroups
    rw [List.filter_filter]
    exact canon_filter _ _
  rw [mem_least p4]
  unfold leastGroups
  rw [List.mem_filter, mem_ruling, List.all_eq_true]
  constructor
  · rintro ⟨⟨h1, h2⟩, h3⟩
    refine ⟨h1, h2, fun t ht sub ne hr => ?_⟩
    have g16 := low_bits p4 h1
    -- somebody of g is not of t
    have ex : ∃ p, g.testBit p = true ∧ t.testBit p = false := by
      refine Classical.byContradiction fun z => ne (Nat.eq_of_testBit_eq fun q => ?_)
      cases c : t.testBit q with
      | true => exact (sub q c).symm
      | false =>
        cases c2 : g.testBit q with
        | false => rfl
        | true => exact absurd ⟨q, c2, c⟩ z
    obtain ⟨p, b1, b2⟩ := ex
    have q := h3 p (mem_members.mpr ⟨bit_lt h1 b1, b1⟩)
    unfold hangs at q
    rw [b1, Bool.true_and, Bool.not_eq_true', ← Bool.not_eq_true, List.contains_iff_mem, mem_ruling] at q
    refine q ⟨Nat.lt_of_le_of_lt (Nat.sub_le _ _) h1, ruled_mono hp (fun x hx => ?_) hr⟩
    rw [bit_drop g16 b1, sub x hx, Bool.true_and]
    rw [Bool.not_eq_true', decide_eq_false_iff_not]
    intro z
    rw [z, b2] at hx
    cases hx
  · rintro ⟨h1, h2, h3⟩
    have g16 := low_bits p4 h1
    refine ⟨⟨h1, h2⟩, fun p hm => ?_⟩
    obtain ⟨_, b1⟩ := mem_members.mp hm
    unfold hangs
    rw [b1, Bool.true_and, Bool.not_eq_true', ← Bool.not_eq_true, List.contains_iff_mem, mem_ruling]
    rintro ⟨h4, h5⟩
    refine h3 (g - 2 ^ p) h4 (fun x hx => ?_) (fun z => ?_) h5
    · rw [bit_drop g16 b1, Bool.and_eq_true] at hx
      exact hx.1
    · have := drop_le g16 b1
      have := Nat.two_pow_pos p
      omega
def weightOf (d : Desk) (p j : Nat) : Nat := ((rulingGroups d j).filter fun g => hangs (rulingGroups d j) g p).length
theorem weightOf_eq {d : Desk} {p j : Nat} (p4 : d.w.people ≤ 4) (hpp : p < d.w.people) : weightOf d p j = weight d p j := by
  unfold weightOf weight
  have e : ((rulingGroups d j).filter fun g => hangs (rulingGroups d j) g p).Perm (((List.range (2 ^ d.w.people)).filter fun s => !s.testBit p && (!(ruled d s).contains j && (ruled d (s + 2 ^ p)).contains j)).map (· + 2 ^ p)) := by
    refine (List.perm_ext_iff_of_nodup ((List.nodup_range.filter _).filter _) ?_).mpr ?_
    rotate_left
    · intro g
      rw [List.mem_filter, List.mem_map]
      refine Iff.trans (and_congr_left' mem_ruling) ?_
      constructor
      · rintro ⟨⟨h1, h2⟩, h3⟩
        have g16 := low_bits p4 h1
        unfold hangs at h3
        rw [Bool.and_eq_true, Bool.not_eq_true', ← Bool.not_eq_true, List.contains_iff_mem, mem_ruling] at h3
        obtain ⟨b1, h3⟩ := h3
        obtain ⟨b2, b3⟩ := sub16 g g16 p (by omega) b1
        refine ⟨g - 2 ^ p, ?_, b3⟩
        rw [List.mem_filter, List.mem_range, b2, b3]
        refine ⟨Nat.lt_of_le_of_lt (Nat.sub_le _ _) h1, ?_⟩
        rw [Bool.not_false, Bool.true_and, Bool.and_eq_true, Bool.not_eq_true', ← Bool.not_eq_true, List.contains_iff_mem, List.contains_iff_mem]
        exact ⟨fun z => h3 ⟨Nat.lt_of_le_of_lt (Nat.sub_le _ _) h1, z⟩, h2⟩
      · rintro ⟨s, hs, rfl⟩
        rw [List.mem_filter, List.mem_range, Bool.and_eq_true, Bool.and_eq_true, Bool.not_eq_true', Bool.not_eq_true', ← Bool.not_eq_true (List.contains _ _), List.contains_iff_mem, List.contains_iff_mem] at hs
        obtain ⟨h1, b1, h2, h3⟩ := hs
        obtain ⟨a1, a2⟩ := add16 (low_bits p4 h1) (by omega) h1 hpp b1
        refine ⟨⟨a1, h3⟩, ?_⟩
        unfold hangs
        rw [a2, Nat.add_sub_cancel, Bool.true_and, Bool.not_eq_true', ← Bool.not_eq_true, List.contains_iff_mem, mem_ruling]
        exact fun z => h2 z.2
    · rw [List.nodup_iff_pairwise_ne, List.pairwise_map]
      exact (List.nodup_range.filter _).imp fun h => by omega
  rw [e.length_eq, List.length_map]
/-! ### free -/
def boundOf (d : Desk) (n : Nat) : List Nat := selfRuled d ++ (List.range n).flatMap fun p => ruled d (2 ^ p)
theorem boundOf_succ (d : Desk) (n : Nat) : boundOf d (n + 1) = boundOf d n ++ ruled d (2 ^ n) := by
  unfold boundOf
  rw [List.range_succ, List.flatMap_append, List.flatMap_cons, List.flatMap_nil, List.append_nil, List.append_assoc]
def freeOf (d : Desk) : List Nat := (List.range d.w.firms).filter fun j => !(boundOf d d.w.people).contains j
theorem freeOf_eq (d : Desk) : freeOf d = d.w.fs.filter fun j => (Krcg.ruler d j).isNone && !(selfRuled d).contains j := by
  unfold freeOf World.fs
  refine List.filter_congr fun j _ => ?_
  rw [Bool.eq_iff_iff, Bool.not_eq_true', ← Bool.not_eq_true, List.contains_iff_mem, Bool.and_eq_true, Bool.not_eq_true', ← Bool.not_eq_true, List.contains_iff_mem, Option.isNone_iff_eq_none]
  unfold boundOf Krcg.ruler
  rw [List.mem_append, List.mem_flatMap, List.find?_eq_none]
  constructor
  · intro h
    refine ⟨fun p hp z => h (.inr ⟨p, hp, List.contains_iff_mem.mp z⟩), fun z => h (.inl z)⟩
  · rintro ⟨h1, h2⟩ (z | ⟨p, hp, z⟩)
    · exact h2 z
    · exact h1 p hp (List.contains_iff_mem.mpr z)
end Wr
/-! The defs of ruling.py, further: ruled_by_each_other, self_ruled, free_companies, lack_of. -/
namespace Wr
open PySem PySem.Spec PyProof.Rows L2
open Evl (Ex ex_l ex_t)
theorem told_none (d : Krcg.Desk) : Told d 0 [] := by
  unfold Told
  rw [List.filter_eq_nil_iff.mpr]
  intro p _
  rw [Nat.zero_testBit]
  exact Bool.false_ne_true
theorem rg_nats (n : Nat) : rgV 0 (n : Int) = nats (List.range n) := by
  unfold rgV
  rw [Int.sub_zero, Int.toNat_natCast]
  exact List.map_congr_left fun i _ => by rw [Int.zero_add]
theorem take_filter {p : Nat → Bool} {l : List Nat} {i x : Nat} (h : l[i]? = some x) : (l.take (i + 1)).filter p = (l.take i).filter p ++ (if p x = true then [x] else []) := by
  rw [take_more h, List.filter_append, List.filter_cons, List.filter_nil]
theorem take_filter_len (p : Nat → Bool) (l : List Nat) (i : Nat) : ((l.take i).filter p).length ≤ l.length := by
  refine Nat.le_trans (List.length_filter_le _ _) ?_
  rw [List.length_take]
  omega
theorem boundOf_len {d : Krcg.Desk} : ∀ n, (boundOf d n).length ≤ d.w.firms * (n + 1)
  | 0 => by
    unfold boundOf
    rw [List.range_zero, List.flatMap_nil, List.append_nil]
    have := (selfRuled_canon d).length
    omega
  | n + 1 => by
    rw [boundOf_succ, List.length_append]
    have h1 := boundOf_len (d := d) n
    have h2 : (Krcg.ruled d (2 ^ n)).length ≤ d.w.firms := (ruledFrom_canon d (2 ^ n) []).length
    rw [Nat.mul_add d.w.firms (n + 1) 1]
    omega
theorem self_done {d : Krcg.Desk} (g : Good d) {kl : List Nat} (c : Canon d.w.firms kl) (h : ∀ x ∈ Krcg.selfRuled d, x ∈ kl) (e : ¬ (keepers d kl).length < kl.length) : kl = Krcg.selfRuled d := by
  have sl : (keepers d kl).Sublist kl := List.filter_sublist
  have eq : keepers d kl = kl := sl.eq_of_length_le (by omega)
  refine canon_ext c (selfRuled_canon d) fun x => (selfRuled_eq g.Pos c.nodup (fun _ m => c.lt m) (fun y hy => ?_) h).mem_iff
  rw [← eq] at hy
  exact (List.mem_filter.mp hy).2
theorem lack_sm {d : Krcg.Desk} (g : Good d) {p j : Nat} {rl : List Nat} (hp : p < d.w.people) (n : rl.length ≤ 20) : Sm 190 (Krcg.lacking d p rl j) := by
  unfold Krcg.lacking
  simp only
  split
  · exact sm_zero.mono (by omega)
  · rw [← haveL_eq (told_one hp)]
    refine (sm_sub (needed_sm g j) (sm_parts g j _)).mono ?_
    rw [List.length_append, List.length_map]
    have := List.length_filter_le (fun i => i != j) rl
    show 16 + (1 + 8 * (1 + _)) + 1 ≤ 190
    omega
section
variable {P : Program} {w : PySem.World} {K : PySem.W.Frag} {mg : Str → Option Value} {base : Heap} {A : Ad}
def spEach (K : PySem.W.Frag) (C : Addr) : Sp := fun vs H Q _ => ∃ (b r : Addr) (d : Krcg.Desk) (L : Lay) (rl : List Nat), vs = [.ref b, .ref r] ∧ BookAt K C H b d L ∧ Good d ∧ SqL K H r (nats rl) ∧ (∀ i ∈ rl, i < d.w.firms) ∧ rl.length ≤ 20 ∧
  ∀ p H', Ex H H' → H' p = some (.lst (nats (keepers d rl))) → Q (.ref p) H'
theorem ok_ruled_by_each_other (T : Txt K mg A) : FnOk P w K mg base CX0 7 A.f_ruled_by_each_other A.d_ruled_by_each_other ["book", "companies"] (spEach K A.C_Book) := by
  have G_is_ruled_by_way_of := ok_is_ruled_by_way_of (P := P) (w := w) (base := base) T
  refine T.d_ruled_by_each_other.F.ok sc_ruled_by_each_other (fun vs H Q E h => ?_) (fun cdv Ar outer s H vs Q E hr h => ⟨_, (pss_one (ps_ret (pe_lc (own := [("company", 2)]) (g := gName 2) rfl sc_ruled_by_each_other.nd (pi_list (pv 1)) (blkOk_by (N := ["book", "companies", "company"]) (sc := defScope s_ruled_by_each_other) (by decide +kernel)) (fun _ _ _ _ _ => (pg_name (i := 2) sc_ruled_by_each_other.nd rfl (Or.inl rfl))) (fun _ _ _ _ _ => pts_one (pt_val (pe_call G_is_ruled_by_way_of (hr.mono (by decide)) rfl T.d_is_ruled_by_way_of.g T.d_is_ruled_by_way_of.F.kp T.d_is_ruled_by_way_of.b .nil pass0 (pa_cons (pv 0) (pa_cons (pe_lst pa_nil) (pa_cons (pv 1) (pa_cons (pv 2) pa_nil))))))) (fun _ _ _ _ _ => (pv 2))))), ?_⟩)
  · obtain ⟨b, r, d, L, rl, rfl, _⟩ := h
    rfl
  · obtain ⟨b, r, d, L, rl, rfl, B, g, hr2, hi, ni, q⟩ := h
    refine ⟨_, rfl, r, rfl, ⟨_, hr2⟩, fun D hD => ?_⟩
    refine lc_list (K := K) (a := r) (xs := nats rl) (fun i H' => Ex H H' ∧ H' D = some (.lst (nats ((rl.take i).filter fun j => Krcg.enough d 0 rl j)))) ⟨Ex.new hD, upd_same⟩ (fun i H' _ p => ex_l p.1 hr2) ?_ ?_
    · rintro i y H' hi' ⟨e, hl⟩
      obtain ⟨o, ho, rfl⟩ := nats_at hi'
      have ef := take_filter (p := fun j => Krcg.enough d 0 rl j) ho
      refine ⟨rfl, _, rfl, Nat.zero_le _, fun z hz => ?_⟩
      have ez := e.trans (Ex.new (o := .lst []) hz)
      refine ⟨_, rfl, _, rfl, b, z, r, d, L, 0, [], rl, o, rfl, B.ex ez, g, SqL.of upd_same, ex_l ez hr2, told_none d, hi, ni, hi o (List.mem_of_getElem? ho), fun H2 e2 => ⟨_, rfl, ?_⟩⟩
      have e3 := ez.trans e2
      have hl2 := e2 _ _ (Ex.new (o := .lst []) hz _ _ hl)
      cases c : Krcg.enough d 0 rl o with
      | true =>
        refine itT rfl ⟨_, rfl, _, hl2, ?_, e3.mut hD, ?_⟩
        · rw [nats, List.length_map]
          exact small1000 (by have := take_filter_len (fun j => Krcg.enough d 0 rl j) rl i; omega)
        · rw [upd_same, ef, if_pos c, nats_append]
          rfl
      | false =>
        refine itF rfl ⟨e3, ?_⟩
        rw [ef, if_neg (by rw [c]; exact Bool.false_ne_true), List.append_nil]
        exact hl2
    · rintro H' ⟨e, hl⟩
      rw [nats, List.length_map, List.take_length] at hl
      exact q D H' e hl
def spSelf (K : PySem.W.Frag) (C : Addr) : Sp := fun vs H Q _ => ∃ (b : Addr) (d : Krcg.Desk) (L : Lay), vs = [.ref b] ∧ BookAt K C H b d L ∧ Good d ∧
  ∀ p H', Ex H H' → H' p = some (.lst (nats (Krcg.selfRuled d))) → Q (.ref p) H'
def selfW (b : Addr) (d : Krcg.Desk) (H : Hp) : Nat → L2.St → Hp → Prop := fun m σ H' => Ex H H' ∧ ∃ (k s : Addr) (kl : List Nat), σ = [some (.ref b), some (.ref k), some (.ref s)] ∧ H' k = some (.lst (nats kl)) ∧ H' s = some (.lst (nats (keepers d kl))) ∧ Canon d.w.firms kl ∧ (∀ x ∈ Krcg.selfRuled d, x ∈ kl) ∧ m = kl.length
theorem ok_self_ruled (T : Txt K mg A) : FnOk P w K mg base CX0 8 A.f_self_ruled A.d_self_ruled ["book"] (spSelf K A.C_Book) := by
  have G_ruled_by_each_other := ok_ruled_by_each_other (P := P) (w := w) (base := base) T
  refine T.d_self_ruled.F.ok sc_self_ruled (fun vs H Q E h => ?_) (fun cdv Ar outer s H vs Q E hr h => ⟨_, (pss_cons (ps_set (i := 1) sc_self_ruled.nd rfl (Or.inl rfl) (pe_listRg rfl rfl T.no_list (prg_1 rfl T.no_range (pe_fld (pv 0) rfl)))) (pss_cons (ps_set (i := 2) sc_self_ruled.nd rfl (Or.inl rfl) (pe_call G_ruled_by_each_other (hr.mono (by decide)) rfl T.d_ruled_by_each_other.g T.d_ruled_by_each_other.F.kp T.d_ruled_by_each_other.b .nil pass0 (pa_cons (pv 0) (pa_cons (pv 1) pa_nil)))) (pss_cons (ps_while PassesOwn.never (pt_cmpR op_lt (pe_callB call_len_seq (by rfl) T.no_len PySem.boot_len (pa_cons (pv 2) pa_nil)) (pe_callB call_len_seq (by rfl) T.no_len PySem.boot_len (pa_cons (pv 1) pa_nil)) (nomark _)) (pss_cons (ps_set (i := 1) sc_self_ruled.nd rfl (Or.inl rfl) (pv 2)) (pss_one (ps_set (i := 2) sc_self_ruled.nd rfl (Or.inl rfl) (pe_call G_ruled_by_each_other (hr.mono (by decide)) rfl T.d_ruled_by_each_other.g T.d_ruled_by_each_other.F.kp T.d_ruled_by_each_other.b .nil pass0 (pa_cons (pv 0) (pa_cons (pv 1) pa_nil))))))) (pss_one (ps_ret (pv 1)))))), ?_⟩)
  · obtain ⟨b, d, L, rfl, _⟩ := h
    rfl
  · obtain ⟨b, d, L, rfl, B, g, q⟩ := h
    have f5 := g.f5
    refine ⟨_, rfl, _, _, _, _, _, rfl, B.ins, T.c_Book, T.n_Book_companies, bookF_companies, _, rfl, RgOk.of_le (by omega) (by omega) (by omega) (by omega), fun k0 hk0 => ?_⟩
    rw [rg_nats]
    have e0 := Ex.new (o := .lst (nats (List.range d.w.firms))) hk0
    have fc : Canon d.w.firms (List.range d.w.firms) := fs_canon d.w
    refine ⟨_, rfl, _, rfl, b, k0, d, L, List.range d.w.firms, rfl, B.ex e0, g, SqL.of upd_same, fun i m => List.mem_range.mp m, by rw [List.length_range]; omega, fun s0 H1 e1 hs0 => ?_⟩
    refine ⟨selfW b d H, ⟨_, e0.trans e1, k0, s0, _, rfl, e1 _ _ upd_same, hs0, fc, fun x m => List.mem_range.mpr ((selfRuled_canon d).lt m), rfl⟩, ?_⟩
    rintro m σ H' ⟨e, k, s, kl, rfl, h1, h2, c, hs, rfl⟩
    refine ⟨_, rfl, s, _, rfl, .inl (SqL.of h2), _, rfl, k, _, rfl, .inl (SqL.of h1), _, _, rfl, rfl, _, rfl, ?_⟩
    have l1 : (nats kl).length = kl.length := List.length_map _
    have l2 : (nats (keepers d kl)).length = (keepers d kl).length := List.length_map _
    have kc : Canon d.w.firms (keepers d kl) := canon_sub c
    by_cases lt : (keepers d kl).length < kl.length
    · refine itT (decide_eq_true (by rw [l1, l2]; omega)) ⟨nextW (selfW b d H) kl.length, fun _ _ h => h, ?_⟩
      refine ⟨_, rfl, _, rfl, _, rfl, b, s, d, L, keepers d kl, rfl, B.ex e, g, SqL.of h2, fun i m => kc.lt m, by have := kc.length; omega, fun p H2 e2 hp => ?_⟩
      exact ⟨(keepers d kl).length, lt, e.trans e2, s, p, keepers d kl, rfl, e2 _ _ h2, hp, kc, fun x m => List.mem_filter.mpr ⟨hs x m, selfRuled_stays g.Pos c.nodup (fun _ m => c.lt m) hs m⟩, rfl⟩
    · refine itF (decide_eq_false (by rw [l1, l2]; omega)) ⟨_, rfl, q k H' e ?_⟩
      rw [← self_done g c hs lt]
      exact h1
def spFree (K : PySem.W.Frag) (C : Addr) : Sp := fun vs H Q _ => ∃ (b : Addr) (d : Krcg.Desk) (L : Lay), vs = [.ref b] ∧ BookAt K C H b d L ∧ Good d ∧
  ∀ p H', Ex H H' → H' p = some (.lst (nats (freeOf d))) → Q (.ref p) H'
theorem ok_free_companies (T : Txt K mg A) : FnOk P w K mg base CX0 10 A.f_free_companies A.d_free_companies ["book"] (spFree K A.C_Book) := by
  have G_ruled_together := ok_ruled_together (P := P) (w := w) (base := base) T
  have G_self_ruled := ok_self_ruled (P := P) (w := w) (base := base) T
  refine T.d_free_companies.F.ok sc_free_companies (fun vs H Q E h => ?_) (fun cdv Ar outer s H vs Q E hr h => ⟨_, (pss_cons (ps_set (i := 1) sc_free_companies.nd rfl (Or.inr rfl) (pe_call G_self_ruled (hr.mono (by decide)) rfl T.d_self_ruled.g T.d_self_ruled.F.kp T.d_self_ruled.b .nil pass0 (pa_cons (pv 0) pa_nil))) (pss_cons (ps_for PassesOwn.never rfl (pi_range1 rfl T.no_range (pa_cons (pe_fld (pv 0) rfl) pa_nil)) (pg_name (i := 2) sc_free_companies.nd rfl (Or.inl rfl)) (pss_one (ps_set (i := 1) sc_free_companies.nd rfl (Or.inr rfl) (pe_op op_cat (pv 1) (pe_call G_ruled_together (hr.mono (by decide)) rfl T.d_ruled_together.g T.d_ruled_together.F.kp T.d_ruled_together.b .nil pass0 (pa_cons (pv 0) (pa_cons (pe_lst (pa_cons (pv 2) pa_nil)) pa_nil))))))) (pss_one (ps_ret (pe_lc (own := [("company", 3)]) (g := gName 3) rfl sc_free_companies.nd (pi_range1 rfl T.no_range (pa_cons (pe_fld (pv 0) rfl) pa_nil)) (blkOk_by (N := ["book", "bound", "person", "company"]) (sc := defScope s_free_companies) (by decide +kernel)) (fun _ _ _ _ _ => (pg_name (i := 3) sc_free_companies.nd rfl (Or.inl rfl))) (fun _ _ _ _ _ => pts_one (pt_cmpR (show OpR _ (compareOp CmpOp.NotIn) (rIn K true) from op_notIn_seq) (pv 3) (pv 1) (by rfl))) (fun _ _ _ _ _ => (pv 3))))))), ?_⟩)
  · obtain ⟨b, d, L, rfl, _⟩ := h
    rfl
  · obtain ⟨b, d, L, rfl, B, g, q⟩ := h
    have f5 := g.f5
    have p4 := g.p4
    refine ⟨_, rfl, b, d, L, rfl, B, g, fun s0 H1 e1 hs0 => ?_⟩
    refine ⟨_, rfl, _, _, _, _, _, rfl, (B.ex e1).ins, T.c_Book, T.n_Book_people, bookF_people, _, rfl, by omega, by omega, ?_⟩
    refine for_range (lo := 0) (n := ((d.w.people : Nat) : Int).toNat) (fun i σ H' => Ex H H' ∧ i ≤ d.w.people ∧ ∃ (s : Addr) (v : Option V), σ = [some (.ref b), some (.ref s), v, none] ∧ H' s = some (.lst (nats (boundOf d i))))
      ⟨e1, Nat.zero_le _, s0, none, rfl, ?_⟩ ?_ ?_
    · rw [hs0]
      unfold boundOf
      rw [List.range_zero, List.flatMap_nil, List.append_nil]
    · rintro i σ H' hi' ⟨e, _, s, v, rfl, hs⟩
      have il : i < d.w.people := by omega
      rw [Int.zero_add]
      refine ⟨_, rfl, _, rfl, _, rfl, by show 1 ≤ sizeLine; decide, fun z hz => ?_⟩
      have ez := e.trans (Ex.new (o := .lst [V.int (i : Int)]) hz)
      refine ⟨b, z, d, L, 2 ^ i, [i], rfl, B.ex ez, g, SqL.of upd_same, told_one il, fun t H2 tn e2 ht => ?_⟩
      have hs2 := e2 _ _ (Ex.new (o := .lst [V.int (i : Int)]) hz _ _ hs)
      have bl := boundOf_len (d := d) i
      have rl : (Krcg.ruled d (2 ^ i)).length ≤ d.w.firms := (ruledFrom_canon d (2 ^ i) []).length
      have b25 : d.w.firms * (i + 1) ≤ 5 * 5 := Nat.mul_le_mul f5 (by omega)
      refine ⟨s, t, _, _, rfl, rfl, hs2, ht, ?_, fun p hp => ?_⟩
      · rw [nats, nats, List.length_map, List.length_map]
        exact Nat.le_of_lt (small1000 (by omega))
      · rw [← nats_append, ← boundOf_succ]
        exact ⟨(ez.trans e2).trans (Ex.new hp), il, p, _, rfl, upd_same⟩
    · rintro σ H' ⟨e, _, s, v, rfl, hs⟩
      rw [Int.toNat_natCast] at hs
      refine ⟨_, rfl, _, _, _, _, _, rfl, (B.ex e).ins, T.c_Book, T.n_Book_companies, bookF_companies, _, rfl, by omega, by omega, fun D hD => ?_⟩
      refine lc_range (lo := 0) (n := ((d.w.firms : Nat) : Int).toNat) (fun i H2 => Ex H' H2 ∧ i ≤ d.w.firms ∧ H2 D = some (.lst (nats ((List.range i).filter fun j => !(boundOf d d.w.people).contains j)))) ⟨Ex.new hD, Nat.zero_le _, upd_same⟩ ?_ ?_
      · rintro i H2 hi ⟨e2, _, hl⟩
        have il : i < d.w.firms := by omega
        have ef := filter_succ (fun j => !(boundOf d d.w.people).contains j) i
        rw [Int.zero_add]
        refine ⟨rfl, _, rfl, _, rfl, s, _, rfl, .inl (SqL.of (e2 _ _ hs)), rfl, flat_nats _, _, rfl, ?_⟩
        have en : (if true = true then !inV (V.int (i : Int)) (nats (boundOf d d.w.people)) else inV (V.int (i : Int)) (nats (boundOf d d.w.people))) = !(boundOf d d.w.people).contains i := by
          rw [if_pos rfl, inV_nats]
        cases c : (!(boundOf d d.w.people).contains i) with
        | true =>
          refine itT (en.trans c) ⟨_, rfl, _, hl, ?_, e2.mut hD, il, ?_⟩
          · rw [nats, List.length_map]
            exact small1000 (by have := filter_len (fun j => !(boundOf d d.w.people).contains j) i; omega)
          · rw [upd_same, ef, if_pos c, nats_append]
            rfl
        | false =>
          refine itF (en.trans c) ⟨e2, il, ?_⟩
          rw [ef, if_neg (by rw [c]; exact Bool.false_ne_true), List.append_nil]
          exact hl
      · rintro H2 ⟨e2, _, hl⟩
        rw [Int.toNat_natCast] at hl
        exact q D H2 (e.trans e2) hl
/-! ### lack_of -/
def spLack (K : PySem.W.Frag) (C : Addr) : Sp := fun vs H Q _ => ∃ (b r : Addr) (d : Krcg.Desk) (L : Lay) (p0 : Nat) (rl : List Nat) (j : Nat), vs = [.ref b, .int (p0 : Int), .ref r, .int (j : Int)] ∧ BookAt K C H b d L ∧ Good d ∧ SqL K H r (nats rl) ∧ p0 < d.w.people ∧ (∀ i ∈ rl, i < d.w.firms) ∧ rl.length ≤ 20 ∧ j < d.w.firms ∧
  ∀ p H', Ex H H' → Fr K H' p (Krcg.lacking d p0 rl j) → Q (.ref p) H'
theorem ok_lack_of (T : Txt K mg A) : FnOk P w K mg base CX0 6 A.f_lack_of A.d_lack_of ["book", "person", "ruled", "company"] (spLack K A.C_Book) := by
  have G_at_least := ok_at_least (P := P) (w := w) (base := base) T
  have G_minus := ok_minus (P := P) (w := w) (base := base) T
  have G_commanded := ok_commanded (P := P) (w := w) (base := base) T
  have G_needed_of := ok_needed_of (P := P) (w := w) (base := base) T
  refine T.d_lack_of.F.ok sc_lack_of (fun vs H Q E h => ?_) (fun cdv Ar outer s H vs Q E hr h => ⟨_, (pss_cons (ps_set (i := 4) sc_lack_of.nd rfl (Or.inl rfl) (pe_call G_minus (hr.mono (by decide)) rfl T.d_minus.g T.d_minus.F.kp T.d_minus.b .nil pass0 (pa_cons (pe_call G_needed_of (hr.mono (by decide)) rfl T.d_needed_of.g T.d_needed_of.F.kp T.d_needed_of.b .nil pass0 (pa_cons (pv 0) (pa_cons (pv 3) pa_nil))) (pa_cons (pe_call G_commanded (hr.mono (by decide)) rfl T.d_commanded.g T.d_commanded.F.kp T.d_commanded.b .nil pass0 (pa_cons (pv 0) (pa_cons (pe_lst (pa_cons (pv 1) pa_nil)) (pa_cons (pv 2) (pa_cons (pv 3) pa_nil))))) pa_nil)))) (pss_cons (ps_if (pt_not (pt_val (pe_call G_at_least (hr.mono (by decide)) rfl T.d_at_least.g T.d_at_least.F.kp T.d_at_least.b .nil pass0 (pa_cons (pv 4) (pa_cons (pe_glob (v := .ref A.a_ZERO) rfl T.g_ZERO rfl) pa_nil))))) (pss_one (ps_ret (pe_glob (v := .ref A.a_ZERO) rfl T.g_ZERO rfl))) pss_nil) (pss_one (ps_ret (pv 4))))), ?_⟩)
  · obtain ⟨b, r, d, L, p0, rl, j, rfl, _⟩ := h
    rfl
  · obtain ⟨b, r, d, L, p0, rl, j, rfl, B, g, hr2, hp, hi, ni, hj, q⟩ := h
    refine ⟨_, rfl, _, rfl, b, d, L, j, rfl, B, g, hj, fun n H1 e1 fn => ?_⟩
    refine ⟨_, rfl, _, rfl, by show 1 ≤ sizeLine; decide, fun z hz => ?_⟩
    have ez := e1.trans (Ex.new (o := .lst [V.int (p0 : Int)]) hz)
    refine ⟨_, rfl, _, rfl, b, z, r, d, L, [p0], rl, j, rfl, B.ex ez, g, SqL.of upd_same, ex_l ez hr2, fun p m => by rw [List.mem_singleton.mp m]; exact hp, hi, by show 1 ≤ 20; omega, ni, hj, fun c H3 e3 fc => ?_⟩
    have sh : Sm 169 (haveL d [p0] rl j) := by
      refine (sm_parts g j _).mono ?_
      rw [List.length_append, List.length_map]
      have := List.length_filter_le (fun i => i != j) rl
      show 1 + 8 * (1 + _) ≤ 169
      omega
    refine ⟨n, c, _, _, 16, 169, rfl, (fn.ex (Ex.new hz)).ex e3, fc, needed_sm g j, sh, by omega, fun s H4 e4 fs => ?_⟩
    rw [haveL_eq (told_one hp)] at fs sh
    have e5 := (ez.trans e3).trans e4
    refine ⟨_, rfl, s, A.a_ZERO, _, 0, 186, 1, rfl, fs, fr_zero T _, sm_sub (needed_sm g j) sh, sm_zero, by omega, _, rfl, ?_⟩
    have el : Krcg.lacking d p0 rl j = if d.q * Krcg.votes d.w j - Krcg.have_ d.w (2 ^ p0) rl j < 0 then 0 else d.q * Krcg.votes d.w j - Krcg.have_ d.w (2 ^ p0) rl j := rfl
    by_cases c0 : 0 ≤ d.q * Krcg.votes d.w j - Krcg.have_ d.w (2 ^ p0) rl j
    · refine itF (by rw [decide_eq_true c0]; rfl) ⟨_, rfl, q s H4 e5 ?_⟩
      rw [el, if_neg (Rat.not_lt.mpr c0)]
      exact fs
    · refine itT (by rw [decide_eq_false c0]; rfl) (q A.a_ZERO H4 e5 ?_)
      rw [el, if_pos (Rat.not_le.mp c0)]
      exact fr_zero T _
end
end Wr
/-! The defs of groups.py. -/
namespace Wr
open PySem PySem.Spec PyProof.Rows L2
open Evl (Ex ex_l ex_t)
/-- how many sets of people there are -/
def cntG (d : Krcg.Desk) : Nat := 2 ^ d.w.people
theorem cntG_le {d : Krcg.Desk} (g : Good d) : cntG d ≤ 16 := Nat.pow_le_pow_right (n := 2) (by decide) g.p4
theorem shl_one (p : Nat) : (1 : Int) * 2 ^ ((p : Int)).toNat = ((2 ^ p : Nat) : Int) := by
  rw [Int.toNat_natCast, Int.one_mul, Int.natCast_pow]
  rfl
theorem member_eq (g p : Nat) : decide (V.int ((g : Int) / 2 ^ ((p : Int)).toNat % 2) = V.int 1) = g.testBit p := by
  rw [← bit_div, Int.toNat_natCast, Bool.eq_iff_iff, decide_eq_true_eq, decide_eq_true_eq]
  have e : (g : Int) / 2 ^ p % 2 = ((g / 2 ^ p % 2 : Nat) : Int) := by
    rw [Int.natCast_emod, Int.natCast_ediv, Int.natCast_pow]
    rfl
  rw [e]
  exact ⟨fun z => by have := V.int.inj z; omega, fun z => by rw [z]; rfl⟩
section
variable {P : Program} {w : PySem.World} {K : PySem.W.Frag} {mg : Str → Option Value} {base : Heap} {A : Ad}
def spGroupCount (K : PySem.W.Frag) (C : Addr) : Sp := fun vs H Q _ => ∃ (b : Addr) (d : Krcg.Desk) (L : Lay), vs = [.ref b] ∧ BookAt K C H b d L ∧ Good d ∧ Q (.int (cntG d : Int)) H
theorem ok_group_count (T : Txt K mg A) : FnOk P w K mg base CX0 1 A.f_group_count A.d_group_count ["book"] (spGroupCount K A.C_Book) := by
  refine T.d_group_count.F.ok sc_group_count (fun vs H Q E h => ?_) (fun cdv Ar outer s H vs Q E hr h => ⟨_, (pss_one (ps_ret (pe_op op_shl pe_int (pe_fld (pv 0) rfl)))), ?_⟩)
  · obtain ⟨b, d, L, rfl, _⟩ := h
    rfl
  · obtain ⟨b, d, L, rfl, B, g, q⟩ := h
    have p4 := g.p4
    refine ⟨_, rfl, _, _, _, _, _, rfl, B.ins, T.c_Book, T.n_Book_people, bookF_people, _, _, rfl, rfl, ⟨by omega, by omega, by decide⟩, ?_⟩
    show Q (.int ((1 : Int) * 2 ^ ((d.w.people : Int)).toNat)) H
    rw [shl_one]
    exact q
def spMember : Sp := fun vs H Q _ => ∃ g p : Nat, vs = [.int (g : Int), .int (p : Int)] ∧ Q (.bl (g.testBit p)) H
theorem ok_is_member (T : Txt K mg A) : FnOk P w K mg base CX0 1 A.f_is_member A.d_is_member ["group", "person"] spMember := by
  refine T.d_is_member.F.ok sc_is_member (fun vs H Q E h => ?_) (fun cdv Ar outer s H vs Q E hr h => ⟨_, (pss_one (ps_ret (pe_cmpR op_eq (pe_op op_mod (pe_op op_shr (pv 0) (pv 1)) pe_int) pe_int (nomark _)))), ?_⟩)
  · obtain ⟨g, p, rfl, _⟩ := h
    rfl
  · obtain ⟨g, p, rfl, q⟩ := h
    refine ⟨_, rfl, _, rfl, _, _, rfl, rfl, (by show (0 : Int) ≤ (p : Int); omega), _, _, rfl, rfl, (by show (0 : Int) < 2; decide), rfl, ?_⟩
    rw [← member_eq] at q
    exact q
def spWithout : Sp := fun vs H Q _ => ∃ g p : Nat, vs = [.int (g : Int), .int (p : Int)] ∧ 2 ^ p ≤ g ∧ p ≤ 100 ∧ Q (.int ((g - 2 ^ p : Nat) : Int)) H
theorem ok_without (T : Txt K mg A) : FnOk P w K mg base CX0 1 A.f_without A.d_without ["group", "person"] spWithout := by
  refine T.d_without.F.ok sc_without (fun vs H Q E h => ?_) (fun cdv Ar outer s H vs Q E hr h => ⟨_, (pss_one (ps_ret (pe_op op_sub (pv 0) (pe_op op_shl pe_int (pv 1))))), ?_⟩)
  · obtain ⟨g, p, rfl, _⟩ := h
    rfl
  · obtain ⟨g, p, rfl, hg, hp, q⟩ := h
    refine ⟨_, rfl, _, rfl, _, _, rfl, rfl, ⟨by omega, by omega, by decide⟩, _, _, rfl, rfl, ?_⟩
    show Q (.int ((g : Int) - (1 : Int) * 2 ^ ((p : Int)).toNat)) H
    rw [shl_one, ← Int.natCast_sub hg]
    exact q
def spMembers (K : PySem.W.Frag) (C : Addr) : Sp := fun vs H Q _ => ∃ (b : Addr) (d : Krcg.Desk) (L : Lay) (s : Nat), vs = [.ref b, .int (s : Int)] ∧ BookAt K C H b d L ∧ Good d ∧
  ∀ p H', Ex H H' → H' p = some (.lst (nats (membersOf d s))) → Q (.ref p) H'
theorem ok_members_of (T : Txt K mg A) : FnOk P w K mg base CX0 2 A.f_members_of A.d_members_of ["book", "group"] (spMembers K A.C_Book) := by
  have G_is_member := ok_is_member (P := P) (w := w) (base := base) T
  refine T.d_members_of.F.ok sc_members_of (fun vs H Q E h => ?_) (fun cdv Ar outer s H vs Q E hr h => ⟨_, (pss_one (ps_ret (pe_lc (own := [("person", 2)]) (g := gName 2) rfl sc_members_of.nd (pi_range1 rfl T.no_range (pa_cons (pe_fld (pv 0) rfl) pa_nil)) (blkOk_by (N := ["book", "group", "person"]) (sc := defScope s_members_of) (by decide +kernel)) (fun _ _ _ _ _ => (pg_name (i := 2) sc_members_of.nd rfl (Or.inl rfl))) (fun _ _ _ _ _ => pts_one (pt_val (pe_call G_is_member (hr.mono (by decide)) rfl T.d_is_member.g T.d_is_member.F.kp T.d_is_member.b .nil pass0 (pa_cons (pv 1) (pa_cons (pv 2) pa_nil))))) (fun _ _ _ _ _ => (pv 2))))), ?_⟩)
  · obtain ⟨b, d, L, s, rfl, _⟩ := h
    rfl
  · obtain ⟨b, d, L, s, rfl, B, g, q⟩ := h
    have p4 := g.p4
    refine ⟨_, rfl, _, _, _, _, _, rfl, B.ins, T.c_Book, T.n_Book_people, bookF_people, _, rfl, by omega, by omega, fun D hD => ?_⟩
    refine lc_range (lo := 0) (n := ((d.w.people : Nat) : Int).toNat) (fun i H' => Ex H H' ∧ i ≤ d.w.people ∧ H' D = some (.lst (nats ((List.range i).filter fun p => s.testBit p)))) ⟨Ex.new hD, Nat.zero_le _, upd_same⟩ ?_ ?_
    · rintro i H' hi ⟨e, _, hl⟩
      have il : i < d.w.people := by omega
      have ef := filter_succ (fun p => s.testBit p) i
      rw [Int.zero_add]
      refine ⟨rfl, _, rfl, _, rfl, s, i, rfl, _, rfl, ?_⟩
      cases c : s.testBit i with
      | true =>
        refine itT rfl ⟨_, rfl, _, hl, ?_, e.mut hD, il, ?_⟩
        · rw [nats, List.length_map]
          exact small1000 (by have := filter_len (fun p => s.testBit p) i; omega)
        · rw [upd_same, ef, if_pos c, nats_append]
          rfl
      | false =>
        refine itF rfl ⟨e, il, ?_⟩
        rw [ef, if_neg (by rw [c]; exact Bool.false_ne_true), List.append_nil]
        exact hl
    · rintro H' ⟨e, _, hl⟩
      rw [Int.toNat_natCast] at hl
      exact q D H' e hl
theorem told_members (d : Krcg.Desk) (s : Nat) : Told d s (membersOf d s) := List.Perm.refl _
def spByGroup (K : PySem.W.Frag) (C : Addr) : Sp := fun vs H Q _ => ∃ (b : Addr) (d : Krcg.Desk) (L : Lay) (s : Nat), vs = [.ref b, .int (s : Int)] ∧ BookAt K C H b d L ∧ Good d ∧
  ∀ p H', Ex H H' → H' p = some (.lst (nats (Krcg.ruled d s))) → Q (.ref p) H'
theorem ok_ruled_by_group (T : Txt K mg A) : FnOk P w K mg base CX0 10 A.f_ruled_by_group A.d_ruled_by_group ["book", "group"] (spByGroup K A.C_Book) := by
  have G_ruled_together := ok_ruled_together (P := P) (w := w) (base := base) T
  have G_members_of := ok_members_of (P := P) (w := w) (base := base) T
  refine T.d_ruled_by_group.F.ok sc_ruled_by_group (fun vs H Q E h => ?_) (fun cdv Ar outer s H vs Q E hr h => ⟨_, (pss_one (ps_ret (pe_call G_ruled_together (hr.mono (by decide)) rfl T.d_ruled_together.g T.d_ruled_together.F.kp T.d_ruled_together.b .nil pass0 (pa_cons (pv 0) (pa_cons (pe_call G_members_of (hr.mono (by decide)) rfl T.d_members_of.g T.d_members_of.F.kp T.d_members_of.b .nil pass0 (pa_cons (pv 0) (pa_cons (pv 1) pa_nil))) pa_nil))))), ?_⟩)
  · obtain ⟨b, d, L, s, rfl, _⟩ := h
    rfl
  · obtain ⟨b, d, L, s, rfl, B, g, q⟩ := h
    refine ⟨_, rfl, _, rfl, _, rfl, b, d, L, s, rfl, B, g, fun m H1 e1 hm => ?_⟩
    exact ⟨b, m, d, L, s, membersOf d s, rfl, B.ex e1, g, SqL.of hm, told_members d s, fun p H2 _ e2 hp => q p H2 (e1.trans e2) hp⟩
def spRuling (K : PySem.W.Frag) (C : Addr) : Sp := fun vs H Q _ => ∃ (b : Addr) (d : Krcg.Desk) (L : Lay) (j : Nat), vs = [.ref b, .int (j : Int)] ∧ BookAt K C H b d L ∧ Good d ∧
  ∀ p H', Ex H H' → H' p = some (.lst (nats (rulingGroups d j))) → Q (.ref p) H'
theorem ok_ruling_groups (T : Txt K mg A) : FnOk P w K mg base CX0 11 A.f_ruling_groups A.d_ruling_groups ["book", "company"] (spRuling K A.C_Book) := by
  have G_ruled_by_group := ok_ruled_by_group (P := P) (w := w) (base := base) T
  have G_group_count := ok_group_count (P := P) (w := w) (base := base) T
  refine T.d_ruling_groups.F.ok sc_ruling_groups (fun vs H Q E h => ?_) (fun cdv Ar outer s H vs Q E hr h => ⟨_, (pss_one (ps_ret (pe_lc (own := [("group", 2)]) (g := gName 2) rfl sc_ruling_groups.nd (pi_range1 rfl T.no_range (pa_cons (pe_call G_group_count (hr.mono (by decide)) rfl T.d_group_count.g T.d_group_count.F.kp T.d_group_count.b .nil pass0 (pa_cons (pv 0) pa_nil)) pa_nil)) (blkOk_by (N := ["book", "company", "group"]) (sc := defScope s_ruling_groups) (by decide +kernel)) (fun _ _ _ _ _ => (pg_name (i := 2) sc_ruling_groups.nd rfl (Or.inl rfl))) (fun _ _ _ _ _ => pts_one (pt_cmpR (show OpR _ (compareOp CmpOp.In) (rIn K false) from op_in_seq) (pv 1) (pe_call G_ruled_by_group (hr.mono (by decide)) rfl T.d_ruled_by_group.g T.d_ruled_by_group.F.kp T.d_ruled_by_group.b .nil pass0 (pa_cons (pv 0) (pa_cons (pv 2) pa_nil))) (by rfl))) (fun _ _ _ _ _ => (pv 2))))), ?_⟩)
  · obtain ⟨b, d, L, j, rfl, _⟩ := h
    rfl
  · obtain ⟨b, d, L, j, rfl, B, g, q⟩ := h
    have c16 := cntG_le g
    refine ⟨_, rfl, b, d, L, rfl, B, g, _, rfl, by omega, by omega, fun D hD => ?_⟩
    refine lc_range (lo := 0) (n := ((cntG d : Nat) : Int).toNat) (fun i H' => Ex H H' ∧ i ≤ cntG d ∧ H' D = some (.lst (nats ((List.range i).filter fun s => (Krcg.ruled d s).contains j)))) ⟨Ex.new hD, Nat.zero_le _, upd_same⟩ ?_ ?_
    · rintro i H' hi ⟨e, _, hl⟩
      have il : i < cntG d := by omega
      have ef := filter_succ (fun s => (Krcg.ruled d s).contains j) i
      rw [Int.zero_add]
      refine ⟨rfl, _, rfl, _, rfl, _, rfl, b, d, L, i, rfl, B.ex e, g, fun t H2 e2 ht => ?_⟩
      have hl2 := e2 _ _ hl
      refine ⟨t, _, rfl, .inl (SqL.of ht), rfl, flat_nats _, _, rfl, ?_⟩
      have en : (if false = true then !inV (V.int (j : Int)) (nats (Krcg.ruled d i)) else inV (V.int (j : Int)) (nats (Krcg.ruled d i))) = (Krcg.ruled d i).contains j := by
        rw [if_neg Bool.false_ne_true, inV_nats]
      cases c : (Krcg.ruled d i).contains j with
      | true =>
        refine itT (en.trans c) ⟨_, rfl, _, hl2, ?_, (e.trans e2).mut hD, il, ?_⟩
        · rw [nats, List.length_map]
          exact small1000 (by have := filter_len (fun s => (Krcg.ruled d s).contains j) i; omega)
        · rw [upd_same, ef, if_pos c, nats_append]
          rfl
      | false =>
        refine itF (en.trans c) ⟨e.trans e2, il, ?_⟩
        rw [ef, if_neg (by rw [c]; exact Bool.false_ne_true), List.append_nil]
        exact hl2
    · rintro H' ⟨e, _, hl⟩
      rw [Int.toNat_natCast] at hl
      exact q D H' e hl
def spHangs (K : PySem.W.Frag) : Sp := fun vs H Q _ => ∃ (r : Addr) (rl : List Nat) (s p : Nat), vs = [.ref r, .int (s : Int), .int (p : Int)] ∧ SqL K H r (nats rl) ∧ s < 16 ∧ p ≤ 100 ∧ Q (.bl (hangs rl s p)) H
theorem ok_hangs_on (T : Txt K mg A) : FnOk P w K mg base CX0 2 A.f_hangs_on A.d_hangs_on ["ruling", "group", "person"] (spHangs K) := by
  have G_without := ok_without (P := P) (w := w) (base := base) T
  have G_is_member := ok_is_member (P := P) (w := w) (base := base) T
  refine T.d_hangs_on.F.ok sc_hangs_on (fun vs H Q E h => ?_) (fun cdv Ar outer s H vs Q E hr h => ⟨_, (pss_one (ps_ret (pe_and (pe_call G_is_member (hr.mono (by decide)) rfl T.d_is_member.g T.d_is_member.F.kp T.d_is_member.b .nil pass0 (pa_cons (pv 1) (pa_cons (pv 2) pa_nil))) (pe_one (pe_cmpR op_notIn_seq (pe_call G_without (hr.mono (by decide)) rfl T.d_without.g T.d_without.F.kp T.d_without.b .nil pass0 (pa_cons (pv 1) (pa_cons (pv 2) pa_nil))) (pv 0) (by rfl)))))), ?_⟩)
  · obtain ⟨r, rl, s, p, rfl, _⟩ := h
    rfl
  · obtain ⟨r, rl, s, p, rfl, hl, hs, hp, q⟩ := h
    refine ⟨_, rfl, _, rfl, s, p, rfl, _, rfl, ?_⟩
    unfold hangs at q
    cases c : s.testBit p with
    | true =>
      rw [c, Bool.true_and] at q
      refine itT rfl ⟨_, rfl, _, rfl, s, p, rfl, drop_le hs c, hp, _, rfl, r, _, rfl, .inl hl, rfl, flat_nats _, ?_⟩
      have en : (if true = true then !inV (V.int ((s - 2 ^ p : Nat) : Int)) (nats rl) else inV (V.int ((s - 2 ^ p : Nat) : Int)) (nats rl)) = !rl.contains (s - 2 ^ p) := by
        rw [if_pos rfl, inV_nats]
      rw [← en] at q
      exact q
    | false =>
      rw [c, Bool.false_and] at q
      exact itF rfl q
def spNeedsAll (K : PySem.W.Frag) (C : Addr) : Sp := fun vs H Q _ => ∃ (b r : Addr) (d : Krcg.Desk) (L : Lay) (rl : List Nat) (s : Nat), vs = [.ref b, .ref r, .int (s : Int)] ∧ BookAt K C H b d L ∧ Good d ∧ SqL K H r (nats rl) ∧ s < 16 ∧
  ∀ H', Ex H H' → Q (.bl ((membersOf d s).all fun p => hangs rl s p)) H'
theorem ok_needs_all (T : Txt K mg A) : FnOk P w K mg base CX0 3 A.f_needs_all A.d_needs_all ["book", "ruling", "group"] (spNeedsAll K A.C_Book) := by
  have G_members_of := ok_members_of (P := P) (w := w) (base := base) T
  have G_hangs_on := ok_hangs_on (P := P) (w := w) (base := base) T
  refine T.d_needs_all.F.ok sc_needs_all (fun vs H Q E h => ?_) (fun cdv Ar outer s H vs Q E hr h => ⟨_, (pss_one (ps_ret (pe_callB (cr_all rfl) (by rfl) T.no_all (by decide +kernel) (pa_cons (pe_lc (own := [("person", 3)]) (g := gName 3) (tt := tYes) rfl sc_needs_all.nd (pi_list (pe_call G_members_of (hr.mono (by decide)) rfl T.d_members_of.g T.d_members_of.F.kp T.d_members_of.b .nil pass0 (pa_cons (pv 0) (pa_cons (pv 2) pa_nil)))) (blkOk_by (N := ["book", "ruling", "group", "person"]) (sc := defScope s_needs_all) (by decide +kernel)) (fun _ _ _ _ _ => (pg_name (i := 3) sc_needs_all.nd rfl (Or.inl rfl))) (fun _ _ _ _ _ => pts_nil) (fun _ _ _ _ _ => (pe_call G_hangs_on (hr.mono (by decide)) rfl T.d_hangs_on.g T.d_hangs_on.F.kp T.d_hangs_on.b .nil pass0 (pa_cons (pv 1) (pa_cons (pv 2) (pa_cons (pv 3) pa_nil)))))) pa_nil)))), ?_⟩)
  · obtain ⟨b, r, d, L, rl, s, rfl, _⟩ := h
    rfl
  · obtain ⟨b, r, d, L, rl, s, rfl, B, g, hr2, hs, q⟩ := h
    have p4 := g.p4
    refine ⟨_, rfl, _, rfl, b, d, L, s, rfl, B, g, fun m H1 e1 hm => ?_⟩
    refine ⟨m, rfl, ⟨_, SqL.of hm⟩, fun D hD => ?_⟩
    have ml : (membersOf d s).length ≤ d.w.people := filter_len _ _
    refine lc_list (K := K) (a := m) (xs := nats (membersOf d s)) (fun i H' => Ex H1 H' ∧ H' D = some (.lst ((((membersOf d s).take i).map fun p => hangs rl s p).map V.bl))) ⟨Ex.new hD, upd_same⟩ (fun i H' _ p => ex_l p.1 (SqL.of hm)) ?_ ?_
    · rintro i y H' hi' ⟨e, hl⟩
      obtain ⟨o, ho, rfl⟩ := nats_at hi'
      have om := mem_members.mp (List.mem_of_getElem? ho)
      refine ⟨rfl, _, rfl, _, rfl, _, rfl, r, rl, s, o, rfl, ex_l (e1.trans e) hr2, hs, by omega, _, hl, ?_, e.mut hD, ?_⟩
      · rw [List.length_map, List.length_map, List.length_take]
        exact small1000 (by omega)
      · rw [upd_same, take_more ho, List.map_append, List.map_append]
        rfl
    · rintro H' ⟨e, hl⟩
      rw [nats, List.length_map, List.take_length] at hl
      refine ⟨D, _, rfl, SqL.of hl, ?_⟩
      have z := q H' (e1.trans e)
      rw [List.all_map]
      exact z
theorem ruling_len {d : Krcg.Desk} (g : Good d) (j : Nat) : (rulingGroups d j).length ≤ 16 := Nat.le_trans (filter_len _ _) (cntG_le g)
theorem ruling_lt {d : Krcg.Desk} (g : Good d) {j s : Nat} (h : s ∈ rulingGroups d j) : s < 16 := Nat.lt_of_lt_of_le (mem_ruling.mp h).1 (cntG_le g)
def spLeast (K : PySem.W.Frag) (C : Addr) : Sp := fun vs H Q _ => ∃ (b : Addr) (d : Krcg.Desk) (L : Lay) (j : Nat), vs = [.ref b, .int (j : Int)] ∧ BookAt K C H b d L ∧ Good d ∧
  ∀ p H', Ex H H' → H' p = some (.lst (nats (Krcg.least d j))) → Q (.ref p) H'
theorem ok_least_groups (T : Txt K mg A) : FnOk P w K mg base CX0 12 A.f_least_groups A.d_least_groups ["book", "company"] (spLeast K A.C_Book) := by
  have G_needs_all := ok_needs_all (P := P) (w := w) (base := base) T
  have G_ruling_groups := ok_ruling_groups (P := P) (w := w) (base := base) T
  refine T.d_least_groups.F.ok sc_least_groups (fun vs H Q E h => ?_) (fun cdv Ar outer s H vs Q E hr h => ⟨_, (pss_cons (ps_set (i := 2) sc_least_groups.nd rfl (Or.inr rfl) (pe_call G_ruling_groups (hr.mono (by decide)) rfl T.d_ruling_groups.g T.d_ruling_groups.F.kp T.d_ruling_groups.b .nil pass0 (pa_cons (pv 0) (pa_cons (pv 1) pa_nil)))) (pss_one (ps_ret (pe_lc (own := [("group", 3)]) (g := gName 3) rfl sc_least_groups.nd (pi_list (pv 2)) (blkOk_by (N := ["book", "company", "ruling", "group"]) (sc := defScope s_least_groups) (by decide +kernel)) (fun _ _ _ _ _ => (pg_name (i := 3) sc_least_groups.nd rfl (Or.inl rfl))) (fun _ _ _ _ _ => pts_one (pt_val (pe_call G_needs_all (hr.mono (by decide)) rfl T.d_needs_all.g T.d_needs_all.F.kp T.d_needs_all.b .nil pass0 (pa_cons (pv 0) (pa_cons (pv 2) (pa_cons (pv 3) pa_nil)))))) (fun _ _ _ _ _ => (pv 3)))))), ?_⟩)
  · obtain ⟨b, d, L, j, rfl, _⟩ := h
    rfl
  · obtain ⟨b, d, L, j, rfl, B, g, q⟩ := h
    rw [← leastGroups_eq g.p4 g.Pos] at q
    refine ⟨_, rfl, _, rfl, b, d, L, j, rfl, B, g, fun r H1 e1 hr2 => ?_⟩
    refine ⟨_, rfl, r, rfl, ⟨_, SqL.of hr2⟩, fun D hD => ?_⟩
    have rl16 := ruling_len g j
    refine lc_list (K := K) (a := r) (xs := nats (rulingGroups d j)) (fun i H' => Ex H1 H' ∧ H' D = some (.lst (nats (((rulingGroups d j).take i).filter fun s => (membersOf d s).all fun p => hangs (rulingGroups d j) s p)))) ⟨Ex.new hD, upd_same⟩ (fun i H' _ p => ex_l p.1 (SqL.of hr2)) ?_ ?_
    · rintro i y H' hi' ⟨e, hl⟩
      obtain ⟨o, ho, rfl⟩ := nats_at hi'
      have ef := take_filter (p := fun s => (membersOf d s).all fun p => hangs (rulingGroups d j) s p) ho
      refine ⟨rfl, _, rfl, _, rfl, _, rfl, b, r, d, L, rulingGroups d j, o, rfl, B.ex (e1.trans e), g, ex_l e (SqL.of hr2), ruling_lt g (List.mem_of_getElem? ho), fun H2 e2 => ⟨_, rfl, ?_⟩⟩
      have hl2 := e2 _ _ hl
      cases c : ((membersOf d o).all fun p => hangs (rulingGroups d j) o p) with
      | true =>
        refine itT rfl ⟨_, rfl, _, hl2, ?_, (e.trans e2).mut hD, ?_⟩
        · rw [nats, List.length_map]
          exact small1000 (by have := take_filter_len (fun s => (membersOf d s).all fun p => hangs (rulingGroups d j) s p) (rulingGroups d j) i; omega)
        · rw [upd_same, ef, if_pos c, nats_append]
          rfl
      | false =>
        refine itF rfl ⟨e.trans e2, ?_⟩
        rw [ef, if_neg (by rw [c]; exact Bool.false_ne_true), List.append_nil]
        exact hl2
    · rintro H' ⟨e, hl⟩
      rw [nats, List.length_map, List.take_length] at hl
      exact q D H' (e1.trans e) hl
def spWeight (K : PySem.W.Frag) (C : Addr) : Sp := fun vs H Q _ => ∃ (b : Addr) (d : Krcg.Desk) (L : Lay) (p j : Nat), vs = [.ref b, .int (p : Int), .int (j : Int)] ∧ BookAt K C H b d L ∧ Good d ∧ p < d.w.people ∧
  ∀ H', Ex H H' → Q (.int ((Krcg.weight d p j : Nat) : Int)) H'
theorem ok_weight_of (T : Txt K mg A) : FnOk P w K mg base CX0 12 A.f_weight_of A.d_weight_of ["book", "person", "company"] (spWeight K A.C_Book) := by
  have G_hangs_on := ok_hangs_on (P := P) (w := w) (base := base) T
  have G_ruling_groups := ok_ruling_groups (P := P) (w := w) (base := base) T
  refine T.d_weight_of.F.ok sc_weight_of (fun vs H Q E h => ?_) (fun cdv Ar outer s H vs Q E hr h => ⟨_, (pss_cons (ps_set (i := 3) sc_weight_of.nd rfl (Or.inr rfl) (pe_call G_ruling_groups (hr.mono (by decide)) rfl T.d_ruling_groups.g T.d_ruling_groups.F.kp T.d_ruling_groups.b .nil pass0 (pa_cons (pv 0) (pa_cons (pv 2) pa_nil)))) (pss_one (ps_ret (pe_callB call_len_seq (by rfl) T.no_len PySem.boot_len (pa_cons (pe_lc (own := [("group", 4)]) (g := gName 4) rfl sc_weight_of.nd (pi_list (pv 3)) (blkOk_by (N := ["book", "person", "company", "ruling", "group"]) (sc := defScope s_weight_of) (by decide +kernel)) (fun _ _ _ _ _ => (pg_name (i := 4) sc_weight_of.nd rfl (Or.inl rfl))) (fun _ _ _ _ _ => pts_one (pt_val (pe_call G_hangs_on (hr.mono (by decide)) rfl T.d_hangs_on.g T.d_hangs_on.F.kp T.d_hangs_on.b .nil pass0 (pa_cons (pv 3) (pa_cons (pv 4) (pa_cons (pv 1) pa_nil)))))) (fun _ _ _ _ _ => (pv 4))) pa_nil))))), ?_⟩)
  · obtain ⟨b, d, L, p, j, rfl, _⟩ := h
    rfl
  · obtain ⟨b, d, L, p0, j, rfl, B, g, hp, q⟩ := h
    rw [← weightOf_eq g.p4 hp] at q
    have p4 := g.p4
    refine ⟨_, rfl, _, rfl, b, d, L, j, rfl, B, g, fun r H1 e1 hr2 => ?_⟩
    refine ⟨_, rfl, r, rfl, ⟨_, SqL.of hr2⟩, fun D hD => ?_⟩
    have rl16 := ruling_len g j
    refine lc_list (K := K) (a := r) (xs := nats (rulingGroups d j)) (fun i H' => Ex H1 H' ∧ H' D = some (.lst (nats (((rulingGroups d j).take i).filter fun s => hangs (rulingGroups d j) s p0)))) ⟨Ex.new hD, upd_same⟩ (fun i H' _ p => ex_l p.1 (SqL.of hr2)) ?_ ?_
    · rintro i y H' hi' ⟨e, hl⟩
      obtain ⟨o, ho, rfl⟩ := nats_at hi'
      have ef := take_filter (p := fun s => hangs (rulingGroups d j) s p0) ho
      refine ⟨rfl, _, rfl, _, rfl, _, rfl, r, rulingGroups d j, o, p0, rfl, ex_l e (SqL.of hr2), ruling_lt g (List.mem_of_getElem? ho), by omega, _, rfl, ?_⟩
      cases c : hangs (rulingGroups d j) o p0 with
      | true =>
        refine itT rfl ⟨_, rfl, _, hl, ?_, e.mut hD, ?_⟩
        · rw [nats, List.length_map]
          exact small1000 (by have := take_filter_len (fun s => hangs (rulingGroups d j) s p0) (rulingGroups d j) i; omega)
        · rw [upd_same, ef, if_pos c, nats_append]
          rfl
      | false =>
        refine itF rfl ⟨e, ?_⟩
        rw [ef, if_neg (by rw [c]; exact Bool.false_ne_true), List.append_nil]
        exact hl
    · rintro H' ⟨e, hl⟩
      rw [nats, List.length_map, List.take_length] at hl
      refine ⟨D, _, rfl, .inl (SqL.of hl), ?_⟩
      have z := q H' (e1.trans e)
      rw [weightOf, ← List.length_map (f := fun (n : Nat) => V.int (n : Int))] at z
      exact z
end
end Wr
/-! The search for the cheapest way, length by length. -/
namespace Wr
open Krcg
/-- what somebody has bought so far, what that costs, what is ruled then -/
structure Node where
  buys : List (Nat × Rat)
  cost : Rat
  s : List Nat
def Node.way (n : Node) : Way := ⟨n.cost, n.buys⟩
/-- n, and then w -/
def ext (n : Node) (w : Way) : Way := ⟨n.cost + w.cost, n.buys ++ w.buys⟩
/-- one more bought -/
def Node.next (d : Desk) (p : Nat) (n : Node) (i : Nat) : Node := ⟨n.buys ++ [(i, lacking d p n.s i)], n.cost + price d i * lacking d p n.s i, ruledFrom d (2 ^ p) (n.s ++ [i])⟩
def mayBuy (d : Desk) (n : Node) (i : Nat) : Bool := !n.s.contains i && decide (0 < votes d.w i)
def goes (d : Desk) (n : Node) : List Nat := (List.range d.w.firms).filter (mayBuy d n)
def onward (d : Desk) (p : Nat) (ns : List Node) : List Node := ns.flatMap fun n => (goes d n).map (n.next d p)
def cheaper (n : Node) (m : Option Node) : Bool := match m with
  | none => true
  | some b => !decide (b.cost ≤ n.cost)
def pick (j : Nat) (m : Option Node) (n : Node) : Option Node := if (n.s.contains j && cheaper n m) = true then some n else m
def picks (j : Nat) (m : Option Node) (ns : List Node) : Option Node := ns.foldl (pick j) m
def worth (j : Nat) (m : Option Node) (ns : List Node) : List Node := ns.filter fun n => !n.s.contains j && cheaper n m
def Node.comps (n : Node) : List Nat := n.buys.map Prod.fst
/-- b comes before n, be they as cheap -/
def Pre (b n : Node) : Prop := b.buys.length < n.buys.length ∨ (b.buys.length = n.buys.length ∧ lexLess b.comps n.comps = true)
theorem better_node {a b : Node} : better a.way b.way = true ↔ a.cost < b.cost ∨ (a.cost = b.cost ∧ Pre a b) := better_iff
theorem picks_spec {j : Nat} : ∀ (ns : List Node) (m : Option Node), (∀ b, m = some b → ∀ n ∈ ns, Pre b n) → ns.Pairwise Pre →
    (picks j m ns = m ∨ ∃ n ∈ ns, n.s.contains j = true ∧ picks j m ns = some n) ∧ (∀ b, m = some b → ∃ b', picks j m ns = some b' ∧ better b'.way b.way = true) ∧ (∀ n ∈ ns, n.s.contains j = true → ∃ b', picks j m ns = some b' ∧ better b'.way n.way = true)
  | [], m, _, _ => ⟨.inl rfl, fun b h => ⟨b, h, better_refl _⟩, fun _ h => nomatch h⟩
  | n :: ns, m, hm, ho => by
    have ho' := List.pairwise_cons.mp ho
    by_cases c : (n.s.contains j && cheaper n m) = true
    · have e : picks j m (n :: ns) = picks j (some n) ns := by
        show ns.foldl (pick j) (pick j m n) = _
        unfold pick
        rw [if_pos c]
        rfl
      obtain ⟨h1, h2, h3⟩ := picks_spec (j := j) ns (some n) (fun b hb x hx => by cases hb; exact ho'.1 x hx) ho'.2
      rw [Bool.and_eq_true] at c
      rw [e]
      obtain ⟨b', e1, e2⟩ := h2 n rfl
      refine ⟨.inr ?_, fun b hb => ⟨b', e1, better_trans e2 ?_⟩, fun x hx cx => ?_⟩
      · rcases h1 with h1 | ⟨x, hx, cx, h1⟩
        · exact ⟨n, .head _, c.1, h1⟩
        · exact ⟨x, .tail _ hx, cx, h1⟩
      · have c2 := c.2
        rw [hb] at c2
        have c3 : ¬ b.cost ≤ n.cost := by
          intro z
          have : (!decide (b.cost ≤ n.cost)) = true := c2
          rw [decide_eq_true z] at this
          cases this
        exact better_node.mpr (.inl (Rat.not_le.mp c3))
      · cases hx with
        | head => exact ⟨b', e1, e2⟩
        | tail _ hx => exact h3 x hx cx
    · have e : picks j m (n :: ns) = picks j m ns := by
        show ns.foldl (pick j) (pick j m n) = _
        unfold pick
        rw [if_neg c]
        rfl
      obtain ⟨h1, h2, h3⟩ := picks_spec (j := j) ns m (fun b hb x hx => hm b hb x (.tail _ hx)) ho'.2
      rw [e]
      refine ⟨?_, h2, fun x hx cx => ?_⟩
      · rcases h1 with h1 | ⟨x, hx, cx, h1⟩
        · exact .inl h1
        · exact .inr ⟨x, .tail _ hx, cx, h1⟩
      · cases hx with
        | tail _ hx => exact h3 x hx cx
        | head =>
          cases m with
          | none => exact absurd (by rw [cx]; rfl) c
          | some b =>
            obtain ⟨b', e1, e2⟩ := h2 b rfl
            refine ⟨b', e1, better_trans e2 (better_node.mpr ?_)⟩
            have hp := hm b rfl n (.head _)
            have c3 : b.cost ≤ n.cost := by
              by_cases z : b.cost ≤ n.cost
              · exact z
              · refine absurd ?_ c
                show (n.s.contains j && !decide (b.cost ≤ n.cost)) = true
                rw [cx, decide_eq_false z]
                rfl
            by_cases z : b.cost = n.cost
            · exact .inr ⟨z, hp⟩
            · exact .inl (by grind)
/-! ### what all ways share -/
theorem price_nonneg (d : Desk) (i : Nat) : 0 ≤ price d i := by
  unfold price
  exact Rat.natCast_nonneg
theorem lacking_nonneg (d : Desk) (p : Nat) (s : List Nat) (i : Nat) : 0 ≤ lacking d p s i := by
  unfold lacking
  simp only
  split
  · exact Rat.le_refl
  · rename_i h
    exact Rat.not_lt.mp h
theorem ways_nonneg {d : Desk} {p j : Nat} : ∀ (k : Nat) (s : List Nat) {w : Way}, w ∈ ways d p j k s → 0 ≤ w.cost
  | 0, s, w, h => by
    unfold ways at h
    split at h
    · rw [List.mem_singleton.mp h]; exact Rat.le_refl
    · cases h
  | k + 1, s, w, h => by
    unfold ways at h
    by_cases c : s.contains j = true
    · rw [if_pos c] at h
      rw [List.mem_singleton.mp h]; exact Rat.le_refl
    · rw [if_neg c] at h
      obtain ⟨i, _, hi⟩ := List.mem_flatMap.mp h
      obtain ⟨u, hu, rfl⟩ := List.mem_map.mp hi
      have h1 := ways_nonneg k _ hu
      have h2 := Rat.mul_nonneg (price_nonneg d i) (lacking_nonneg d p s i)
      show 0 ≤ price d i * lacking d p s i + u.cost
      grind
theorem ways_long {d : Desk} {p j : Nat} {k : Nat} {s : List Nat} {w : Way} (h : w ∈ ways d p j k s) (c : ¬ s.contains j = true) : 1 ≤ w.buys.length := by
  cases k with
  | zero =>
    unfold ways at h
    rw [if_neg c] at h
    cases h
  | succ k =>
    unfold ways at h
    rw [if_neg c] at h
    obtain ⟨i, _, hi⟩ := List.mem_flatMap.mp h
    obtain ⟨u, hu, rfl⟩ := List.mem_map.mp hi
    show 1 ≤ (_ :: u.buys).length
    rw [List.length_cons]
    omega
theorem ways_here {d : Desk} {p j k : Nat} {s : List Nat} (c : s.contains j = true) : ways d p j k s = [⟨0, []⟩] := by
  cases k with
  | zero => unfold ways; rw [if_pos c]
  | succ k => unfold ways; rw [if_pos c]
theorem ext_here (n : Node) : ext n ⟨0, []⟩ = n.way := by
  unfold ext Node.way
  simp only [List.append_nil, Rat.add_zero]
theorem ext_next {d : Desk} {p : Nat} {n : Node} {i : Nat} {w : Way} : ext (n.next d p i) w = ext n ⟨price d i * lacking d p n.s i + w.cost, (i, lacking d p n.s i) :: w.buys⟩ := by
  unfold ext Node.next
  simp only [List.append_assoc, Rat.add_assoc]
  rfl
/-! ### the order of ways of one length -/
def Bef (a b : Node) : Prop := a.buys.length = b.buys.length ∧ lexLess a.comps b.comps = true ∧ a.comps ≠ b.comps
theorem Bef.pre {a b : Node} (h : Bef a b) : Pre a b := .inr ⟨h.1, h.2.1⟩
theorem lex_app : ∀ {l m x y : List Nat}, l.length = m.length → l ≠ m → lexLess l m = true → lexLess (l ++ x) (m ++ y) = true
  | [], [], _, _, _, h, _ => absurd rfl h
  | [], _ :: _, _, _, h, _, _ => by cases h
  | _ :: _, [], _, _, h, _, _ => by cases h
  | a :: l, b :: m, x, y, hl, hn, h => by
    show lexLess (a :: (l ++ x)) (b :: (m ++ y)) = true
    rw [lex_cons] at h ⊢
    rcases h with h | ⟨rfl, h⟩
    · exact .inl h
    · refine .inr ⟨rfl, lex_app (by simpa using hl) (fun z => hn (by rw [z])) h⟩
theorem lex_same : ∀ {l x y : List Nat}, lexLess x y = true → lexLess (l ++ x) (l ++ y) = true
  | [], _, _, h => h
  | a :: l, x, y, h => by
    show lexLess (a :: (l ++ x)) (a :: (l ++ y)) = true
    rw [lex_cons]
    exact .inr ⟨rfl, lex_same h⟩
theorem next_comps (d : Desk) (p : Nat) (n : Node) (i : Nat) : (n.next d p i).comps = n.comps ++ [i] := by
  unfold Node.next Node.comps
  simp only [List.map_append]
  rfl
theorem next_len (d : Desk) (p : Nat) (n : Node) (i : Nat) : (n.next d p i).buys.length = n.buys.length + 1 := by
  unfold Node.next
  simp only [List.length_append]
  rfl
theorem comps_len (n : Node) : n.comps.length = n.buys.length := List.length_map _
theorem bef_next {d : Desk} {p : Nat} {a b : Node} {i k : Nat} (h : Bef a b) : Bef (a.next d p i) (b.next d p k) := by
  refine ⟨?_, ?_, ?_⟩
  · rw [next_len, next_len, h.1]
  · rw [next_comps, next_comps]
    exact lex_app (by rw [comps_len, comps_len]; exact h.1) h.2.2 h.2.1
  · rw [next_comps, next_comps]
    intro z
    exact h.2.2 (List.append_inj' z rfl).1
theorem bef_own {d : Desk} {p : Nat} {a : Node} {i k : Nat} (h : i < k) : Bef (a.next d p i) (a.next d p k) := by
  refine ⟨?_, ?_, ?_⟩
  · rw [next_len, next_len]
  · rw [next_comps, next_comps]
    exact lex_same (lex_cons.mpr (.inl h))
  · rw [next_comps, next_comps]
    intro z
    have := (List.append_inj' z rfl).2
    injection this with z1
    omega
theorem onward_cons (d : Desk) (p : Nat) (n : Node) (ns : List Node) : onward d p (n :: ns) = (goes d n).map (n.next d p) ++ onward d p ns := List.flatMap_cons
theorem onward_ord {d : Desk} {p : Nat} : ∀ {ns : List Node}, ns.Pairwise Bef → (onward d p ns).Pairwise Bef
  | [], _ => .nil
  | n :: ns, h => by
    have h' := List.pairwise_cons.mp h
    rw [onward_cons, List.pairwise_append]
    refine ⟨?_, onward_ord h'.2, ?_⟩
    · rw [List.pairwise_map]
      exact (List.pairwise_lt_range.filter _).imp fun z => bef_own z
    · intro a ha b hb
      obtain ⟨i, _, rfl⟩ := List.mem_map.mp ha
      obtain ⟨n', hn', hb'⟩ := List.mem_flatMap.mp hb
      obtain ⟨k, _, rfl⟩ := List.mem_map.mp hb'
      exact bef_next (h'.1 n' hn')
theorem onward_len {d : Desk} {p : Nat} : ∀ (ns : List Node), (onward d p ns).length ≤ d.w.firms * ns.length
  | [] => Nat.zero_le _
  | n :: ns => by
    rw [onward_cons, List.length_append, List.length_map, List.length_cons, Nat.mul_add, Nat.mul_one]
    have h1 : (goes d n).length ≤ d.w.firms := (canon_filter d.w.firms (mayBuy d n)).length
    have h2 := onward_len (d := d) (p := p) ns
    omega
theorem mem_goes {d : Desk} {n : Node} {i : Nat} : i ∈ goes d n ↔ i < d.w.firms ∧ i ∉ n.s ∧ 0 < votes d.w i := by
  unfold goes mayBuy
  rw [List.mem_filter, List.mem_range, Bool.and_eq_true, Bool.not_eq_true', ← Bool.not_eq_true, List.contains_iff_mem, decide_eq_true_eq]
/-! ### the search -/
def tot (d : Desk) (p j : Nat) : List Way := ways d p j d.w.firms (ruled d (2 ^ p))
structure Srch (d : Desk) (p j : Nat) (t f : Nat) (m : Option Node) (ns : List Node) : Prop where
  len : ∀ n ∈ ns, n.buys.length = t
  canon : ∀ n ∈ ns, Canon d.w.firms n.s
  room : ∀ n ∈ ns, d.w.firms ≤ n.s.length + f
  ord : ns.Pairwise Bef
  mem : ∀ n ∈ ns, ∀ w ∈ ways d p j f n.s, ext n w ∈ tot d p j
  best : ∀ b, m = some b → b.way ∈ tot d p j ∧ b.buys.length < t
  all : ∀ y ∈ tot d p j, (∃ b, m = some b ∧ better b.way y = true) ∨ ∃ n ∈ ns, ∃ w ∈ ways d p j f n.s, y = ext n w
def node0 (d : Desk) (p : Nat) : Node := ⟨[], 0, ruled d (2 ^ p)⟩
theorem ext_zero (d : Desk) (p : Nat) (w : Way) : ext (node0 d p) w = w := by
  unfold ext node0
  simp only [List.nil_append, Rat.zero_add]
theorem Srch.start (d : Desk) (p j : Nat) : Srch d p j 0 d.w.firms none [node0 d p] where
  len := fun n h => by rw [List.mem_singleton.mp h]; rfl
  canon := fun n h => by rw [List.mem_singleton.mp h]; exact ruledFrom_canon d (2 ^ p) []
  room := fun n h => Nat.le_add_left _ _
  ord := List.pairwise_singleton _ _
  mem := fun n h w hw => by
    rw [List.mem_singleton.mp h] at hw ⊢
    rw [ext_zero]
    exact hw
  best := fun b h => nomatch h
  all := fun y hy => .inr ⟨_, .head _, y, hy, (ext_zero d p y).symm⟩
theorem full_has {n j : Nat} {s : List Nat} (c : Canon n s) (h : n ≤ s.length) (hj : j < n) : s.contains j = true := by
  have e : s = List.range n := by
    have sl : s.Sublist (List.range n) := by
      conv => lhs; rw [c]
      exact List.filter_sublist
    exact sl.eq_of_length_le (by rw [List.length_range]; omega)
  rw [List.contains_iff_mem, e]
  exact List.mem_range.mpr hj
theorem Srch.fuel {d : Desk} {p j t f : Nat} {m : Option Node} {ns : List Node} (S : Srch d p j t f m ns) (hj : j < d.w.firms) {n : Node} (h : n ∈ ns) (c : n.s.contains j = false) : 1 ≤ f := by
  rcases Nat.eq_zero_or_pos f with e | e
  · have := full_has (S.canon n h) (by have := S.room n h; omega) hj
    rw [c] at this
    cases this
  · exact e
theorem mem_worth {j : Nat} {m : Option Node} {ns : List Node} {n : Node} : n ∈ worth j m ns ↔ n ∈ ns ∧ n.s.contains j = false ∧ cheaper n m = true := by
  unfold worth
  rw [List.mem_filter, Bool.and_eq_true, Bool.not_eq_true']
theorem Srch.step {d : Desk} {p j t f : Nat} {m : Option Node} {ns : List Node} (S : Srch d p j t f m ns) (hj : j < d.w.firms) : Srch d p j (t + 1) (f - 1) (picks j m ns) (onward d p (worth j (picks j m ns) ns)) := by
  have ps := picks_spec (j := j) ns m (fun b hb n hn => .inl (by rw [S.len n hn]; exact (S.best b hb).2)) (S.ord.imp Bef.pre)
  generalize picks j m ns = m' at ps ⊢
  obtain ⟨h1, h2, h3⟩ := ps
  have kid : ∀ x ∈ onward d p (worth j m' ns), ∃ n ∈ ns, n.s.contains j = false ∧ ∃ i, i ∈ goes d n ∧ x = n.next d p i := fun x hx => by
    obtain ⟨n, hn, hx'⟩ := List.mem_flatMap.mp hx
    obtain ⟨i, hi, rfl⟩ := List.mem_map.mp hx'
    obtain ⟨a, b, _⟩ := mem_worth.mp hn
    exact ⟨n, a, b, i, hi, rfl⟩
  have open_ : ∀ n ∈ ns, n.s.contains j = false → ∀ w, w ∈ ways d p j f n.s ↔ ∃ i ∈ goes d n, ∃ u ∈ ways d p j (f - 1) (n.next d p i).s, w = ⟨price d i * lacking d p n.s i + u.cost, (i, lacking d p n.s i) :: u.buys⟩ := fun n hn c w => by
    have f1 := S.fuel hj hn c
    obtain ⟨g, rfl⟩ : ∃ g, f = g + 1 := ⟨f - 1, by omega⟩
    have c' : ¬ n.s.contains j = true := by rw [c]; exact Bool.false_ne_true
    conv => lhs; unfold ways
    rw [if_neg c', List.mem_flatMap]
    constructor
    · rintro ⟨i, hi, hw⟩
      obtain ⟨u, hu, rfl⟩ := List.mem_map.mp hw
      exact ⟨i, hi, u, hu, rfl⟩
    · rintro ⟨i, hi, u, hu, rfl⟩
      exact ⟨i, hi, List.mem_map.mpr ⟨u, hu, rfl⟩⟩
  refine ⟨?_, ?_, ?_, ?_, ?_, ?_, ?_⟩
  · intro x hx
    obtain ⟨n, hn, _, i, _, rfl⟩ := kid x hx
    rw [next_len, S.len n hn]
  · intro x hx
    obtain ⟨n, hn, _, i, _, rfl⟩ := kid x hx
    exact ruledFrom_canon d (2 ^ p) _
  · intro x hx
    obtain ⟨n, hn, c, i, hi, rfl⟩ := kid x hx
    obtain ⟨i1, i2, _⟩ := mem_goes.mp hi
    have g1 : n.s.length + 1 ≤ (n.next d p i).s.length := ruledFrom_grow (ps := 2 ^ p) (S.canon n hn) i1 i2
    have g2 := S.room n hn
    have g3 := S.fuel hj hn c
    omega
  · exact onward_ord (S.ord.filter _)
  · intro x hx w hw
    obtain ⟨n, hn, c, i, hi, rfl⟩ := kid x hx
    rw [ext_next]
    exact S.mem n hn _ ((open_ n hn c _).mpr ⟨i, hi, w, hw, rfl⟩)
  · intro b hb
    rcases h1 with h1 | ⟨n, hn, cn, h1⟩
    · have q := S.best b (h1 ▸ hb)
      exact ⟨q.1, Nat.lt_succ_of_lt q.2⟩
    · rw [h1] at hb
      cases hb
      refine ⟨?_, by rw [S.len _ hn]; exact Nat.lt_succ_self _⟩
      have q := S.mem _ hn ⟨0, []⟩ (by rw [ways_here cn]; exact .head _)
      rw [ext_here] at q
      exact q
  · intro y hy
    rcases S.all y hy with ⟨b, hb, q⟩ | ⟨n, hn, w, hw, rfl⟩
    · obtain ⟨b', e1, e2⟩ := h2 b hb
      exact .inl ⟨b', e1, better_trans e2 q⟩
    · cases c : n.s.contains j with
      | true =>
        rw [ways_here c] at hw
        rw [List.mem_singleton.mp hw, ext_here]
        exact .inl (h3 n hn c)
      | false =>
        cases c2 : cheaper n m' with
        | true =>
          right
          obtain ⟨i, hi, u, hu, rfl⟩ := (open_ n hn c w).mp hw
          refine ⟨n.next d p i, List.mem_flatMap.mpr ⟨n, mem_worth.mpr ⟨hn, c, c2⟩, List.mem_map.mpr ⟨i, hi, rfl⟩⟩, u, hu, ext_next.symm⟩
        | false =>
          left
          cases m' with
          | none => cases c2
          | some b =>
            have c3 : (!decide (b.cost ≤ n.cost)) = false := c2
            rw [Bool.not_eq_false', decide_eq_true_eq] at c3
            refine ⟨b, rfl, better_iff.mpr ?_⟩
            have w0 := ways_nonneg _ _ hw
            have wl := ways_long hw (by rw [c]; exact Bool.false_ne_true)
            have bl : b.buys.length ≤ t := by
              rcases h1 with h1 | ⟨x, hx, _, h1⟩
              · exact Nat.le_of_lt (S.best b h1.symm).2
              · cases h1
                exact Nat.le_of_eq (S.len _ hx)
            have nl := S.len n hn
            have el : (ext n w).buys.length = n.buys.length + w.buys.length := List.length_append
            have ec : (ext n w).cost = n.cost + w.cost := rfl
            have eb : b.way.cost = b.cost := rfl
            have ebl : b.way.buys.length = b.buys.length := rfl
            rw [ec, el, eb, ebl]
            by_cases z : b.cost = n.cost + w.cost
            · exact .inr ⟨z, .inl (by omega)⟩
            · exact .inl (by grind)
theorem Srch.done {d : Desk} {p j t f : Nat} {m : Option Node} (S : Srch d p j t f m []) : cheapest d p j = m.map Node.way := by
  have al : ∀ y ∈ tot d p j, ∃ b, m = some b ∧ better b.way y = true := fun y hy => by
    rcases S.all y hy with h | ⟨n, hn, _⟩
    · exact h
    · cases hn
  cases m with
  | some b =>
    refine cheapest_eq (S.best b rfl).1 (fun y hy => ?_)
    obtain ⟨b', e, q⟩ := al y hy
    cases e
    exact q
  | none =>
    have e : tot d p j = [] := by
      cases c : tot d p j with
      | nil => rfl
      | cons y r =>
        obtain ⟨b, z, _⟩ := al y (by rw [c]; exact .head _)
        cases z
    show Krcg.best (tot d p j) = none
    rw [e]
    rfl
end Wr
/-! The defs of buying.py: how a way lies in the heap; one way more. -/
namespace Wr
open PySem PySem.Spec PyProof.Rows L2
open Evl (Ex ex_l ex_t)
def wayF (bl ca rl : Addr) : List (Str × V) := [("bought", .ref bl), ("cost", .ref ca), ("ruled", .ref rl)]
theorem wayF_bought {bl ca rl : Addr} : (wayF bl ca rl).lookup ("bought" : Str) = some (.ref bl) := lk_here
theorem wayF_cost {bl ca rl : Addr} : (wayF bl ca rl).lookup ("cost" : Str) = some (.ref ca) := (lk_past (by decide +kernel)).trans lk_here
theorem wayF_ruled {bl ca rl : Addr} : (wayF bl ca rl).lookup ("ruled" : Str) = some (.ref rl) := (lk_past (by decide +kernel)).trans ((lk_past (by decide +kernel)).trans lk_here)
theorem wayF_new {bl ca rl : Addr} : putF "ruled" (.ref rl) (putF "cost" (.ref ca) (putF "bought" (.ref bl) [])) = wayF bl ca rl := by
  have n1 : ¬ ("bought" : Str) = "cost" := by decide +kernel
  have n2 : ¬ ("bought" : Str) = "ruled" := by decide +kernel
  have n3 : ¬ ("cost" : Str) = "ruled" := by decide +kernel
  simp only [putF, if_neg n1, if_neg n2, if_neg n3]
  rfl
theorem sqT_upd {K : PySem.W.Frag} {H : Hp} {c r : Addr} {ys xs : List V} {o : HO} (hr : H r = some (.lst xs)) (h : SqT K H c ys) : SqT K (L2.upd H r o) c ys := by
  rcases h with (h | ⟨u, h⟩) | h
  · exact .inl (.inl (by rw [upd_ne (ne_of h hr (fun z => nomatch z))]; exact h))
  · exact .inl (.inr ⟨u, by rw [upd_ne (ne_of h hr (fun z => nomatch z))]; exact h⟩)
  · exact .inr h
/-- what was bought: pairs of a company and a part -/
structure Bought (K : PySem.W.Frag) (H : Hp) (ts : List Addr) (bs : List (Nat × Rat)) : Prop where
  len : ts.length = bs.length
  at_ : ∀ (i : Nat) (t : Addr) (b : Nat × Rat), ts[i]? = some t → bs[i]? = some b → ∃ sh : Addr, SqT K H t [.int (b.1 : Int), .ref sh] ∧ Fr K H sh b.2
theorem Bought.ex {K : PySem.W.Frag} {H H' : Hp} {ts : List Addr} {bs : List (Nat × Rat)} (e : Ex H H') (B : Bought K H ts bs) : Bought K H' ts bs :=
  ⟨B.len, fun i t b h1 h2 => by
    obtain ⟨sh, q1, q2⟩ := B.at_ i t b h1 h2
    exact ⟨sh, ex_t e q1, q2.ex e⟩⟩
theorem Bought.updL {K : PySem.W.Frag} {H : Hp} {r : Addr} {xs : List V} {o : HO} {ts : List Addr} {bs : List (Nat × Rat)} (hr : H r = some (.lst xs)) (B : Bought K H ts bs) : Bought K (L2.upd H r o) ts bs :=
  ⟨B.len, fun i t b h1 h2 => by
    obtain ⟨sh, q1, q2⟩ := B.at_ i t b h1 h2
    exact ⟨sh, sqT_upd hr q1, q2.upd hr⟩⟩
theorem app_at {α : Type} {l : List α} {x y : α} {i : Nat} (h : (l ++ [x])[i]? = some y) : l[i]? = some y ∨ (i = l.length ∧ y = x) := by
  rcases Nat.lt_trichotomy i l.length with c | c | c
  · rw [List.getElem?_append_left c] at h
    exact .inl h
  · rw [c, List.getElem?_append_right (Nat.le_refl _), Nat.sub_self] at h
    exact .inr ⟨c, (Option.some.inj h).symm⟩
  · rw [List.getElem?_eq_none (by rw [List.length_append, List.length_cons, List.length_nil]; omega)] at h
    cases h
theorem at_lt {α : Type} {l : List α} {x : α} {i : Nat} (h : l[i]? = some x) : i < l.length := (List.getElem?_eq_some_iff.mp h).1
theorem Bought.app {K : PySem.W.Frag} {H : Hp} {ts : List Addr} {bs : List (Nat × Rat)} {t : Addr} {b : Nat × Rat} (B : Bought K H ts bs) (h : ∃ sh : Addr, SqT K H t [.int (b.1 : Int), .ref sh] ∧ Fr K H sh b.2) : Bought K H (ts ++ [t]) (bs ++ [b]) := by
  refine ⟨by rw [List.length_append, List.length_append, B.len]; rfl, fun i t' b' h1 h2 => ?_⟩
  rcases app_at h1 with h1 | ⟨e1, rfl⟩
  · rcases app_at h2 with h2 | ⟨e2, rfl⟩
    · exact B.at_ i t' b' h1 h2
    · have := at_lt h1
      have := B.len
      omega
  · rcases app_at h2 with h2 | ⟨e2, rfl⟩
    · have := at_lt h2
      have := B.len
      omega
    · exact h
/-- where a way's parts lie -/
structure WLay where
  dx : Addr
  bl : Addr
  ca : Addr
  rl : Addr
  ts : List Addr
structure WayAt (K : PySem.W.Frag) (C : Addr) (H : Hp) (a : Addr) (n : Node) (W : WLay) : Prop where
  ins : H a = some (.ins C W.dx (wayF W.bl W.ca W.rl))
  lbl : H W.bl = some (.lst (W.ts.map V.ref))
  bt : Bought K H W.ts n.buys
  cost : Fr K H W.ca n.cost
  lrl : H W.rl = some (.lst (nats n.s))
theorem WayAt.ex {K : PySem.W.Frag} {C : Addr} {H H' : Hp} {a : Addr} {n : Node} {W : WLay} (e : Ex H H') (B : WayAt K C H a n W) : WayAt K C H' a n W := ⟨e _ _ B.ins, e _ _ B.lbl, B.bt.ex e, B.cost.ex e, e _ _ B.lrl⟩
def Way0 (K : PySem.W.Frag) (C : Addr) (H : Hp) (a : Addr) (n : Node) : Prop := ∃ W, WayAt K C H a n W
theorem Way0.ex {K : PySem.W.Frag} {C : Addr} {H H' : Hp} {a : Addr} {n : Node} (e : Ex H H') (B : Way0 K C H a n) : Way0 K C H' a n := B.elim fun W h => ⟨W, h.ex e⟩
/-- none of its lists lies at D -/
def Way1 (K : PySem.W.Frag) (C : Addr) (H : Hp) (D a : Addr) (n : Node) : Prop := ∃ W, WayAt K C H a n W ∧ W.bl ≠ D ∧ W.rl ≠ D
theorem Way1.ex {K : PySem.W.Frag} {C : Addr} {H H' : Hp} {D a : Addr} {n : Node} (e : Ex H H') (B : Way1 K C H D a n) : Way1 K C H' D a n := B.elim fun W h => ⟨W, h.1.ex e, h.2⟩
theorem Way1.updL {K : PySem.W.Frag} {C : Addr} {H : Hp} {D a : Addr} {n : Node} {xs : List V} {o : HO} (hD : H D = some (.lst xs)) (B : Way1 K C H D a n) : Way1 K C (L2.upd H D o) D a n := by
  obtain ⟨W, h, h1, h2⟩ := B
  refine ⟨W, ⟨?_, ?_, h.bt.updL hD, h.cost.upd hD, ?_⟩, h1, h2⟩
  · rw [upd_ne (ne_of h.ins hD (fun z => nomatch z))]
    exact h.ins
  · rw [upd_ne h1]
    exact h.lbl
  · rw [upd_ne h2]
    exact h.lrl
/-- ways, one beside another -/
structure WaysAt (R : Addr → Node → Prop) (as : List Addr) (ns : List Node) : Prop where
  len : as.length = ns.length
  at_ : ∀ (i : Nat) (a : Addr) (n : Node), as[i]? = some a → ns[i]? = some n → R a n
theorem WaysAt.imp {R S : Addr → Node → Prop} {as : List Addr} {ns : List Node} (h : WaysAt R as ns) (k : ∀ a n, R a n → S a n) : WaysAt S as ns := ⟨h.len, fun i a n h1 h2 => k a n (h.at_ i a n h1 h2)⟩
theorem WaysAt.nil (R : Addr → Node → Prop) : WaysAt R [] [] := ⟨rfl, fun i a n h _ => by simp at h⟩
theorem WaysAt.app {R : Addr → Node → Prop} {as : List Addr} {ns : List Node} {a : Addr} {n : Node} (h : WaysAt R as ns) (k : R a n) : WaysAt R (as ++ [a]) (ns ++ [n]) := by
  refine ⟨by rw [List.length_append, List.length_append, h.len]; rfl, fun i a' n' h1 h2 => ?_⟩
  rcases app_at h1 with h1 | ⟨e1, rfl⟩
  · rcases app_at h2 with h2 | ⟨e2, rfl⟩
    · exact h.at_ i a' n' h1 h2
    · have := at_lt h1
      have := h.len
      omega
  · rcases app_at h2 with h2 | ⟨e2, rfl⟩
    · have := at_lt h2
      have := h.len
      omega
    · exact k
theorem WaysAt.get {R : Addr → Node → Prop} {as : List Addr} {ns : List Node} {i : Nat} {a : Addr} (h : WaysAt R as ns) (ha : as[i]? = some a) : ∃ n, ns[i]? = some n ∧ R a n := by
  have l : i < ns.length := by rw [← h.len]; exact at_lt ha
  exact ⟨_, List.getElem?_eq_getElem l, h.at_ i a _ ha (List.getElem?_eq_getElem l)⟩
theorem refs_at {l : List Addr} {i : Nat} {y : V} (h : (l.map V.ref)[i]? = some y) : ∃ a, l[i]? = some a ∧ y = V.ref a := by
  rw [List.getElem?_map] at h
  cases e : l[i]? with
  | none =>
    rw [e] at h
    cases h
  | some z =>
    rw [e] at h
    exact ⟨z, rfl, (Option.some.inj h).symm⟩
/-! ### sizes -/
structure NOk (d : Krcg.Desk) (n : Node) : Prop where
  canon : Canon d.w.firms n.s
  len : n.buys.length ≤ n.s.length
  sm : Sm (1 + 210 * n.buys.length) n.cost
theorem NOk.l5 {d : Krcg.Desk} {n : Node} (g : Good d) (h : NOk d n) : n.buys.length ≤ 5 := by
  have := h.len
  have := h.canon.length
  have := g.f5
  omega
theorem NOk.s5 {d : Krcg.Desk} {n : Node} (g : Good d) (h : NOk d n) : n.s.length ≤ 5 := by
  have := h.canon.length
  have := g.f5
  omega
theorem NOk.sm2 {d : Krcg.Desk} {n : Node} (g : Good d) (h : NOk d n) : Sm 2000 n.cost := h.sm.mono (by have := h.l5 g; omega)
theorem price_sm {d : Krcg.Desk} (g : Good d) (i : Nat) : Sm 10 (Krcg.price d i) := by
  unfold Krcg.price
  refine sm_nat ?_ (by omega)
  rw [List.getD_eq_getElem?_getD]
  cases e : d.prices[i]? with
  | none => show 0 < 2 ^ 10; decide
  | some x =>
    have := g.pm x (List.mem_of_getElem? e)
    show x < 2 ^ 10
    omega
theorem NOk.next {d : Krcg.Desk} {n : Node} {p i : Nat} (g : Good d) (h : NOk d n) (hp : p < d.w.people) (hi : i < d.w.firms) (hn : i ∉ n.s) : NOk d (n.next d p i) where
  canon := ruledFrom_canon d (2 ^ p) _
  len := by
    rw [next_len]
    have q : n.s.length + 1 ≤ (n.next d p i).s.length := ruledFrom_grow (ps := 2 ^ p) h.canon hi hn
    have := h.len
    omega
  sm := by
    rw [next_len]
    exact (sm_add h.sm (sm_mul (price_sm g i) (lack_sm g hp (by have := h.s5 g; omega)))).mono (by omega)
section
variable {P : Program} {w : PySem.World} {K : PySem.W.Frag} {mg : Str → Option Value} {base : Heap} {A : Ad}
def spWayInit (C : Addr) : Sp := fun vs H Q _ => ∃ (x dx bl ca rl : Addr), vs = [.ref x, .ref bl, .ref ca, .ref rl] ∧ H x = some (.ins C dx []) ∧
  ∀ H', H' x = some (.ins C dx (wayF bl ca rl)) → (∀ b o, H b = some o → b ≠ x → H' b = some o) → Q .non H'
theorem ok_Way_init (T : Txt K mg A) : FnOk P w K mg base CX0 1 A.f_Way_init A.d_Way_init ["self", "bought", "cost", "ruled"] (spWayInit A.C_Way) := by
  refine T.d_Way_init.F.ok sc_Way_init (fun vs H Q E h => ?_) (fun cdv Ar outer s H vs Q E hr h => ⟨_, (pss_cons (ps_fld (pv 0) (pv 1) rfl) (pss_cons (ps_fld (pv 0) (pv 2) rfl) (pss_one (ps_fld (pv 0) (pv 3) rfl)))), ?_⟩)
  · obtain ⟨x, dx, bl, ca, rl, rfl, _⟩ := h
    rfl
  · obtain ⟨x, dx, bl, ca, rl, rfl, hx, q⟩ := h
    refine ⟨_, rfl, _, rfl, x, A.C_Way, dx, _, rfl, hx, T.c_Way, T.n_Way_bought, (by show 0 < 1000; decide), ?_⟩
    refine ⟨_, rfl, _, rfl, x, A.C_Way, dx, _, rfl, upd_same, T.c_Way, T.n_Way_cost, (by show 1 < 1000; decide), ?_⟩
    refine ⟨_, rfl, _, rfl, x, A.C_Way, dx, _, rfl, upd_same, T.c_Way, T.n_Way_ruled, (by show 2 < 1000; decide), ?_⟩
    refine q _ ?_ fun b o hb hne => ?_
    · rw [upd_same, wayF_new]
    · rw [upd_ne hne, upd_ne hne, upd_ne hne]
      exact hb
theorem fr_nat {H : Hp} {t : Addr} {x : Nat} (h : H t = some (.tup [V.int (x : Int), V.int 1])) : Fr K H t (x : Rat) := SqT.of h
def spWayWith (K : PySem.W.Frag) (C CW : Addr) : Sp := fun vs H Q _ => ∃ (b a : Addr) (d : Krcg.Desk) (L : Lay) (p0 j : Nat) (n : Node), vs = [.ref b, .int (p0 : Int), .ref a, .int (j : Int)] ∧ BookAt K C H b d L ∧ Good d ∧ Way0 K CW H a n ∧ NOk d n ∧ p0 < d.w.people ∧ j < d.w.firms ∧ j ∉ n.s ∧
  ∀ x H', Ex H H' → (∀ D o, H D = some o → Way1 K CW H' D x (n.next d p0 j)) → Q (.ref x) H'
theorem ok_way_with (T : Txt K mg A) : FnOk P w K mg base CX0 9 A.f_way_with A.d_way_with ["book", "person", "way", "company"] (spWayWith K A.C_Book A.C_Way) := by
  have G_Way_init := ok_Way_init (P := P) (w := w) (base := base) T
  have G_ruled_from := ok_ruled_from (P := P) (w := w) (base := base) T
  have G_plus := ok_plus (P := P) (w := w) (base := base) T
  have G_times := ok_times (P := P) (w := w) (base := base) T
  have G_lack_of := ok_lack_of (P := P) (w := w) (base := base) T
  refine T.d_way_with.F.ok sc_way_with (fun vs H Q E h => ?_) (fun cdv Ar outer s H vs Q E hr h => ⟨_, (pss_cons (ps_set (i := 4) sc_way_with.nd rfl (Or.inl rfl) (pe_call G_lack_of (hr.mono (by decide)) rfl T.d_lack_of.g T.d_lack_of.F.kp T.d_lack_of.b .nil pass0 (pa_cons (pv 0) (pa_cons (pv 1) (pa_cons (pe_fld (pv 2) rfl) (pa_cons (pv 3) pa_nil)))))) (pss_cons (ps_set (i := 5) sc_way_with.nd rfl (Or.inl rfl) (pe_call G_plus (hr.mono (by decide)) rfl T.d_plus.g T.d_plus.F.kp T.d_plus.b .nil pass0 (pa_cons (pe_fld (pv 2) rfl) (pa_cons (pe_call G_times (hr.mono (by decide)) rfl T.d_times.g T.d_times.F.kp T.d_times.b .nil pass0 (pa_cons (pe_tup (pa_cons (pe_ix ix_list (pe_fld (pv 0) rfl) (pv 3) (fun _ _ => rfl)) (pa_cons pe_int pa_nil))) (pa_cons (pv 4) pa_nil))) pa_nil)))) (pss_cons (ps_set (i := 6) sc_way_with.nd rfl (Or.inl rfl) (pe_call G_ruled_from (hr.mono (by decide)) rfl T.d_ruled_from.g T.d_ruled_from.F.kp T.d_ruled_from.b .nil pass0 (pa_cons (pv 0) (pa_cons (pe_lst (pa_cons (pv 1) pa_nil)) (pa_cons (pe_op op_cat (pe_fld (pv 2) rfl) (pe_lst (pa_cons (pv 3) pa_nil))) pa_nil))))) (pss_one (ps_ret (pe_make T.mk_Way G_Way_init (hr.mono (by decide)) rfl T.g_Way T.d_Way_init.b .nil pass0 (pa_cons (pe_op op_cat (pe_fld (pv 2) rfl) (pe_lst (pa_cons (pe_tup (pa_cons (pv 3) (pa_cons (pv 4) pa_nil))) pa_nil))) (pa_cons (pv 5) (pa_cons (pv 6) pa_nil))))))))), ?_⟩)
  · obtain ⟨b, a, d, L, p0, j, n, rfl, _⟩ := h
    rfl
  · obtain ⟨b, a, d, L, p0, j, n, rfl, B, g, ⟨W, wa⟩, nk, hp, hj, hn, q⟩ := h
    have s5 := nk.s5 g
    have l5 := nk.l5 g
    have nl : ∀ i ∈ n.s, i < d.w.firms := fun i m => nk.canon.lt m
    refine ⟨_, rfl, _, rfl, _, rfl, _, _, _, _, _, rfl, wa.ins, T.c_Way, T.n_Way_ruled, wayF_ruled, _, rfl, b, W.rl, d, L, p0, n.s, j, rfl, B, g, SqL.of wa.lrl, hp, nl, by omega, hj, fun sh H1 e1 fsh => ?_⟩
    -- cost
    have pj : j < d.prices.length := by rw [g.pl]; exact hj
    have hpr := List.getElem?_eq_getElem pj
    have epr : Krcg.price d j = ((d.prices[j] : Nat) : Rat) := by
      unfold Krcg.price
      rw [List.getD_eq_getElem?_getD, hpr]
      rfl
    have wa1 := wa.ex e1
    refine ⟨_, rfl, _, _, _, _, _, rfl, wa1.ins, T.c_Way, T.n_Way_cost, wayF_cost, ?_⟩
    refine ⟨_, rfl, _, _, _, _, _, rfl, (B.ex e1).ins, T.c_Book, T.n_Book_prices, bookF_prices, _, rfl, _, _, _, _, rfl, rfl, SqL.of (B.ex e1).lpr, atI_nat (map_at hpr), by show 2 ≤ sizeLine; decide, fun t ht => ?_⟩
    have et := Ex.new (o := .tup [V.int ((d.prices[j] : Nat) : Int), V.int 1]) ht
    refine ⟨_, rfl, t, sh, ((d.prices[j] : Nat) : Rat), _, 10, 190, rfl, fr_nat upd_same, fsh.ex et, ?_, lack_sm g hp (by omega), by omega, fun m H2 e2 fm => ?_⟩
    · rw [← epr]
      exact price_sm g j
    rw [← epr] at fm
    have e12 := (e1.trans et).trans e2
    have wa2 := wa.ex e12
    refine ⟨W.ca, m, n.cost, _, 1 + 210 * n.buys.length, 200, rfl, wa2.cost, fm, nk.sm, sm_mul (price_sm g j) (lack_sm g hp (by omega)), by omega, fun c H3 e3 fc => ?_⟩
    have e13 := e12.trans e3
    have wa3 := wa.ex e13
    -- ruled
    refine ⟨_, rfl, _, rfl, by show 1 ≤ sizeLine; decide, fun z hz => ?_⟩
    have ez := e13.trans (Ex.new (o := .lst [V.int (p0 : Int)]) hz)
    refine ⟨_, rfl, _, _, _, _, _, rfl, (wa.ex ez).ins, T.c_Way, T.n_Way_ruled, wayF_ruled, _, rfl, by show 1 ≤ sizeLine; decide, fun y hy => ?_⟩
    have ey := ez.trans (Ex.new (o := .lst [V.int (j : Int)]) hy)
    refine ⟨W.rl, y, _, _, rfl, rfl, (wa.ex ey).lrl, upd_same, ?_, fun x hx => ?_⟩
    · rw [nats, List.length_map]
      exact Nat.le_of_lt (small1000 (by rw [List.length_cons, List.length_nil]; omega))
    have en : nats n.s ++ [V.int (j : Int)] = nats (n.s ++ [j]) := (nats_append n.s [j]).symm
    rw [en]
    have ex := ey.trans (Ex.new (o := .lst (nats (n.s ++ [j]))) hx)
    have sz : SqL K _ z [V.int (p0 : Int)] := SqL.of (Ex.new (o := .lst (nats (n.s ++ [j]))) hx _ _ (Ex.new (o := .lst [V.int (j : Int)]) hy _ _ (upd_same (H := H3) (a := z))))
    refine ⟨b, z, x, d, L, 2 ^ p0, [p0], n.s ++ [j], rfl, B.ex ex, g, sz, upd_same, told_one hp, ?_, ?_, fun r H4 rn e4 hr4 => ?_⟩
    · rw [List.nodup_append]
      exact ⟨nk.canon.nodup, by simp, fun u hu v hv z => by cases List.mem_singleton.mp hv; exact hn (z ▸ hu)⟩
    · intro i m
      rcases List.mem_append.mp m with m | m
      · exact nl i m
      · rw [List.mem_singleton.mp m]; exact hj
    have e14 := ex.trans e4
    have rH : H r = none := Evl.fresh_back ex rn
    -- the way
    refine ⟨_, rfl, _, _, _, _, _, rfl, (wa.ex e14).ins, T.c_Way, T.n_Way_bought, wayF_bought, _, rfl, _, rfl, by show 2 ≤ sizeLine; decide, fun u hu => ?_⟩
    have eu := e14.trans (Ex.new (o := .tup [V.int (j : Int), V.ref sh]) hu)
    refine ⟨by show 1 ≤ sizeLine; decide, fun l hl => ?_⟩
    have el := eu.trans (Ex.new (o := .lst [V.ref u]) hl)
    have wl := wa.ex el
    have tl : W.ts.length ≤ 5 := by rw [wa.bt.len]; exact l5
    refine ⟨W.bl, l, _, _, rfl, rfl, wl.lbl, upd_same, ?_, fun v hv => ?_⟩
    · rw [List.length_map]
      exact Nat.le_of_lt (small1000 (by rw [List.length_cons, List.length_nil]; omega))
    have em : W.ts.map V.ref ++ [V.ref u] = (W.ts ++ [u]).map V.ref := by rw [List.map_append]; rfl
    rw [em]
    have ev := el.trans (Ex.new (o := .lst ((W.ts ++ [u]).map V.ref)) hv)
    have vH : H v = none := Evl.fresh_back el hv
    refine ⟨_, rfl, _, rfl, fun i dx hi hdx hne => ⟨i, dx, v, c, r, rfl, upd_same, fun H5 h5 k5 => ⟨rfl, ?_⟩⟩⟩
    have s5' : Ex _ H5 := Same.made hi hdx k5
    have e5 := ev.trans s5'
    -- from H3, H4 on
    have eul := (Ex.new (o := .lst [V.ref u]) hl).trans ((Ex.new (o := .lst ((W.ts ++ [u]).map V.ref)) hv).trans s5')
    have e45 : Ex H4 H5 := (Ex.new (o := .tup [V.int (j : Int), V.ref sh]) hu).trans eul
    have e35 : Ex H3 H5 := ((Ex.new (o := .lst [V.int (p0 : Int)]) hz).trans (Ex.new (o := .lst [V.int (j : Int)]) hy)).trans ((Ex.new (o := .lst (nats (n.s ++ [j]))) hx).trans (e4.trans e45))
    refine q i H5 e5 fun D o hD => ⟨⟨dx, v, c, r, W.ts ++ [u]⟩, ⟨h5, s5' _ _ upd_same, ?_, fc.ex e35, e45 _ _ hr4⟩, ?_, ?_⟩
    · refine (wa.bt.ex e5).app ⟨sh, SqT.of (eul _ _ upd_same), fsh.ex ?_⟩
      exact ((et.trans e2).trans e3).trans e35
    · intro z
      have z : v = D := z
      rw [← z, vH] at hD
      cases hD
    · intro z
      have z : r = D := z
      rw [← z, rH] at hD
      cases hD
end
end Wr
/-! The defs of buying.py, further: ways_onward, is_cheaper, cheapest_that_rules, worth_going_on, cheapest_way. -/
namespace Wr
open PySem PySem.Spec PyProof.Rows L2
open Evl (Ex ex_l ex_t)
theorem onward_take (d : Krcg.Desk) (p : Nat) {ns : List Node} {i : Nat} {n : Node} (h : ns[i]? = some n) : onward d p (ns.take (i + 1)) = onward d p (ns.take i) ++ (goes d n).map (n.next d p) := by
  unfold onward
  rw [take_more h, List.flatMap_append, List.flatMap_cons, List.flatMap_nil, List.append_nil]
theorem take_all {d : Krcg.Desk} {ns : List Node} {i : Nat} (h : ∀ n ∈ ns, NOk d n) {n : Node} (e : ns[i]? = some n) : NOk d n := h n (List.mem_of_getElem? e)
/-- the best so far, or None -/
def BestAt (K : PySem.W.Frag) (C : Addr) (H : Hp) (d : Krcg.Desk) (v : V) (m : Option Node) : Prop := match m with
  | none => v = .non
  | some b => ∃ x, v = .ref x ∧ Way0 K C H x b ∧ NOk d b
theorem BestAt.ex {K : PySem.W.Frag} {C : Addr} {H H' : Hp} {d : Krcg.Desk} {v : V} {m : Option Node} (e : Ex H H') (B : BestAt K C H d v m) : BestAt K C H' d v m := by
  cases m with
  | none => exact B
  | some b =>
    obtain ⟨x, h1, h2, h3⟩ := B
    exact ⟨x, h1, h2.ex e, h3⟩
section
variable {P : Program} {w : PySem.World} {K : PySem.W.Frag} {mg : Str → Option Value} {base : Heap} {A : Ad}
def spOnward (K : PySem.W.Frag) (C CW : Addr) : Sp := fun vs H Q _ => ∃ (b ws : Addr) (d : Krcg.Desk) (L : Lay) (p0 : Nat) (as : List Addr) (ns : List Node), vs = [.ref b, .int (p0 : Int), .ref ws] ∧ BookAt K C H b d L ∧ Good d ∧ SqL K H ws (as.map V.ref) ∧ WaysAt (Way0 K CW H) as ns ∧ (∀ n ∈ ns, NOk d n) ∧ ns.length ≤ 3125 ∧ p0 < d.w.people ∧
  ∀ x H' as', Ex H H' → H' x = some (.lst (as'.map V.ref)) → WaysAt (Way0 K CW H') as' (onward d p0 ns) → Q (.ref x) H'
theorem ok_ways_onward (T : Txt K mg A) : FnOk P w K mg base CX0 10 A.f_ways_onward A.d_ways_onward ["book", "person", "ways"] (spOnward K A.C_Book A.C_Way) := by
  have G_has_votes := ok_has_votes (P := P) (w := w) (base := base) T
  have G_way_with := ok_way_with (P := P) (w := w) (base := base) T
  refine T.d_ways_onward.F.ok sc_ways_onward (fun vs H Q E h => ?_) (fun cdv Ar outer s H vs Q E hr h => ⟨_, (pss_cons (ps_set (i := 3) sc_ways_onward.nd rfl (Or.inl rfl) (pe_lst pa_nil)) (pss_cons (ps_for PassesOwn.never rfl (pi_list (pv 2)) (pg_name (i := 4) sc_ways_onward.nd rfl (Or.inl rfl)) (pss_one (ps_for PassesOwn.never rfl (pi_range1 rfl T.no_range (pa_cons (pe_fld (pv 0) rfl) pa_nil)) (pg_name (i := 5) sc_ways_onward.nd rfl (Or.inl rfl)) (pss_one (ps_if (PW.pt (pw_and (pt_cmpR op_notIn_seq (pv 5) (pe_fld (pv 4) rfl) (by rfl)) (pw_and1 (pt_val (pe_call G_has_votes (hr.mono (by decide)) rfl T.d_has_votes.g T.d_has_votes.F.kp T.d_has_votes.b .nil pass0 (pa_cons (pv 0) (pa_cons (pv 5) pa_nil))))))) (pss_one (ps_expr (pe_bm PySem.F.plainAttrs_list PySem.F.slot_list_append PySem.F.type_list_append mt_append (pv 3) (pa_cons (pe_call G_way_with (hr.mono (by decide)) rfl T.d_way_with.g T.d_way_with.F.kp T.d_way_with.b .nil pass0 (pa_cons (pv 0) (pa_cons (pv 1) (pa_cons (pv 4) (pa_cons (pv 5) pa_nil))))) pa_nil)))) pss_nil))))) (pss_one (ps_ret (pv 3))))), ?_⟩)
  · obtain ⟨b, ws, d, L, p0, as, ns, rfl, _⟩ := h
    rfl
  · obtain ⟨b, ws, d, L, p0, as, ns, rfl, B, g, hw, wa, nk, nl, hp, q⟩ := h
    have f5 := g.f5
    refine ⟨Nat.zero_le _, fun D hD => ?_⟩
    refine ⟨_, rfl, ws, rfl, ⟨_, ex_l (Ex.new hD) hw⟩, for_list (K := K) (a := ws) (xs := as.map V.ref) (fun i σ H' => Ex H H' ∧ ∃ (as' : List Addr) (v1 v2 : Option V), σ = [some (.ref b), some (.int (p0 : Int)), some (.ref ws), some (.ref D), v1, v2] ∧ H' D = some (.lst (as'.map V.ref)) ∧ WaysAt (Way1 K A.C_Way H' D) as' (onward d p0 (ns.take i)))
      ⟨Ex.new hD, [], none, none, rfl, upd_same, WaysAt.nil _⟩ (fun i σ H' _ p => ex_l p.1 hw) ?_ ?_⟩
    · rintro i y σ H' hi ⟨e, as', v1, v2, rfl, hd, wd⟩
      obtain ⟨a, ha, rfl⟩ := refs_at hi
      obtain ⟨n, hn, wn⟩ := wa.get ha
      have nn := take_all nk hn
      have il : i < ns.length := at_lt hn
      refine ⟨_, rfl, _, _, _, _, _, rfl, (B.ex e).ins, T.c_Book, T.n_Book_companies, bookF_companies, _, rfl, by omega, by omega, ?_⟩
      refine for_range (lo := 0) (n := ((d.w.firms : Nat) : Int).toNat) (fun k σ H2 => Ex H H2 ∧ k ≤ d.w.firms ∧ ∃ (as2 : List Addr) (v2 : Option V), σ = [some (.ref b), some (.int (p0 : Int)), some (.ref ws), some (.ref D), some (.ref a), v2] ∧ H2 D = some (.lst (as2.map V.ref)) ∧ WaysAt (Way1 K A.C_Way H2 D) as2 (onward d p0 (ns.take i) ++ ((List.range k).filter (mayBuy d n)).map (n.next d p0)))
        ⟨e, Nat.zero_le _, as', v2, rfl, hd, by rw [List.range_zero, List.filter_nil, List.map_nil, List.append_nil]; exact wd⟩ ?_ ?_
      · rintro k σ H2 hk ⟨e2, _, as2, v2, rfl, hd2, wd2⟩
        have kl : k < d.w.firms := by omega
        obtain ⟨W, w0⟩ := wn.ex e2
        have ef := filter_succ (mayBuy d n) k
        rw [Int.zero_add]
        refine ⟨_, rfl, _, rfl, _, _, _, _, _, rfl, w0.ins, T.c_Way, T.n_Way_ruled, wayF_ruled, W.rl, _, rfl, .inl (SqL.of w0.lrl), rfl, flat_nats _, _, rfl, ?_⟩
        have en : (if true = true then !inV (V.int (k : Int)) (nats n.s) else inV (V.int (k : Int)) (nats n.s)) = !n.s.contains k := by
          rw [if_pos rfl, inV_nats]
        have skip : ∀ H3, Ex H2 H3 → mayBuy d n k = false → WaysAt (Way1 K A.C_Way H3 D) as2 (onward d p0 (ns.take i) ++ ((List.range (k + 1)).filter (mayBuy d n)).map (n.next d p0)) := fun H3 e3 c => by
          rw [ef, if_neg (by rw [c]; exact Bool.false_ne_true), List.append_nil]
          exact wd2.imp fun _ _ z => z.ex e3
        cases c : n.s.contains k with
        | true =>
          refine itF (by rw [en, c]; rfl) ?_
          exact itF rfl ⟨e2, kl, as2, _, rfl, hd2, skip H2 (Ex.refl H2) (by unfold mayBuy; rw [c]; rfl)⟩
        | false =>
          refine itT (by rw [en, c]; rfl) ?_
          refine ⟨_, rfl, _, rfl, b, d, L, k, rfl, B.ex e2, g, kl, fun H3 e3 => ⟨_, rfl, ?_⟩⟩
          by_cases c2 : 0 < Krcg.votes d.w k
          · have mb : mayBuy d n k = true := by unfold mayBuy; rw [c, decide_eq_true c2]; rfl
            have hd3 := e3 _ _ hd2
            refine itT (decide_eq_true c2) ⟨_, rfl, .inl ⟨rfl, _, SqL.of hd3⟩, ?_⟩
            have kn : k ∉ n.s := fun z => by
              rw [List.contains_iff_mem.mpr z] at c
              cases c
            refine ⟨_, rfl, _, rfl, _, rfl, _, rfl, b, a, d, L, p0, k, n, rfl, B.ex (e2.trans e3), g, wn.ex (e2.trans e3), nn, hp, kl, kn, fun x H4 e4 wx => ?_⟩
            have hd4 := e4 _ _ hd3
            refine ⟨D, _, _, rfl, rfl, hd4, ?_, ((e2.trans e3).trans e4).mut hD, kl, as2 ++ [x], _, rfl, ?_, ?_⟩
            · rw [List.length_map, wd2.len, List.length_append, List.length_map]
              have h1 := onward_len (d := d) (p := p0) (ns.take i)
              have h2 := filter_len (mayBuy d n) k
              rw [List.length_take] at h1
              have h3 : d.w.firms * min i ns.length ≤ 5 * 3125 := Nat.mul_le_mul f5 (by omega)
              have sz : sizeLine = 16777216 := by decide
              omega
            · rw [upd_same, List.map_append]
              rfl
            · rw [ef, if_pos mb, List.map_append, ← List.append_assoc]
              refine WaysAt.app ?_ ?_
              · exact wd2.imp fun _ _ z => (z.ex (e3.trans e4)).updL hd4
              · exact (wx D _ hd3).updL hd4
          · refine itF (decide_eq_false c2) ⟨e2.trans e3, kl, as2, _, rfl, e3 _ _ hd2, skip H3 e3 (by unfold mayBuy; rw [decide_eq_false c2, Bool.and_false])⟩
      · rintro σ H2 ⟨e2, _, as2, v2, rfl, hd2, wd2⟩
        rw [Int.toNat_natCast] at wd2
        refine ⟨e2, as2, _, _, rfl, hd2, ?_⟩
        rw [onward_take d p0 hn]
        exact wd2
    · rintro σ H' ⟨e, as', v1, v2, rfl, hd, wd⟩
      rw [List.length_map, wa.len, List.take_length] at wd
      exact ⟨_, rfl, q D H' as' e hd (wd.imp fun _ _ z => z.elim fun W h => ⟨W, h.1⟩)⟩
def spCheaper (K : PySem.W.Frag) (CW : Addr) : Sp := fun vs H Q _ => ∃ (a : Addr) (v : V) (d : Krcg.Desk) (n : Node) (m : Option Node), vs = [.ref a, v] ∧ Good d ∧ Way0 K CW H a n ∧ NOk d n ∧ BestAt K CW H d v m ∧ Q (.bl (cheaper n m)) H
theorem ok_is_cheaper (T : Txt K mg A) : FnOk P w K mg base CX0 2 A.f_is_cheaper A.d_is_cheaper ["way", "best"] (spCheaper K A.C_Way) := by
  have G_at_least := ok_at_least (P := P) (w := w) (base := base) T
  refine T.d_is_cheaper.F.ok sc_is_cheaper (fun vs H Q E h => ?_) (fun cdv Ar outer s H vs Q E hr h => ⟨_, (pss_one (ps_ret (pe_or (pe_cmpR op_isN (pv 1) pe_non (nomark _)) (pe_one (pe_not (pe_call G_at_least (hr.mono (by decide)) rfl T.d_at_least.g T.d_at_least.F.kp T.d_at_least.b .nil pass0 (pa_cons (pe_fld (pv 0) rfl) (pa_cons (pe_fld (pv 1) rfl) pa_nil)))))))), ?_⟩)
  · obtain ⟨a, v, d, n, m, rfl, _⟩ := h
    rfl
  · obtain ⟨a, v, d, n, m, rfl, g, ⟨W, w0⟩, nk, bt, q⟩ := h
    refine ⟨_, rfl, rfl, _, rfl, ?_⟩
    cases m with
    | none =>
      cases bt
      exact itT rfl q
    | some b =>
      obtain ⟨x, rfl, ⟨W2, w2⟩, nb⟩ := bt
      refine itF rfl ?_
      exact ⟨_, rfl, _, _, _, _, _, rfl, w0.ins, T.c_Way, T.n_Way_cost, wayF_cost, _, rfl, _, _, _, _, _, rfl, w2.ins, T.c_Way, T.n_Way_cost, wayF_cost, W.ca, W2.ca, n.cost, b.cost, 2000, 2000, rfl, w0.cost, w2.cost, nk.sm2 g, nb.sm2 g, by omega, _, rfl, q⟩
theorem picks_take {j : Nat} {m : Option Node} {ns : List Node} {i : Nat} {n : Node} (h : ns[i]? = some n) : picks j m (ns.take (i + 1)) = pick j (picks j m (ns.take i)) n := by
  unfold picks
  rw [take_more h, List.foldl_append]
  rfl
def spPicks (K : PySem.W.Frag) (CW : Addr) : Sp := fun vs H Q _ => ∃ (v : V) (ws : Addr) (d : Krcg.Desk) (j : Nat) (as : List Addr) (ns : List Node) (m : Option Node), vs = [v, .ref ws, .int (j : Int)] ∧ Good d ∧ SqL K H ws (as.map V.ref) ∧ WaysAt (Way0 K CW H) as ns ∧ (∀ n ∈ ns, NOk d n) ∧ BestAt K CW H d v m ∧
  ∀ v', BestAt K CW H d v' (picks j m ns) → Q v' H
theorem ok_cheapest_that_rules (T : Txt K mg A) : FnOk P w K mg base CX0 3 A.f_cheapest_that_rules A.d_cheapest_that_rules ["best", "ways", "company"] (spPicks K A.C_Way) := by
  have G_is_cheaper := ok_is_cheaper (P := P) (w := w) (base := base) T
  refine T.d_cheapest_that_rules.F.ok sc_cheapest_that_rules (fun vs H Q E h => ?_) (fun cdv Ar outer s H vs Q E hr h => ⟨_, (pss_cons (ps_for PassesOwn.never rfl (pi_list (pv 1)) (pg_name (i := 3) sc_cheapest_that_rules.nd rfl (Or.inl rfl)) (pss_one (ps_if (PW.pt (pw_and (pt_cmpR op_in_seq (pv 2) (pe_fld (pv 3) rfl) (by rfl)) (pw_and1 (pt_val (pe_call G_is_cheaper (hr.mono (by decide)) rfl T.d_is_cheaper.g T.d_is_cheaper.F.kp T.d_is_cheaper.b .nil pass0 (pa_cons (pv 3) (pa_cons (pv 0) pa_nil))))))) (pss_one (ps_set (i := 0) sc_cheapest_that_rules.nd rfl (Or.inl rfl) (pv 3))) pss_nil))) (pss_one (ps_ret (pv 0)))), ?_⟩)
  · obtain ⟨v, ws, d, j, as, ns, m, rfl, _⟩ := h
    rfl
  · obtain ⟨v, ws, d, j, as, ns, m, rfl, g, hw, wa, nk, bt, q⟩ := h
    refine ⟨_, rfl, ws, rfl, ⟨_, hw⟩, for_list (K := K) (a := ws) (xs := as.map V.ref) (fun i σ H' => H' = H ∧ ∃ (v' : V) (v1 : Option V), σ = [some v', some (.ref ws), some (.int (j : Int)), v1] ∧ BestAt K A.C_Way H d v' (picks j m (ns.take i)))
      ⟨rfl, v, none, rfl, bt⟩ (fun i σ H' _ p => by rw [p.1]; exact hw) ?_ ?_⟩
    · rintro i y σ H' hi ⟨rfl, v', v1, rfl, bt'⟩
      obtain ⟨a, ha, rfl⟩ := refs_at hi
      obtain ⟨n, hn, wn⟩ := wa.get ha
      have nn := take_all nk hn
      obtain ⟨W, w0⟩ := id wn
      refine ⟨_, rfl, _, rfl, _, _, _, _, _, rfl, w0.ins, T.c_Way, T.n_Way_ruled, wayF_ruled, W.rl, _, rfl, .inl (SqL.of w0.lrl), rfl, flat_nats _, _, rfl, ?_⟩
      have en : (if false = true then !inV (V.int (j : Int)) (nats n.s) else inV (V.int (j : Int)) (nats n.s)) = n.s.contains j := by
        rw [if_neg Bool.false_ne_true, inV_nats]
      have ep := picks_take (j := j) (m := m) hn
      cases c : n.s.contains j with
      | false =>
        refine itF (en.trans c) ?_
        refine itF rfl ⟨rfl, v', _, rfl, ?_⟩
        rw [ep, pick, c]
        exact bt'
      | true =>
        refine itT (en.trans c) ?_
        refine ⟨_, rfl, _, rfl, a, v', d, n, _, rfl, g, wn, nn, bt', _, rfl, ?_⟩
        cases c2 : cheaper n (picks j m (ns.take i)) with
        | true =>
          refine itT rfl ⟨_, rfl, rfl, _, _, rfl, ?_⟩
          rw [ep, pick, c, c2]
          exact ⟨a, rfl, wn, nn⟩
        | false =>
          refine itF rfl ⟨rfl, v', _, rfl, ?_⟩
          rw [ep, pick, c, c2]
          exact bt'
    · rintro σ H' ⟨rfl, v', v1, rfl, bt'⟩
      rw [List.length_map, wa.len, List.take_length] at bt'
      exact ⟨_, rfl, q v' bt'⟩
def spWorth (K : PySem.W.Frag) (CW : Addr) : Sp := fun vs H Q _ => ∃ (v : V) (ws : Addr) (d : Krcg.Desk) (j : Nat) (as : List Addr) (ns : List Node) (m : Option Node), vs = [.ref ws, v, .int (j : Int)] ∧ Good d ∧ SqL K H ws (as.map V.ref) ∧ WaysAt (Way0 K CW H) as ns ∧ (∀ n ∈ ns, NOk d n) ∧ ns.length ≤ 15625 ∧ BestAt K CW H d v m ∧
  ∀ x H' as', Ex H H' → H' x = some (.lst (as'.map V.ref)) → WaysAt (Way0 K CW H') as' (worth j m ns) → Q (.ref x) H'
theorem worth_take {j : Nat} {m : Option Node} {ns : List Node} {i : Nat} {n : Node} (h : ns[i]? = some n) : worth j m (ns.take (i + 1)) = worth j m (ns.take i) ++ (if (!n.s.contains j && cheaper n m) = true then [n] else []) := by
  unfold worth
  rw [take_more h, List.filter_append, List.filter_cons, List.filter_nil]
theorem ok_worth_going_on (T : Txt K mg A) : FnOk P w K mg base CX0 3 A.f_worth_going_on A.d_worth_going_on ["ways", "best", "company"] (spWorth K A.C_Way) := by
  have G_is_cheaper := ok_is_cheaper (P := P) (w := w) (base := base) T
  refine T.d_worth_going_on.F.ok sc_worth_going_on (fun vs H Q E h => ?_) (fun cdv Ar outer s H vs Q E hr h => ⟨_, (pss_one (ps_ret (pe_lc (own := [("way", 3)]) (g := gName 3) rfl sc_worth_going_on.nd (pi_list (pv 0)) (blkOk_by (N := ["ways", "best", "company", "way"]) (sc := defScope s_worth_going_on) (by decide +kernel)) (fun _ _ _ _ _ => (pg_name (i := 3) sc_worth_going_on.nd rfl (Or.inl rfl))) (fun _ _ _ _ _ => pts_one (PW.pt (pw_and (pt_cmpR (show OpR _ (compareOp CmpOp.NotIn) (rIn K true) from op_notIn_seq) (pv 2) (show PE _ _ (tFld K (tVar 3) "ruled") from pe_fld (pv 3) rfl) (by rfl)) (pw_and1 (pt_val (pe_call G_is_cheaper (hr.mono (by decide)) rfl T.d_is_cheaper.g T.d_is_cheaper.F.kp T.d_is_cheaper.b .nil pass0 (pa_cons (pv 3) (pa_cons (pv 1) pa_nil)))))))) (fun _ _ _ _ _ => (pv 3))))), ?_⟩)
  · obtain ⟨v, ws, d, j, as, ns, m, rfl, _⟩ := h
    rfl
  · obtain ⟨v, ws, d, j, as, ns, m, rfl, g, hw, wa, nk, nl, bt, q⟩ := h
    refine ⟨_, rfl, ws, rfl, ⟨_, hw⟩, fun D hD => ?_⟩
    refine lc_list (K := K) (a := ws) (xs := as.map V.ref) (fun i H' => Ex H H' ∧ ∃ as' : List Addr, H' D = some (.lst (as'.map V.ref)) ∧ WaysAt (Way0 K A.C_Way H) as' (worth j m (ns.take i))) ⟨Ex.new hD, [], upd_same, WaysAt.nil _⟩ (fun i H' _ p => ex_l p.1 hw) ?_ ?_
    · rintro i y H' hi ⟨e, as', hd, wd⟩
      obtain ⟨a, ha, rfl⟩ := refs_at hi
      obtain ⟨n, hn, wn⟩ := wa.get ha
      have nn := take_all nk hn
      obtain ⟨W, w0⟩ := wn.ex e
      refine ⟨rfl, _, rfl, _, rfl, _, _, _, _, _, rfl, w0.ins, T.c_Way, T.n_Way_ruled, wayF_ruled, W.rl, _, rfl, .inl (SqL.of w0.lrl), rfl, flat_nats _, _, rfl, ?_⟩
      have en : (if true = true then !inV (V.int (j : Int)) (nats n.s) else inV (V.int (j : Int)) (nats n.s)) = !n.s.contains j := by
        rw [if_pos rfl, inV_nats]
      have ep := worth_take (j := j) (m := m) hn
      have skip : (!n.s.contains j && cheaper n m) = false → WaysAt (Way0 K A.C_Way H) as' (worth j m (ns.take (i + 1))) := fun c => by
        rw [ep, if_neg (by rw [c]; exact Bool.false_ne_true), List.append_nil]
        exact wd
      cases c : n.s.contains j with
      | true =>
        refine itF (by rw [en, c]; rfl) ?_
        exact itF rfl ⟨e, as', hd, skip (by rw [c]; rfl)⟩
      | false =>
        refine itT (by rw [en, c]; rfl) ?_
        refine ⟨_, rfl, _, rfl, a, v, d, n, m, rfl, g, wn.ex e, nn, bt.ex e, _, rfl, ?_⟩
        cases c2 : cheaper n m with
        | true =>
          refine itT rfl ⟨_, rfl, _, hd, ?_, e.mut hD, as' ++ [a], ?_, ?_⟩
          · rw [List.length_map, wd.len]
            have h1 : (worth j m (ns.take i)).length ≤ (ns.take i).length := List.length_filter_le _ _
            rw [List.length_take] at h1
            have sz : sizeLine = 16777216 := by decide
            omega
          · rw [upd_same, List.map_append]
            rfl
          · rw [ep, if_pos (by rw [c, c2]; rfl)]
            exact wd.app wn
        | false =>
          exact itF rfl ⟨e, as', hd, skip (by rw [c2, Bool.and_false])⟩
    · rintro H' ⟨e, as', hd, wd⟩
      rw [List.length_map, wa.len, List.take_length] at wd
      exact q D H' as' e hd (wd.imp fun _ _ z => z.ex e)
/-! ### cheapest_way -/
def spCheapest (K : PySem.W.Frag) (C CW : Addr) : Sp := fun vs H Q _ => ∃ (b : Addr) (d : Krcg.Desk) (L : Lay) (p0 j : Nat), vs = [.ref b, .int (p0 : Int), .int (j : Int)] ∧ BookAt K C H b d L ∧ Good d ∧ p0 < d.w.people ∧ j < d.w.firms ∧
  ∀ v H' m, Ex H H' → BestAt K CW H' d v m → Krcg.cheapest d p0 j = m.map Node.way → Q v H'
def buyW (K : PySem.W.Frag) (CW b : Addr) (d : Krcg.Desk) (p0 j : Nat) (H : Hp) : Nat → L2.St → Hp → Prop := fun mm σ H' => Ex H H' ∧ ∃ (v : V) (ws : Addr) (m : Option Node) (ns : List Node) (as : List Addr) (t f : Nat),
  σ = [some (.ref b), some (.int (p0 : Int)), some (.int (j : Int)), some v, some (.ref ws)] ∧ BestAt K CW H' d v m ∧ H' ws = some (.lst (as.map V.ref)) ∧ WaysAt (Way0 K CW H') as ns ∧ Srch d p0 j t f m ns ∧ (∀ n ∈ ns, NOk d n) ∧ ns.length ≤ 5 ^ t ∧ ((ns = [] ∧ mm = 0) ∨ (ns ≠ [] ∧ mm = f + 1))
theorem pow5 {t : Nat} (h : t ≤ 5) : 5 ^ t ≤ 3125 := Nat.pow_le_pow_right (n := 5) (by decide) h
theorem node0_ok {d : Krcg.Desk} (p : Nat) : NOk d (node0 d p) := ⟨ruledFrom_canon d (2 ^ p) [], Nat.zero_le _, sm_zero⟩
theorem ok_cheapest_way (T : Txt K mg A) : FnOk P w K mg base CX0 11 A.f_cheapest_way A.d_cheapest_way ["book", "person", "company"] (spCheapest K A.C_Book A.C_Way) := by
  have G_ways_onward := ok_ways_onward (P := P) (w := w) (base := base) T
  have G_worth_going_on := ok_worth_going_on (P := P) (w := w) (base := base) T
  have G_cheapest_that_rules := ok_cheapest_that_rules (P := P) (w := w) (base := base) T
  have G_Way_init := ok_Way_init (P := P) (w := w) (base := base) T
  have G_ruled_together := ok_ruled_together (P := P) (w := w) (base := base) T
  refine T.d_cheapest_way.F.ok sc_cheapest_way (fun vs H Q E h => ?_) (fun cdv Ar outer s H vs Q E hr h => ⟨_, (pss_cons (ps_set (i := 3) sc_cheapest_way.nd rfl (Or.inl rfl) pe_non) (pss_cons (ps_set (i := 4) sc_cheapest_way.nd rfl (Or.inl rfl) (pe_lst (pa_cons (pe_make T.mk_Way G_Way_init (hr.mono (by decide)) rfl T.g_Way T.d_Way_init.b .nil pass0 (pa_cons (pe_lst pa_nil) (pa_cons (pe_glob (v := .ref A.a_ZERO) rfl T.g_ZERO rfl) (pa_cons (pe_call G_ruled_together (hr.mono (by decide)) rfl T.d_ruled_together.g T.d_ruled_together.F.kp T.d_ruled_together.b .nil pass0 (pa_cons (pv 0) (pa_cons (pe_lst (pa_cons (pv 1) pa_nil)) pa_nil))) pa_nil)))) pa_nil))) (pss_cons (ps_while PassesOwn.never (pt_cmpR op_gt (pe_callB call_len_seq (by rfl) T.no_len PySem.boot_len (pa_cons (pv 4) pa_nil)) pe_int (nomark _)) (pss_cons (ps_set (i := 3) sc_cheapest_way.nd rfl (Or.inl rfl) (pe_call G_cheapest_that_rules (hr.mono (by decide)) rfl T.d_cheapest_that_rules.g T.d_cheapest_that_rules.F.kp T.d_cheapest_that_rules.b .nil pass0 (pa_cons (pv 3) (pa_cons (pv 4) (pa_cons (pv 2) pa_nil))))) (pss_one (ps_set (i := 4) sc_cheapest_way.nd rfl (Or.inl rfl) (pe_call G_ways_onward (hr.mono (by decide)) rfl T.d_ways_onward.g T.d_ways_onward.F.kp T.d_ways_onward.b .nil pass0 (pa_cons (pv 0) (pa_cons (pv 1) (pa_cons (pe_call G_worth_going_on (hr.mono (by decide)) rfl T.d_worth_going_on.g T.d_worth_going_on.F.kp T.d_worth_going_on.b .nil pass0 (pa_cons (pv 4) (pa_cons (pv 3) (pa_cons (pv 2) pa_nil)))) pa_nil)))))))) (pss_one (ps_ret (pv 3)))))), ?_⟩)
  · obtain ⟨b, d, L, p0, j, rfl, _⟩ := h
    rfl
  · obtain ⟨b, d, L, p0, j, rfl, B, g, hp, hj, q⟩ := h
    have f5 := g.f5
    refine ⟨Nat.zero_le _, fun l hl => ?_⟩
    have el := Ex.new (o := .lst []) hl
    refine ⟨_, rfl, _, rfl, by show 1 ≤ sizeLine; decide, fun z hz => ?_⟩
    have ez := el.trans (Ex.new (o := .lst [V.int (p0 : Int)]) hz)
    refine ⟨b, z, d, L, 2 ^ p0, [p0], rfl, B.ex ez, g, SqL.of upd_same, told_one hp, fun r H1 rn e1 hr1 => ?_⟩
    refine fun x dx hx hdx hne => ⟨x, dx, l, A.a_ZERO, r, rfl, upd_same, fun H2 h2 k2 => ⟨rfl, ?_⟩⟩
    have s2 : Ex H1 H2 := Same.made hx hdx k2
    refine ⟨by show 1 ≤ sizeLine; decide, fun ws hws => ?_⟩
    have ew := Ex.new (o := .lst [V.ref x]) hws
    have eA : Ex (upd H l (.lst [])) (upd H2 ws (.lst [V.ref x])) := ((Ex.new (o := .lst [V.int (p0 : Int)]) hz).trans e1).trans (s2.trans ew)
    have w0 : Way0 K A.C_Way (upd H2 ws (.lst [V.ref x])) x (node0 d p0) := ⟨⟨dx, l, A.a_ZERO, r, []⟩, ew _ _ h2, eA _ _ upd_same, ⟨rfl, fun i t b h _ => by simp at h⟩, fr_zero T _, (s2.trans ew) _ _ hr1⟩
    refine ⟨buyW K A.C_Way b d p0 j H, ⟨d.w.firms + 1, el.trans eA, .non, ws, none, [node0 d p0], [x], 0, d.w.firms, rfl, rfl, upd_same, ⟨rfl, fun i a n h1 h2 => ?_⟩, Srch.start d p0 j, fun n hn => ?_, Nat.le_refl _, .inr ⟨fun z => (nomatch z), rfl⟩⟩, ?_⟩
    · cases i with
      | zero =>
        cases h1
        cases h2
        exact w0
      | succ i => simp at h1
    · rw [List.mem_singleton.mp hn]
      exact node0_ok p0
    rintro mm σ H' ⟨e, v, ws, m, ns, as, t, f, rfl, bt, hw, wa, S, nk, nl, hm⟩
    refine ⟨_, rfl, ws, _, rfl, .inl (SqL.of hw), _, _, rfl, rfl, _, rfl, ?_⟩
    have ln : (as.map V.ref).length = ns.length := by rw [List.length_map, wa.len]
    cases ns with
    | nil =>
      refine itF (decide_eq_false (by rw [ln, List.length_nil]; omega)) ⟨_, rfl, q v H' m e bt S.done⟩
    | cons n0 nr =>
      refine itT (decide_eq_true (by rw [ln, List.length_cons]; omega)) ⟨nextW (buyW K A.C_Way b d p0 j H) mm, fun _ _ h => h, ?_⟩
      have t5 : t ≤ 5 := by
        rw [← S.len n0 (.head _)]
        exact (nk n0 (.head _)).l5 g
      have p5 := pow5 t5
      have mf : mm = f + 1 := by
        rcases hm with ⟨z, _⟩ | ⟨_, z⟩
        · cases z
        · exact z
      generalize n0 :: nr = ns at *
      have S2 := S.step hj
      refine ⟨_, rfl, _, rfl, _, rfl, v, ws, d, j, as, ns, m, rfl, g, SqL.of hw, wa, nk, bt, fun v' bt' => ?_⟩
      refine ⟨_, rfl, _, rfl, _, rfl, _, rfl, _, rfl, v', ws, d, j, as, ns, _, rfl, g, SqL.of hw, wa, nk, by omega, bt', fun y H3 as3 e3 hy wa3 => ?_⟩
      have wk : ∀ n ∈ worth j (picks j m ns) ns, NOk d n := fun n hn => nk n (mem_worth.mp hn).1
      have wl : (worth j (picks j m ns) ns).length ≤ ns.length := List.length_filter_le _ _
      refine ⟨b, y, d, L, p0, as3, _, rfl, B.ex (e.trans e3), g, SqL.of hy, wa3, wk, by omega, hp, fun u H4 as4 e4 hu wa4 => ?_⟩
      have kids : ∀ n ∈ onward d p0 (worth j (picks j m ns) ns), NOk d n := fun n hn => by
        obtain ⟨n1, h1, h2⟩ := List.mem_flatMap.mp hn
        obtain ⟨i, hi, rfl⟩ := List.mem_map.mp h2
        obtain ⟨i1, i2, _⟩ := mem_goes.mp hi
        exact (wk n1 h1).next g hp i1 i2
      have klen : (onward d p0 (worth j (picks j m ns) ns)).length ≤ 5 ^ (t + 1) := by
        refine Nat.le_trans (onward_len _) ?_
        rw [Nat.pow_succ, Nat.mul_comm]
        exact Nat.mul_le_mul (Nat.le_trans wl nl) f5
      generalize hk : onward d p0 (worth j (picks j m ns) ns) = ks at *
      cases ks with
      | nil =>
        exact ⟨0, by omega, (e.trans e3).trans e4, v', u, _, [], as4, t + 1, f - 1, rfl, bt'.ex (e3.trans e4), hu, wa4, S2, kids, klen, .inl ⟨rfl, rfl⟩⟩
      | cons k0 kr =>
        have f1 : 1 ≤ f := by
          rcases Nat.eq_zero_or_pos f with z | z
          · exfalso
            have hk0 : k0 ∈ onward d p0 (worth j (picks j m ns) ns) := by rw [hk]; exact .head _
            obtain ⟨n1, h1, _⟩ := List.mem_flatMap.mp hk0
            have := S.fuel hj (mem_worth.mp h1).1 (mem_worth.mp h1).2.1
            omega
          · exact z
        exact ⟨f - 1 + 1, by omega, (e.trans e3).trans e4, v', u, _, k0 :: kr, as4, t + 1, f - 1, rfl, bt'.ex (e3.trans e4), hu, wa4, S2, kids, klen, .inr ⟨fun z => (nomatch z), rfl⟩⟩
end
end Wr
/-! The defs of calls.py: the small ones; the promise of a call. -/
namespace Wr
open PySem PySem.Spec PyProof.Rows L2
open Evl (Ex ex_l ex_t)
theorem Ex.keeps {C : Addr} {H H' : Hp} (e : Ex H H') : Keeps C H H' := fun x o h _ => e x o h
/-- what an answer tells, as numbers -/
def ansV (a : Krcg.Ans) : List V := (KrcgNeutral.told a).map V.int
section
variable {P : Program} {w : PySem.World} {K : PySem.W.Frag} {mg : Str → Option Value} {base : Heap} {A : Ad}
/-- a call keeps to act: the book then, the answer; all but the book's own stays -/
def spCall (K : PySem.W.Frag) (C : Addr) (R : List Nat → Krcg.Call → Prop) : Sp := fun vs H Q _ => ∃ (b gl : Addr) (d : Krcg.Desk) (L : Lay) (gs : List Nat) (c : Krcg.Call), vs = [.ref b, .ref gl] ∧ BookAt K C H b d L ∧ Good d ∧ H gl = some (.lst (nats gs)) ∧ R gs c ∧
  ∀ d' a L' H' p, Krcg.act (some d) c = (some d', a) → Good d' → BookAt K C H' b d' L' → (L'.pr = L.pr ∨ H L'.pr = none) → Keeps C H H' → H p = none → H' p = some (.lst (ansV a)) → Q (.ref p) H'
def spWithFr (K : PySem.W.Frag) : Sp := fun vs H Q _ => ∃ (a : Addr) (r : Rat), vs = [.ref a] ∧ Fr K H a r ∧ ∀ p H', H p = none → Ex H H' → H' p = some (.lst (ansV (Krcf.frac r))) → Q (.ref p) H'
theorem ok_with_fraction (T : Txt K mg A) : FnOk P w K mg base CX0 1 A.f_with_fraction A.d_with_fraction ["fraction"] (spWithFr K) := by
  refine T.d_with_fraction.F.ok sc_with_fraction (fun vs H Q E h => ?_) (fun cdv Ar outer s H vs Q E hr h => ⟨_, (pss_one (ps_ret (pe_lst (pa_cons pe_int (pa_cons (pe_ix ix_tup (pv 0) pe_int (fun _ _ => rfl)) (pa_cons (pe_ix ix_tup (pv 0) pe_int (fun _ _ => rfl)) pa_nil)))))), ?_⟩)
  · obtain ⟨a, r, rfl, _⟩ := h
    rfl
  · obtain ⟨a, r, rfl, f, q⟩ := h
    refine ⟨_, rfl, _, _, _, _, rfl, rfl, f, at0, _, rfl, _, _, _, _, rfl, rfl, f, at1, by show 3 ≤ sizeLine; decide, fun p hp => ?_⟩
    exact q p _ hp (Ex.new hp) upd_same
def spWithCount : Sp := fun vs H Q _ => ∃ (a : Addr) (l : List Nat), vs = [.ref a] ∧ H a = some (.lst (nats l)) ∧ l.length ≤ 100 ∧ ∀ p H', H p = none → Ex H H' → H' p = some (.lst (ansV (Krcf.list l))) → Q (.ref p) H'
theorem ok_with_count (T : Txt K mg A) : FnOk P w K mg base CX0 1 A.f_with_count A.d_with_count ["numbers"] spWithCount := by
  refine T.d_with_count.F.ok sc_with_count (fun vs H Q E h => ?_) (fun cdv Ar outer s H vs Q E hr h => ⟨_, (pss_one (ps_ret (pe_op op_cat (pe_lst (pa_cons (pe_callB call_len_seq (by rfl) T.no_len PySem.boot_len (pa_cons (pv 0) pa_nil)) pa_nil)) (pv 0)))), ?_⟩)
  · obtain ⟨a, r, rfl, _⟩ := h
    rfl
  · obtain ⟨a, l, rfl, f, n, q⟩ := h
    refine ⟨_, rfl, _, _, rfl, .inl (SqL.of f), by show 1 ≤ sizeLine; decide, fun p hp => ?_⟩
    refine ⟨_, rfl, _, _, _, _, rfl, rfl, upd_same, Ex.new hp _ _ f, ?_, fun p2 hp2 => ?_⟩
    · rw [nats, List.length_map]
      exact Nat.le_of_lt (small1000 (by rw [List.length_cons, List.length_nil]; omega))
    · have hp2' := Evl.fresh_back (Ex.new hp) hp2
      refine q p2 _ hp2' ((Ex.new hp).trans (Ex.new hp2)) ?_
      rw [upd_same]
      congr 2
      show V.int ((nats l).length : Int) :: nats l = V.int (l.length : Int) :: (Krcf.ints l).map V.int
      rw [nats, List.length_map, Krcf.ints, List.map_map]
      rfl
def spShare : Sp := fun vs H Q _ => ∃ a b : Nat, vs = [.int (a : Int), .int (b : Int)] ∧ Q (.bl (Krcf.partOk a b)) H
theorem ok_is_share (T : Txt K mg A) : FnOk P w K mg base CX0 1 A.f_is_share A.d_is_share ["upper", "lower"] spShare := by
  refine T.d_is_share.F.ok sc_is_share (fun vs H Q E h => ?_) (fun cdv Ar outer s H vs Q E hr h => ⟨_, (pss_one (ps_ret (pe_and (pe_chain op_le op_le pe_int (pv 1) (pe_glob (v := .int (100)) rfl T.g_MOST_LOWER ⟨_, rfl⟩)) (pe_one (pe_cmpR op_le (pv 0) (pv 1) (nomark _)))))), ?_⟩)
  · obtain ⟨a, b, rfl, _⟩ := h
    rfl
  · obtain ⟨a, b, rfl, q⟩ := h
    have e : Krcf.partOk a b = (decide (1 ≤ b) && decide (b ≤ 100) && decide (a ≤ b)) := rfl
    refine ⟨_, rfl, _, _, rfl, rfl, _, rfl, ?_⟩
    by_cases c1 : 1 ≤ b
    · refine itT (decide_eq_true (by omega)) ⟨_, _, rfl, rfl, _, rfl, ?_⟩
      by_cases c2 : b ≤ 100
      · refine itT (decide_eq_true (by omega)) ⟨_, rfl, _, rfl, _, _, rfl, rfl, ?_⟩
        rw [e, decide_eq_true c1, decide_eq_true c2] at q
        have e2 : decide ((a : Int) ≤ (b : Int)) = decide (a ≤ b) := by
          rw [Bool.eq_iff_iff, decide_eq_true_eq, decide_eq_true_eq]
          omega
        show Q (.bl (decide ((a : Int) ≤ (b : Int)))) H
        rw [e2]
        exact q
      · refine itF (decide_eq_false (by omega)) ?_
        rw [e, decide_eq_false c2, Bool.and_false, Bool.false_and] at q
        exact q
    · refine itF (decide_eq_false (by omega)) ?_
      refine ⟨_, rfl, ?_⟩
      refine itF rfl ?_
      rw [e, decide_eq_false c1, Bool.false_and, Bool.false_and] at q
      exact q
end
end Wr
/-! The defs of calls.py: hold, part, quorum, prices, votes, rules, ruler. -/
namespace Wr
open PySem PySem.Spec PyProof.Rows L2
open Evl (Ex ex_l ex_t)
open Krcf (say nat frac list fr partOk ownOk)
theorem not_lt_dec {a b : Nat} : (!decide (a < b)) = decide (b ≤ a) := by
  rw [Bool.eq_iff_iff, Bool.not_eq_true', decide_eq_false_iff_not, decide_eq_true_eq]
  omega
theorem no_has_holder {d : Krcg.Desk} {pa qa pr : Addr} : (bookF d pa qa pr).lookup ("has_holder" : Str) = none := bookF_no (by decide +kernel) (by decide +kernel) (by decide +kernel) (by decide +kernel) (by decide +kernel)
theorem no_has_company {d : Krcg.Desk} {pa qa pr : Addr} : (bookF d pa qa pr).lookup ("has_company" : Str) = none := bookF_no (by decide +kernel) (by decide +kernel) (by decide +kernel) (by decide +kernel) (by decide +kernel)
theorem no_has_person {d : Krcg.Desk} {pa qa pr : Addr} : (bookF d pa qa pr).lookup ("has_person" : Str) = none := bookF_no (by decide +kernel) (by decide +kernel) (by decide +kernel) (by decide +kernel) (by decide +kernel)
theorem no_others {d : Krcg.Desk} {pa qa pr : Addr} : (bookF d pa qa pr).lookup ("held_by_others" : Str) = none := bookF_no (by decide +kernel) (by decide +kernel) (by decide +kernel) (by decide +kernel) (by decide +kernel)
theorem no_give {d : Krcg.Desk} {pa qa pr : Addr} : (bookF d pa qa pr).lookup ("give_part" : Str) = none := bookF_no (by decide +kernel) (by decide +kernel) (by decide +kernel) (by decide +kernel) (by decide +kernel)
theorem held_others {d : Krcg.Desk} {h j : Nat} (hh : h < d.w.people + d.w.firms) : Krcf.sum (partsOf d (othersOf d h) j) = d.w.held j - d.w.part h j := sum_others (fun x => d.w.part x j) h _ hh
theorem share_rat (a b : Nat) : mkRat (a : Int) ((b : Int)).toNat = (a : Rat) / (b : Rat) := by
  rw [Int.toNat_natCast, Rat.mkRat_eq_div]
  rfl
theorem partOk_iff {a b : Nat} : partOk a b = true ↔ 1 ≤ b ∧ b ≤ 100 ∧ a ≤ b := by
  unfold Krcf.partOk
  rw [Bool.and_eq_true, Bool.and_eq_true, decide_eq_true_eq, decide_eq_true_eq, decide_eq_true_eq, and_assoc]
theorem share_sm {a b : Nat} (h : partOk a b = true) : Sm 7 ((a : Rat) / (b : Rat)) := by
  obtain ⟨h1, h2, h3⟩ := partOk_iff.mp h
  rw [← share_rat, Int.toNat_natCast]
  exact low_sm (by omega) (by rw [Int.natAbs_natCast]; omega) (by omega)
theorem share_nonneg (a b : Nat) : 0 ≤ (a : Rat) / (b : Rat) := by
  rw [← share_rat, Int.toNat_natCast, ← Rat.num_nonneg, Rat.num_mkRat]
  split
  · exact Int.le_refl _
  · exact Int.ediv_nonneg (by omega) (by omega)
theorem share_le {a b : Nat} (h : partOk a b = true) : (a : Rat) / (b : Rat) ≤ 1 := by
  obtain ⟨h1, h2, h3⟩ := partOk_iff.mp h
  have n0 : b ≠ 0 := by omega
  rw [← share_rat, Int.toNat_natCast, Rat.le_iff, low_num n0, low_den n0]
  show (a : Int) / _ * 1 ≤ 1 * ((b : Int) / _)
  rw [Int.mul_one, Int.one_mul]
  exact Int.ediv_le_ediv (Int.natCast_pos.mpr (Int.gcd_pos_of_ne_zero_right _ (by omega))) (by omega)
section
variable {P : Program} {w : PySem.World} {K : PySem.W.Frag} {mg : Str → Option Value} {base : Heap} {A : Ad}
def rHold (gs : List Nat) (c : Krcg.Call) : Prop := ∃ h j a b, gs = [h, j, a, b] ∧ c = .hold h j a b
theorem ok_hold (T : Txt K mg A) : FnOk P w K mg base CX0 6 A.f_hold A.d_hold ["book", "given"] (spCall K A.C_Book rHold) := by
  have G_with_fraction := ok_with_fraction (P := P) (w := w) (base := base) T
  have G_Book_give_part := ok_Book_give_part (P := P) (w := w) (base := base) T
  have G_Book_part_of := ok_Book_part_of (P := P) (w := w) (base := base) T
  have G_at_least := ok_at_least (P := P) (w := w) (base := base) T
  have G_plus := ok_plus (P := P) (w := w) (base := base) T
  have G_Book_held_by_others := ok_Book_held_by_others (P := P) (w := w) (base := base) T
  have G_lowest := ok_lowest (P := P) (w := w) (base := base) T
  have G_is_share := ok_is_share (P := P) (w := w) (base := base) T
  have G_Book_has_company := ok_Book_has_company (P := P) (w := w) (base := base) T
  have G_Book_has_holder := ok_Book_has_holder (P := P) (w := w) (base := base) T
  refine T.d_hold.F.ok sc_hold (fun vs H Q E h => ?_) (fun cdv Ar outer s H vs Q E hr h => ⟨_, (pss_cons (ps_set (i := 2) sc_hold.nd rfl (Or.inl rfl) (pe_ix ix_list (pv 1) pe_int (fun _ _ => rfl))) (pss_cons (ps_set (i := 3) sc_hold.nd rfl (Or.inl rfl) (pe_ix ix_list (pv 1) pe_int (fun _ _ => rfl))) (pss_cons (ps_if (PW.pt (pw_or (pt_not (pt_val (pe_meth (pv 0) T.c_Book T.m_Book_has_holder G_Book_has_holder (hr.mono (by decide)) T.d_Book_has_holder.b .nil pass0 (pa_cons (pv 2) pa_nil)))) (pw_or1 (pt_not (pt_val (pe_meth (pv 0) T.c_Book T.m_Book_has_company G_Book_has_company (hr.mono (by decide)) T.d_Book_has_company.b .nil pass0 (pa_cons (pv 3) pa_nil))))))) (pss_one (ps_ret (pe_lst (pa_cons (pe_glob (v := .int (-2)) rfl T.g_NO_SUCH ⟨_, rfl⟩) pa_nil)))) pss_nil) (pss_cons (ps_if (pt_not (pt_val (pe_call G_is_share (hr.mono (by decide)) rfl T.d_is_share.g T.d_is_share.F.kp T.d_is_share.b .nil pass0 (pa_cons (pe_ix ix_list (pv 1) pe_int (fun _ _ => rfl)) (pa_cons (pe_ix ix_list (pv 1) pe_int (fun _ _ => rfl)) pa_nil))))) (pss_one (ps_ret (pe_lst (pa_cons (pe_glob (v := .int (-22)) rfl T.g_NOT_RIGHT ⟨_, rfl⟩) pa_nil)))) pss_nil) (pss_cons (ps_set (i := 4) sc_hold.nd rfl (Or.inl rfl) (pe_call G_lowest (hr.mono (by decide)) rfl T.d_lowest.g T.d_lowest.F.kp T.d_lowest.b .nil pass0 (pa_cons (pe_ix ix_list (pv 1) pe_int (fun _ _ => rfl)) (pa_cons (pe_ix ix_list (pv 1) pe_int (fun _ _ => rfl)) pa_nil)))) (pss_cons (ps_if (pt_not (pt_val (pe_call G_at_least (hr.mono (by decide)) rfl T.d_at_least.g T.d_at_least.F.kp T.d_at_least.b .nil pass0 (pa_cons (pe_glob (v := .ref A.a_ONE) rfl T.g_ONE rfl) (pa_cons (pe_call G_plus (hr.mono (by decide)) rfl T.d_plus.g T.d_plus.F.kp T.d_plus.b .nil pass0 (pa_cons (pe_meth (pv 0) T.c_Book T.m_Book_held_by_others G_Book_held_by_others (hr.mono (by decide)) T.d_Book_held_by_others.b .nil pass0 (pa_cons (pv 2) (pa_cons (pv 3) pa_nil))) (pa_cons (pv 4) pa_nil))) pa_nil))))) (pss_one (ps_ret (pe_lst (pa_cons (pe_glob (v := .int (-33)) rfl T.g_NONE_OR_TOO_MUCH ⟨_, rfl⟩) pa_nil)))) pss_nil) (pss_cons (ps_set (i := 5) sc_hold.nd rfl (Or.inl rfl) (pe_meth (pv 0) T.c_Book T.m_Book_part_of G_Book_part_of (hr.mono (by decide)) T.d_Book_part_of.b .nil pass0 (pa_cons (pv 2) (pa_cons (pv 3) pa_nil)))) (pss_cons (ps_expr (pe_meth (pv 0) T.c_Book T.m_Book_give_part G_Book_give_part (hr.mono (by decide)) T.d_Book_give_part.b .nil pass0 (pa_cons (pv 2) (pa_cons (pv 3) (pa_cons (pv 4) pa_nil))))) (pss_one (ps_ret (pe_call G_with_fraction (hr.mono (by decide)) rfl T.d_with_fraction.g T.d_with_fraction.F.kp T.d_with_fraction.b .nil pass0 (pa_cons (pv 5) pa_nil)))))))))))), ?_⟩)
  · obtain ⟨b, gl, d, L, gs, c, rfl, _⟩ := h
    rfl
  · obtain ⟨b, gl, d, L, gs, c, rfl, B, g, hg, ⟨h, j, u, l, rfl, rfl⟩, q⟩ := h
    have key := act_hold d h j u l
    refine ⟨_, rfl, _, _, _, _, rfl, rfl, SqL.of hg, rfl, _, rfl, _, _, _, _, rfl, rfl, SqL.of hg, rfl, ?_⟩
    refine ⟨_, rfl, _, _, _, rfl, B.ins, no_has_holder, _, rfl, b, d, L, h, rfl, B, _, rfl, ?_⟩
    have refuse : ∀ (z : Int) H', Ex H H' → Krcg.act (some d) (.hold h j u l) = (some d, say z) → tRet (tLst (tCons (tC (V.int z)) tNil)) { nx := fun _ H' => Q .non H', rt := Q } [] H' := fun z H' e k => by
      refine ⟨by show 1 ≤ sizeLine; decide, fun p hp => ?_⟩
      exact q d (say z) L _ p k g (B.ex (e.trans (Ex.new hp))) (.inl rfl) (Ex.keeps (e.trans (Ex.new hp))) (Evl.fresh_back e hp) upd_same
    by_cases c1 : h < d.w.people + d.w.firms
    · refine itF (by rw [decide_eq_true c1]; rfl) ?_
      refine ⟨_, rfl, _, _, _, rfl, B.ins, no_has_company, _, rfl, b, d, L, j, rfl, B, _, rfl, ?_⟩
      by_cases c2 : j < d.w.firms
      · refine itF (by rw [decide_eq_true c2]; rfl) ?_
        rw [if_neg (by rw [Bool.or_eq_true, decide_eq_true_eq, decide_eq_true_eq]; omega)] at key
        refine ⟨_, rfl, _, _, _, _, rfl, rfl, SqL.of hg, rfl, _, rfl, _, _, _, _, rfl, rfl, SqL.of hg, rfl, u, l, rfl, _, rfl, ?_⟩
        by_cases c3 : partOk u l = true
        · refine itF (by rw [c3]; rfl) ?_
          rw [if_neg (by rw [c3]; exact Bool.false_ne_true)] at key
          obtain ⟨l1, l2, l3⟩ := partOk_iff.mp c3
          refine ⟨_, rfl, _, _, _, _, rfl, rfl, SqL.of hg, rfl, _, rfl, _, _, _, _, rfl, rfl, SqL.of hg, rfl, (u : Int), (l : Int), 7, rfl, by omega, by rw [Int.natAbs_natCast]; omega, by rw [Int.natAbs_natCast]; omega, by omega, fun s1 H1 e1 f1 => ?_⟩
          rw [share_rat] at f1
          refine ⟨_, rfl, _, _, _, rfl, (B.ex e1).ins, no_others, _, rfl, _, rfl, b, d, L, h, j, rfl, B.ex e1, g, c2, fun o1 H2 e2 f2 => ?_⟩
          rw [held_others c1] at f2
          have so : Sm 73 (d.w.held j - d.w.part h j) := by
            rw [← held_others c1]
            refine (sm_parts g j _).mono ?_
            have := filter_len (fun x => x != h) (d.w.people + d.w.firms)
            have := g.p4
            have := g.f5
            show 1 + 8 * (othersOf d h).length ≤ 73
            unfold othersOf
            omega
          refine ⟨_, rfl, o1, s1, _, _, 73, 7, rfl, f2, f1.ex e2, so, share_sm c3, by omega, fun p1 H3 e3 f3 => ?_⟩
          have e13 := (e1.trans e2).trans e3
          refine ⟨_, p1, 1, _, 1, 81, rfl, fr_one T _, f3, sm_one, sm_add so (share_sm c3), by omega, _, rfl, ?_⟩
          by_cases c4 : d.w.held j - d.w.part h j + (u : Rat) / (l : Rat) ≤ 1
          · refine itF (by rw [decide_eq_true c4]; rfl) ?_
            rw [if_neg (by rw [Rat.not_lt]; exact c4)] at key
            refine ⟨_, rfl, _, _, _, rfl, (B.ex e13).ins, no_part_of, _, rfl, _, rfl, b, d, L, h, j, rfl, B.ex e13, c1, c2, fun c fc => ?_⟩
            refine ⟨_, rfl, _, _, _, rfl, (B.ex e13).ins, no_give, _, rfl, _, rfl, _, rfl, b, s1, d, L, h, j, _, rfl, B.ex e13, g, c1, c2, f1.ex (e2.trans e3), fun H4 B4 k4 fk nk => ?_⟩
            refine ⟨_, rfl, c, _, rfl, fk _ _ fc, fun p H5 hp e5 h5 => ?_⟩
            have hpn : H3 p = none := nk p hp
            exact q _ _ L H5 p key (g.setPart c1 c2 (share_sm c3) (share_nonneg u l) (share_le c3)) (B4.ex e5) (.inl rfl) (fun x o hx no => e5 _ _ (k4 x o (e13 x o hx) no)) (Evl.fresh_back e13 hpn) h5
          · refine itT (by rw [decide_eq_false c4]; rfl) ?_
            rw [if_pos (by rw [← Rat.not_le]; exact c4)] at key
            exact refuse _ _ e13 key
        · refine itT (by rw [Bool.not_eq_true] at c3; rw [c3]; rfl) ?_
          rw [if_pos (by rw [Bool.not_eq_true] at c3; rw [c3]; rfl)] at key
          exact refuse _ _ (Ex.refl H) key
      · refine itT (by rw [decide_eq_false c2]; rfl) ?_
        rw [if_pos (by rw [Bool.or_eq_true, decide_eq_true_eq, decide_eq_true_eq]; omega)] at key
        exact refuse _ _ (Ex.refl H) key
    · refine itT (by rw [decide_eq_false c1]; rfl) ?_
      refine itT rfl ?_
      rw [if_pos (by rw [Bool.or_eq_true, decide_eq_true_eq, decide_eq_true_eq]; omega)] at key
      exact refuse _ _ (Ex.refl H) key
end
end Wr
/-! The defs of calls.py: part, quorum, prices, votes, rules, ruler. -/
namespace Wr
open PySem PySem.Spec PyProof.Rows L2
open Evl (Ex ex_l ex_t)
open Krcf (say nat frac list fr partOk ownOk)
theorem put_quorum {d : Krcg.Desk} {pa qa pr q2 : Addr} : putF "quorum" (.ref q2) (bookF d pa qa pr) = bookF d pa q2 pr :=
  (put_past (by decide +kernel)).trans (congrArg _ ((put_past (by decide +kernel)).trans (congrArg _ ((put_past (by decide +kernel)).trans (congrArg _ put_here)))))
theorem put_prices {d : Krcg.Desk} {pa qa pr p2 : Addr} : putF "prices" (.ref p2) (bookF d pa qa pr) = bookF d pa qa p2 :=
  (put_past (by decide +kernel)).trans (congrArg _ ((put_past (by decide +kernel)).trans (congrArg _ ((put_past (by decide +kernel)).trans (congrArg _ ((put_past (by decide +kernel)).trans (congrArg _ put_here)))))))
section
variable {P : Program} {w : PySem.World} {K : PySem.W.Frag} {mg : Str → Option Value} {base : Heap} {A : Ad}
/-- the book with another quorum, other prices -/
theorem BookAt.reins {C : Addr} {H : Hp} {b : Addr} {d : Krcg.Desk} {L : Lay} (B : BookAt K C H b d L) {q : Rat} {ps : List Nat} {qa pr : Addr} (fq : Fr K H qa q) (hp : H pr = some (.lst (nats ps))) :
    BookAt K C (upd H b (.ins C L.dx (bookF d L.pa qa pr))) b { d with q := q, prices := ps } ⟨L.dx, L.pa, qa, pr, L.rows⟩ where
  ins := upd_same
  lpa := by
    rw [upd_ne (ne_of B.lpa B.ins (fun z => nomatch z))]
    exact B.lpa
  nd := B.nd
  len := B.len
  row := fun h r hr => by
    obtain ⟨cs, h1, h2, h3⟩ := B.row h r hr
    refine ⟨cs, ?_, h2, fun j c hc => (h3 j c hc).updI B.ins⟩
    rw [upd_ne (ne_of h1 B.ins (fun z => nomatch z))]
    exact h1
  q := fq.updI B.ins
  lpr := by
    rw [upd_ne (ne_of hp B.ins (fun z => nomatch z))]
    exact hp
theorem keeps_reins {C : Addr} {H : Hp} {b dx pa qa pr : Addr} {d : Krcg.Desk} {o : HO} (h : H b = some (.ins C dx (bookF d pa qa pr))) : Keeps C H (upd H b o) := fun x u hx no => by
  rw [upd_ne (ne_of hx h (fun z => no (.inl ⟨dx, d, pa, qa, pr, z⟩)))]
  exact hx
theorem Keeps.trans {C : Addr} {H H1 H2 : Hp} (a : Keeps C H H1) (b : Keeps C H1 H2) : Keeps C H H2 := fun x o h no => b x o (a x o h no) no
def rPart (gs : List Nat) (c : Krcg.Call) : Prop := ∃ h j, gs = [h, j] ∧ c = .part h j
theorem ok_part (T : Txt K mg A) : FnOk P w K mg base CX0 3 A.f_part A.d_part ["book", "given"] (spCall K A.C_Book rPart) := by
  have G_with_fraction := ok_with_fraction (P := P) (w := w) (base := base) T
  have G_Book_part_of := ok_Book_part_of (P := P) (w := w) (base := base) T
  have G_Book_has_company := ok_Book_has_company (P := P) (w := w) (base := base) T
  have G_Book_has_holder := ok_Book_has_holder (P := P) (w := w) (base := base) T
  refine T.d_part.F.ok sc_part (fun vs H Q E h => ?_) (fun cdv Ar outer s H vs Q E hr h => ⟨_, (pss_cons (ps_set (i := 2) sc_part.nd rfl (Or.inl rfl) (pe_ix ix_list (pv 1) pe_int (fun _ _ => rfl))) (pss_cons (ps_set (i := 3) sc_part.nd rfl (Or.inl rfl) (pe_ix ix_list (pv 1) pe_int (fun _ _ => rfl))) (pss_cons (ps_if (PW.pt (pw_or (pt_not (pt_val (pe_meth (pv 0) T.c_Book T.m_Book_has_holder G_Book_has_holder (hr.mono (by decide)) T.d_Book_has_holder.b .nil pass0 (pa_cons (pv 2) pa_nil)))) (pw_or1 (pt_not (pt_val (pe_meth (pv 0) T.c_Book T.m_Book_has_company G_Book_has_company (hr.mono (by decide)) T.d_Book_has_company.b .nil pass0 (pa_cons (pv 3) pa_nil))))))) (pss_one (ps_ret (pe_lst (pa_cons (pe_glob (v := .int (-2)) rfl T.g_NO_SUCH ⟨_, rfl⟩) pa_nil)))) pss_nil) (pss_one (ps_ret (pe_call G_with_fraction (hr.mono (by decide)) rfl T.d_with_fraction.g T.d_with_fraction.F.kp T.d_with_fraction.b .nil pass0 (pa_cons (pe_meth (pv 0) T.c_Book T.m_Book_part_of G_Book_part_of (hr.mono (by decide)) T.d_Book_part_of.b .nil pass0 (pa_cons (pv 2) (pa_cons (pv 3) pa_nil))) pa_nil))))))), ?_⟩)
  · obtain ⟨b, gl, d, L, gs, c, rfl, _⟩ := h
    rfl
  · obtain ⟨b, gl, d, L, gs, c, rfl, B, g, hg, ⟨h, j, rfl, rfl⟩, q⟩ := h
    have key := act_part d h j
    refine ⟨_, rfl, _, _, _, _, rfl, rfl, SqL.of hg, rfl, _, rfl, _, _, _, _, rfl, rfl, SqL.of hg, rfl, ?_⟩
    refine ⟨_, rfl, _, _, _, rfl, B.ins, no_has_holder, _, rfl, b, d, L, h, rfl, B, _, rfl, ?_⟩
    have refuse : ∀ (z : Int) H', Ex H H' → Krcg.act (some d) (.part h j) = (some d, say z) → tRet (tLst (tCons (tC (V.int z)) tNil)) { nx := fun _ H' => Q .non H', rt := Q } [] H' := fun z H' e k => by
      refine ⟨by show 1 ≤ sizeLine; decide, fun p hp => ?_⟩
      exact q d (say z) L _ p k g (B.ex (e.trans (Ex.new hp))) (.inl rfl) (Ex.keeps (e.trans (Ex.new hp))) (Evl.fresh_back e hp) upd_same
    by_cases c1 : h < d.w.people + d.w.firms
    · refine itF (by rw [decide_eq_true c1]; rfl) ?_
      refine ⟨_, rfl, _, _, _, rfl, B.ins, no_has_company, _, rfl, b, d, L, j, rfl, B, _, rfl, ?_⟩
      by_cases c2 : j < d.w.firms
      · refine itF (by rw [decide_eq_true c2]; rfl) ?_
        rw [if_neg (by rw [Bool.or_eq_true, decide_eq_true_eq, decide_eq_true_eq]; omega)] at key
        refine ⟨_, rfl, _, _, _, rfl, B.ins, no_part_of, _, rfl, _, rfl, b, d, L, h, j, rfl, B, c1, c2, fun c fc => ?_⟩
        exact ⟨c, _, rfl, fc, fun p H5 hp e5 h5 => q _ _ L H5 p key g (B.ex e5) (.inl rfl) (Ex.keeps e5) hp h5⟩
      · refine itT (by rw [decide_eq_false c2]; rfl) ?_
        rw [if_pos (by rw [Bool.or_eq_true, decide_eq_true_eq, decide_eq_true_eq]; omega)] at key
        exact refuse _ _ (Ex.refl H) key
    · refine itT (by rw [decide_eq_false c1]; rfl) ?_
      refine itT rfl ?_
      rw [if_pos (by rw [Bool.or_eq_true, decide_eq_true_eq, decide_eq_true_eq]; omega)] at key
      exact refuse _ _ (Ex.refl H) key
def rVotes (gs : List Nat) (c : Krcg.Call) : Prop := ∃ j, gs = [j] ∧ c = .votes j
theorem ok_votes (T : Txt K mg A) : FnOk P w K mg base CX0 5 A.f_votes A.d_votes ["book", "given"] (spCall K A.C_Book rVotes) := by
  have G_with_fraction := ok_with_fraction (P := P) (w := w) (base := base) T
  have G_votes_of := ok_votes_of (P := P) (w := w) (base := base) T
  have G_Book_has_company := ok_Book_has_company (P := P) (w := w) (base := base) T
  refine T.d_votes.F.ok sc_votes (fun vs H Q E h => ?_) (fun cdv Ar outer s H vs Q E hr h => ⟨_, (pss_cons (ps_set (i := 2) sc_votes.nd rfl (Or.inl rfl) (pe_ix ix_list (pv 1) pe_int (fun _ _ => rfl))) (pss_cons (ps_if (pt_not (pt_val (pe_meth (pv 0) T.c_Book T.m_Book_has_company G_Book_has_company (hr.mono (by decide)) T.d_Book_has_company.b .nil pass0 (pa_cons (pv 2) pa_nil)))) (pss_one (ps_ret (pe_lst (pa_cons (pe_glob (v := .int (-2)) rfl T.g_NO_SUCH ⟨_, rfl⟩) pa_nil)))) pss_nil) (pss_one (ps_ret (pe_call G_with_fraction (hr.mono (by decide)) rfl T.d_with_fraction.g T.d_with_fraction.F.kp T.d_with_fraction.b .nil pass0 (pa_cons (pe_call G_votes_of (hr.mono (by decide)) rfl T.d_votes_of.g T.d_votes_of.F.kp T.d_votes_of.b .nil pass0 (pa_cons (pv 0) (pa_cons (pv 2) pa_nil))) pa_nil)))))), ?_⟩)
  · obtain ⟨b, gl, d, L, gs, c, rfl, _⟩ := h
    rfl
  · obtain ⟨b, gl, d, L, gs, c, rfl, B, g, hg, ⟨j, rfl, rfl⟩, q⟩ := h
    have key := act_votes d j
    refine ⟨_, rfl, _, _, _, _, rfl, rfl, SqL.of hg, rfl, ?_⟩
    refine ⟨_, rfl, _, _, _, rfl, B.ins, no_has_company, _, rfl, b, d, L, j, rfl, B, _, rfl, ?_⟩
    by_cases c2 : j < d.w.firms
    · refine itF (by rw [decide_eq_true c2]; rfl) ?_
      rw [if_neg (by rw [decide_eq_true_eq]; omega)] at key
      refine ⟨_, rfl, _, rfl, b, d, L, j, rfl, B, g, c2, fun v H1 e1 f1 => ?_⟩
      exact ⟨v, _, rfl, f1, fun p H5 hp e5 h5 => q _ _ L H5 p key g (B.ex (e1.trans e5)) (.inl rfl) (Ex.keeps (e1.trans e5)) (Evl.fresh_back e1 hp) h5⟩
    · refine itT (by rw [decide_eq_false c2]; rfl) ?_
      rw [if_pos (by rw [decide_eq_true_eq]; omega)] at key
      refine ⟨by show 1 ≤ sizeLine; decide, fun p hp => ?_⟩
      exact q _ _ L _ p key g (B.ex (Ex.new hp)) (.inl rfl) (Ex.keeps (Ex.new hp)) hp upd_same
theorem ruled_len (d : Krcg.Desk) (g : Good d) (ps : Nat) : (Krcg.ruled d ps).length ≤ 100 := by
  have := (ruledFrom_canon d ps []).length
  have := g.f5
  unfold Krcg.ruled
  omega
def rRules (gs : List Nat) (c : Krcg.Call) : Prop := ∃ p, gs = [p] ∧ c = .rules p
theorem ok_rules (T : Txt K mg A) : FnOk P w K mg base CX0 10 A.f_rules A.d_rules ["book", "given"] (spCall K A.C_Book rRules) := by
  have G_with_count := ok_with_count (P := P) (w := w) (base := base) T
  have G_ruled_together := ok_ruled_together (P := P) (w := w) (base := base) T
  have G_Book_has_person := ok_Book_has_person (P := P) (w := w) (base := base) T
  refine T.d_rules.F.ok sc_rules (fun vs H Q E h => ?_) (fun cdv Ar outer s H vs Q E hr h => ⟨_, (pss_cons (ps_set (i := 2) sc_rules.nd rfl (Or.inl rfl) (pe_ix ix_list (pv 1) pe_int (fun _ _ => rfl))) (pss_cons (ps_if (pt_not (pt_val (pe_meth (pv 0) T.c_Book T.m_Book_has_person G_Book_has_person (hr.mono (by decide)) T.d_Book_has_person.b .nil pass0 (pa_cons (pv 2) pa_nil)))) (pss_one (ps_ret (pe_lst (pa_cons (pe_glob (v := .int (-2)) rfl T.g_NO_SUCH ⟨_, rfl⟩) pa_nil)))) pss_nil) (pss_one (ps_ret (pe_call G_with_count (hr.mono (by decide)) rfl T.d_with_count.g T.d_with_count.F.kp T.d_with_count.b .nil pass0 (pa_cons (pe_call G_ruled_together (hr.mono (by decide)) rfl T.d_ruled_together.g T.d_ruled_together.F.kp T.d_ruled_together.b .nil pass0 (pa_cons (pv 0) (pa_cons (pe_lst (pa_cons (pv 2) pa_nil)) pa_nil))) pa_nil)))))), ?_⟩)
  · obtain ⟨b, gl, d, L, gs, c, rfl, _⟩ := h
    rfl
  · obtain ⟨b, gl, d, L, gs, c, rfl, B, g, hg, ⟨p0, rfl, rfl⟩, q⟩ := h
    have key := act_rules d p0
    refine ⟨_, rfl, _, _, _, _, rfl, rfl, SqL.of hg, rfl, ?_⟩
    refine ⟨_, rfl, _, _, _, rfl, B.ins, no_has_person, _, rfl, b, d, L, p0, rfl, B, _, rfl, ?_⟩
    by_cases c2 : p0 < d.w.people
    · refine itF (by rw [decide_eq_true c2]; rfl) ?_
      rw [if_neg (by rw [decide_eq_true_eq]; omega)] at key
      refine ⟨_, rfl, _, rfl, by show 1 ≤ sizeLine; decide, fun s1 hs1 => ?_⟩
      refine ⟨b, s1, d, L, 2 ^ p0, [p0], rfl, B.ex (Ex.new hs1), g, SqL.of upd_same, told_one c2, fun v H1 hv e1 f1 => ?_⟩
      have e2 := (Ex.new (o := .lst [V.int (p0 : Int)]) hs1).trans e1
      exact ⟨v, _, rfl, f1, ruled_len d g _, fun p H5 hp e5 h5 => q _ _ L H5 p key g (B.ex (e2.trans e5)) (.inl rfl) (Ex.keeps (e2.trans e5)) (Evl.fresh_back e2 hp) h5⟩
    · refine itT (by rw [decide_eq_false c2]; rfl) ?_
      rw [if_pos (by rw [decide_eq_true_eq]; omega)] at key
      refine ⟨by show 1 ≤ sizeLine; decide, fun p hp => ?_⟩
      exact q _ _ L _ p key g (B.ex (Ex.new hp)) (.inl rfl) (Ex.keeps (Ex.new hp)) hp upd_same
def rRuler (gs : List Nat) (c : Krcg.Call) : Prop := ∃ j, gs = [j] ∧ c = .ruler j
theorem ruler_head (d : Krcg.Desk) (j : Nat) : Krcg.ruler d j = (rulersOf d j).head? := by
  unfold Krcg.ruler rulersOf
  rw [List.head?_filter]
theorem ok_ruler (T : Txt K mg A) : FnOk P w K mg base CX0 11 A.f_ruler A.d_ruler ["book", "given"] (spCall K A.C_Book rRuler) := by
  have G_rulers_of := ok_rulers_of (P := P) (w := w) (base := base) T
  have G_Book_has_company := ok_Book_has_company (P := P) (w := w) (base := base) T
  refine T.d_ruler.F.ok sc_ruler (fun vs H Q E h => ?_) (fun cdv Ar outer s H vs Q E hr h => ⟨_, (pss_cons (ps_set (i := 2) sc_ruler.nd rfl (Or.inl rfl) (pe_ix ix_list (pv 1) pe_int (fun _ _ => rfl))) (pss_cons (ps_if (pt_not (pt_val (pe_meth (pv 0) T.c_Book T.m_Book_has_company G_Book_has_company (hr.mono (by decide)) T.d_Book_has_company.b .nil pass0 (pa_cons (pv 2) pa_nil)))) (pss_one (ps_ret (pe_lst (pa_cons (pe_glob (v := .int (-2)) rfl T.g_NO_SUCH ⟨_, rfl⟩) pa_nil)))) pss_nil) (pss_cons (ps_set (i := 3) sc_ruler.nd rfl (Or.inl rfl) (pe_call G_rulers_of (hr.mono (by decide)) rfl T.d_rulers_of.g T.d_rulers_of.F.kp T.d_rulers_of.b .nil pass0 (pa_cons (pv 0) (pa_cons (pv 2) pa_nil)))) (pss_cons (ps_if (pt_cmpR op_eq (pe_callB call_len_seq (by rfl) T.no_len PySem.boot_len (pa_cons (pv 3) pa_nil)) pe_int (nomark _)) (pss_one (ps_ret (pe_lst (pa_cons (pe_glob (v := .int (-33)) rfl T.g_NONE_OR_TOO_MUCH ⟨_, rfl⟩) pa_nil)))) pss_nil) (pss_one (ps_ret (pe_lst (pa_cons (pe_ix ix_list (pv 3) pe_int (fun _ _ => rfl)) pa_nil)))))))), ?_⟩)
  · obtain ⟨b, gl, d, L, gs, c, rfl, _⟩ := h
    rfl
  · obtain ⟨b, gl, d, L, gs, c, rfl, B, g, hg, ⟨j, rfl, rfl⟩, q⟩ := h
    have key := act_ruler d j
    rw [ruler_head] at key
    refine ⟨_, rfl, _, _, _, _, rfl, rfl, SqL.of hg, rfl, ?_⟩
    refine ⟨_, rfl, _, _, _, rfl, B.ins, no_has_company, _, rfl, b, d, L, j, rfl, B, _, rfl, ?_⟩
    by_cases c2 : j < d.w.firms
    · refine itF (by rw [decide_eq_true c2]; rfl) ?_
      rw [if_neg (by rw [decide_eq_true_eq]; omega)] at key
      refine ⟨_, rfl, _, rfl, b, d, L, j, rfl, B, g, fun v H1 hv e1 f1 => ?_⟩
      refine ⟨_, rfl, v, _, rfl, .inl (SqL.of f1), rfl, _, rfl, ?_⟩
      cases c : rulersOf d j with
      | nil =>
        rw [c] at key
        refine itT rfl ?_
        refine ⟨by show 1 ≤ sizeLine; decide, fun p hp => ?_⟩
        exact q _ _ L _ p key g (B.ex (e1.trans (Ex.new hp))) (.inl rfl) (Ex.keeps (e1.trans (Ex.new hp))) (Evl.fresh_back e1 hp) upd_same
      | cons x xs =>
        rw [c] at key f1
        refine itF ?_ ?_
        · rw [decide_eq_false_iff_not]
          intro z
          have := V.int.inj z
          rw [nats, List.length_map, List.length_cons] at this
          omega
        · refine ⟨_, rfl, v, _, _, _, rfl, rfl, SqL.of f1, at_of (j := 0) rfl rfl, by show 1 ≤ sizeLine; decide, fun p hp => ?_⟩
          exact q _ _ L _ p key g (B.ex (e1.trans (Ex.new hp))) (.inl rfl) (Ex.keeps (e1.trans (Ex.new hp))) (Evl.fresh_back e1 hp) upd_same
    · refine itT (by rw [decide_eq_false c2]; rfl) ?_
      rw [if_pos (by rw [decide_eq_true_eq]; omega)] at key
      refine ⟨by show 1 ≤ sizeLine; decide, fun p hp => ?_⟩
      exact q _ _ L _ p key g (B.ex (Ex.new hp)) (.inl rfl) (Ex.keeps (Ex.new hp)) hp upd_same
end
end Wr
/-! The defs of calls.py: quorum, prices. -/
namespace Wr
open PySem PySem.Spec PyProof.Rows L2
open Evl (Ex ex_l ex_t)
open Krcf (say nat frac list fr partOk ownOk)
section
variable {P : Program} {w : PySem.World} {K : PySem.W.Frag} {mg : Str → Option Value} {base : Heap} {A : Ad}
theorem Good.setQ {d : Krcg.Desk} (g : Good d) {q : Rat} (hq : Sm 7 q) : Good { d with q := q } := ⟨g.p1, g.p4, g.f1, g.f5, g.len, g.row, g.sm, g.pos, g.le, hq, g.pl, g.pm⟩
theorem Good.setP {d : Krcg.Desk} (g : Good d) {l : List Nat} (hl : l.length = d.w.firms) (hm : ∀ x ∈ l, x ≤ 1000) : Good { d with prices := l } := ⟨g.p1, g.p4, g.f1, g.f5, g.len, g.row, g.sm, g.pos, g.le, g.qs, hl, hm⟩
theorem fresh_upd {H : Hp} {b p : Addr} {o : HO} (h : upd H b o p = none) : H p = none := by
  by_cases z : p = b
  · rw [z, upd_same] at h
    cases h
  · rw [upd_ne z] at h
    exact h
def rQuorum (gs : List Nat) (c : Krcg.Call) : Prop := ∃ a b, gs = [a, b] ∧ c = .quorum a b
theorem ok_quorum (T : Txt K mg A) : FnOk P w K mg base CX0 3 A.f_quorum A.d_quorum ["book", "given"] (spCall K A.C_Book rQuorum) := by
  have G_lowest := ok_lowest (P := P) (w := w) (base := base) T
  have G_is_share := ok_is_share (P := P) (w := w) (base := base) T
  refine T.d_quorum.F.ok sc_quorum (fun vs H Q E h => ?_) (fun cdv Ar outer s H vs Q E hr h => ⟨_, (pss_cons (ps_set (i := 2) sc_quorum.nd rfl (Or.inl rfl) (pe_ix ix_list (pv 1) pe_int (fun _ _ => rfl))) (pss_cons (ps_set (i := 3) sc_quorum.nd rfl (Or.inl rfl) (pe_ix ix_list (pv 1) pe_int (fun _ _ => rfl))) (pss_cons (ps_if (PW.pt (pw_or (pt_not (pt_val (pe_call G_is_share (hr.mono (by decide)) rfl T.d_is_share.g T.d_is_share.F.kp T.d_is_share.b .nil pass0 (pa_cons (pv 2) (pa_cons (pv 3) pa_nil))))) (pw_or1 (pt_cmpR op_le (pe_op op_mulW pe_int (pv 2)) (pv 3) (nomark _))))) (pss_one (ps_ret (pe_lst (pa_cons (pe_glob (v := .int (-22)) rfl T.g_NOT_RIGHT ⟨_, rfl⟩) pa_nil)))) pss_nil) (pss_cons (ps_fld (pv 0) (pe_call G_lowest (hr.mono (by decide)) rfl T.d_lowest.g T.d_lowest.F.kp T.d_lowest.b .nil pass0 (pa_cons (pv 2) (pa_cons (pv 3) pa_nil))) rfl) (pss_one (ps_ret (pe_lst (pa_cons pe_int pa_nil)))))))), ?_⟩)
  · obtain ⟨b, gl, d, L, gs, c, rfl, _⟩ := h
    rfl
  · obtain ⟨b, gl, d, L, gs, c, rfl, B, g, hg, ⟨u, l, rfl, rfl⟩, q⟩ := h
    have key := act_quorum d u l
    refine ⟨_, rfl, _, _, _, _, rfl, rfl, SqL.of hg, rfl, _, rfl, _, _, _, _, rfl, rfl, SqL.of hg, rfl, ?_⟩
    refine ⟨_, rfl, _, rfl, u, l, rfl, _, rfl, ?_⟩
    by_cases c1 : partOk u l = true
    · refine itF (by rw [c1]; rfl) ?_
      obtain ⟨l1, l2, l3⟩ := partOk_iff.mp c1
      refine ⟨_, rfl, _, _, rfl, rfl, wide_mul (a := 2) (b := 7) (by decide) (by rw [Int.natAbs_natCast]; omega) (by omega) (by omega) (by omega), _, rfl, _, _, rfl, rfl, _, rfl, ?_⟩
      by_cases c2 : 2 * u ≤ l
      · refine itT (decide_eq_true (by omega)) ?_
        rw [if_pos (by rw [decide_eq_true c2, Bool.or_true])] at key
        refine ⟨by show 1 ≤ sizeLine; decide, fun p hp => ?_⟩
        exact q _ _ L _ p key g (B.ex (Ex.new hp)) (.inl rfl) (Ex.keeps (Ex.new hp)) hp upd_same
      · refine itF (decide_eq_false (by omega)) ?_
        rw [if_neg (by rw [decide_eq_false c2, Bool.or_false, c1]; exact Bool.false_ne_true)] at key
        refine ⟨_, rfl, _, rfl, (u : Int), (l : Int), 7, rfl, by omega, by rw [Int.natAbs_natCast]; omega, by rw [Int.natAbs_natCast]; omega, by omega, fun s1 H1 e1 f1 => ?_⟩
        rw [share_rat] at f1
        refine ⟨_, rfl, b, A.C_Book, L.dx, _, rfl, (B.ex e1).ins, T.c_Book, T.n_Book_quorum, (by show 5 < 1000; decide), ?_⟩
        rw [put_quorum]
        have B2 := (B.ex e1).reins f1 (B.ex e1).lpr
        refine ⟨by show 1 ≤ sizeLine; decide, fun p hp => ?_⟩
        refine q _ _ _ _ p key (g.setQ (share_sm c1)) (B2.ex (Ex.new hp)) (.inl rfl) ((Ex.keeps e1).trans ((keeps_reins (B.ex e1).ins).trans (Ex.keeps (Ex.new hp)))) (Evl.fresh_back e1 (fresh_upd hp)) upd_same
    · rw [Bool.not_eq_true] at c1
      refine itT (by rw [c1]; rfl) ?_
      refine itT rfl ?_
      rw [if_pos (by rw [c1]; rfl)] at key
      refine ⟨by show 1 ≤ sizeLine; decide, fun p hp => ?_⟩
      exact q _ _ L _ p key g (B.ex (Ex.new hp)) (.inl rfl) (Ex.keeps (Ex.new hp)) hp upd_same
def rPrices (gs : List Nat) (c : Krcg.Call) : Prop := c = .prices gs
theorem ok_prices (T : Txt K mg A) : FnOk P w K mg base CX0 1 A.f_prices A.d_prices ["book", "given"] (spCall K A.C_Book rPrices) := by
  refine T.d_prices.F.ok sc_prices (fun vs H Q E h => ?_) (fun cdv Ar outer s H vs Q E hr h => ⟨_, (pss_cons (ps_if (PW.pt (pw_or (pt_cmpR op_ne (pe_callB call_len_seq (by rfl) T.no_len PySem.boot_len (pa_cons (pv 1) pa_nil)) (pe_fld (pv 0) rfl) (nomark _)) (pw_or1 (pt_cmpR op_gt (pe_callB (cr_max rfl) (by rfl) T.no_max (by decide +kernel) (pa_cons (pv 1) pa_nil)) (pe_glob (v := .int (1000)) rfl T.g_MOST_PRICE ⟨_, rfl⟩) (nomark _))))) (pss_one (ps_ret (pe_lst (pa_cons (pe_glob (v := .int (-22)) rfl T.g_NOT_RIGHT ⟨_, rfl⟩) pa_nil)))) pss_nil) (pss_cons (ps_fld (pv 0) (pe_callTy call_list_of (by rfl) T.no_list (by decide +kernel) (pa_cons (pv 1) pa_nil)) rfl) (pss_one (ps_ret (pe_lst (pa_cons pe_int pa_nil)))))), ?_⟩)
  · obtain ⟨b, gl, d, L, gs, c, rfl, _⟩ := h
    rfl
  · obtain ⟨b, gl, d, L, gs, c, rfl, B, g, hg, rfl, q⟩ := h
    have key := act_prices d gs
    have f1 := g.f1
    refine ⟨_, rfl, gl, _, rfl, .inl (SqL.of hg), _, rfl, _, _, _, _, _, rfl, B.ins, T.c_Book, T.n_Book_companies, bookF_companies, rfl, _, rfl, ?_⟩
    have el : ((nats gs).length : Int) = (gs.length : Int) := by rw [nats, List.length_map]
    have no : ownOk d.w gs = false → tRet (tLst (tCons (tC (V.int (-22))) tNil)) { nx := fun _ H' => Q .non H', rt := Q } [] H := fun z => by
      rw [if_pos (by rw [z]; rfl)] at key
      refine ⟨by show 1 ≤ sizeLine; decide, fun p hp => ?_⟩
      exact q _ _ L _ p key g (B.ex (Ex.new hp)) (.inl rfl) (Ex.keeps (Ex.new hp)) hp upd_same
    by_cases c1 : gs.length = d.w.firms
    · refine itF ?_ ?_
      · rw [el, c1, decide_eq_true rfl]
        rfl
      refine ⟨_, rfl, gl, gs.map (fun (n : Nat) => (n : Int)), rfl, SqL.of (by rw [← nats_ints]; exact hg), by rw [List.length_map]; omega, fun m hm hle => ?_⟩
      refine ⟨_, _, rfl, rfl, _, rfl, ?_⟩
      obtain ⟨m0, hm0, rfl⟩ := List.mem_map.mp hm
      by_cases c2 : m0 ≤ 1000
      · refine itF (decide_eq_false (by omega)) ?_
        have all : ∀ x ∈ gs, x ≤ 1000 := fun x hx => by
          have := hle (x : Int) (List.mem_map.mpr ⟨x, hx, rfl⟩)
          omega
        have ok : ownOk d.w gs = true := by
          unfold Krcf.ownOk
          rw [Bool.and_eq_true, beq_iff_eq, List.all_eq_true]
          exact ⟨c1, fun x hx => decide_eq_true (all x hx)⟩
        rw [if_neg (by rw [ok]; exact Bool.false_ne_true)] at key
        refine ⟨_, rfl, gl, _, rfl, .inl (SqL.of hg), fun p1 hp1 => ?_⟩
        have e1 := Ex.new (o := .lst (nats gs)) hp1
        refine ⟨_, rfl, b, A.C_Book, L.dx, _, rfl, (B.ex e1).ins, T.c_Book, T.n_Book_prices, (by show 5 < 1000; decide), ?_⟩
        rw [put_prices]
        have B2 := (B.ex e1).reins (B.ex e1).q (ps := gs) upd_same
        refine ⟨by show 1 ≤ sizeLine; decide, fun p hp => ?_⟩
        exact q _ _ _ _ p key (g.setP c1 all) (B2.ex (Ex.new hp)) (.inr hp1) ((Ex.keeps e1).trans ((keeps_reins (B.ex e1).ins).trans (Ex.keeps (Ex.new hp)))) (Evl.fresh_back e1 (fresh_upd hp)) upd_same
      · refine itT (decide_eq_true (by omega)) ?_
        refine no ?_
        unfold Krcf.ownOk
        rw [Bool.and_eq_false_iff]
        right
        rw [List.all_eq_false]
        exact ⟨m0, hm0, by rw [decide_eq_true_eq]; exact c2⟩
    · refine itT ?_ ?_
      · rw [el, decide_eq_false (fun z => c1 (by have := V.int.inj z; omega))]
        rfl
      refine itT rfl (no ?_)
      unfold Krcf.ownOk
      rw [Bool.and_eq_false_iff]
      left
      rw [beq_eq_false_iff_ne]
      exact c1
end
end Wr
/-! The defs of calls.py: selfruled, free, together, least, weight, cheapest, lacking, state. -/
namespace Wr
open PySem PySem.Spec PyProof.Rows L2
open Evl (Ex ex_l ex_t)
open Krcf (say nat frac list fr partOk ownOk)
theorem act_selfruled (d : Krcg.Desk) : Krcg.act (some d) .selfruled = (some d, list (Krcg.selfRuled d)) := rfl
theorem act_free (d : Krcg.Desk) : Krcg.act (some d) .free = (some d, list (freeOf d)) := by
  rw [freeOf_eq]
  rfl
theorem act_together (d : Krcg.Desk) (s : Nat) : Krcg.act (some d) (.together s) = (some d, if cntG d ≤ s then say (-22) else list (Krcg.ruled d s)) := rfl
theorem act_least (d : Krcg.Desk) (j : Nat) : Krcg.act (some d) (.least j) = (some d, if decide (d.w.firms ≤ j) = true then say (-2) else list (Krcg.least d j)) := rfl
theorem act_weight (d : Krcg.Desk) (p j : Nat) : Krcg.act (some d) (.weight p j) = (some d, if (decide (d.w.people ≤ p) || decide (d.w.firms ≤ j)) = true then say (-2) else nat (Krcg.weight d p j)) := rfl
theorem act_lacking (d : Krcg.Desk) (p j : Nat) : Krcg.act (some d) (.lacking p j) = (some d, if (decide (d.w.people ≤ p) || decide (d.w.firms ≤ j)) = true then say (-2) else frac (Krcg.lacking d p (Krcg.ruled d (2 ^ p)) j)) := rfl
/-- what is told of a way -/
def wayAns (y : Krcg.Way) : Krcg.Ans := { num := y.buys.length, nums := fr y.cost ++ y.buys.flatMap fun b => (b.1 : Int) :: fr b.2 }
theorem act_cheapest (d : Krcg.Desk) (p j : Nat) : Krcg.act (some d) (.cheapest p j) = (some d, if (decide (d.w.people ≤ p) || decide (d.w.firms ≤ j)) = true then say (-2) else match Krcg.cheapest d p j with | none => say (-33) | some y => wayAns y) := rfl
theorem act_state (d : Krcg.Desk) : Krcg.act (some d) .state = (some d, { num := d.w.people, nums := (d.w.firms : Int) :: fr d.q ++ Krcf.ints d.prices }) := rfl
theorem canon_len {d : Krcg.Desk} (g : Good d) {l : List Nat} (h : Canon d.w.firms l) : l.length ≤ 100 := by
  have := h.length
  have := g.f5
  omega
section
variable {P : Program} {w : PySem.World} {K : PySem.W.Frag} {mg : Str → Option Value} {base : Heap} {A : Ad}
def rSelf (gs : List Nat) (c : Krcg.Call) : Prop := gs = [] ∧ c = .selfruled
theorem ok_selfruled (T : Txt K mg A) : FnOk P w K mg base CX0 9 A.f_selfruled A.d_selfruled ["book", "given"] (spCall K A.C_Book rSelf) := by
  have G_with_count := ok_with_count (P := P) (w := w) (base := base) T
  have G_self_ruled := ok_self_ruled (P := P) (w := w) (base := base) T
  refine T.d_selfruled.F.ok sc_selfruled (fun vs H Q E h => ?_) (fun cdv Ar outer s H vs Q E hr h => ⟨_, (pss_one (ps_ret (pe_call G_with_count (hr.mono (by decide)) rfl T.d_with_count.g T.d_with_count.F.kp T.d_with_count.b .nil pass0 (pa_cons (pe_call G_self_ruled (hr.mono (by decide)) rfl T.d_self_ruled.g T.d_self_ruled.F.kp T.d_self_ruled.b .nil pass0 (pa_cons (pv 0) pa_nil)) pa_nil)))), ?_⟩)
  · obtain ⟨b, gl, d, L, gs, c, rfl, _⟩ := h
    rfl
  · obtain ⟨b, gl, d, L, gs, c, rfl, B, g, hg, ⟨rfl, rfl⟩, q⟩ := h
    refine ⟨_, rfl, b, d, L, rfl, B, g, fun s H1 e1 hs => ?_⟩
    exact ⟨s, _, rfl, hs, canon_len g (selfRuled_canon d), fun p H2 hp e2 h2 => q _ _ L H2 p (act_selfruled d) g (B.ex (e1.trans e2)) (.inl rfl) (Ex.keeps (e1.trans e2)) (Evl.fresh_back e1 hp) h2⟩
def rFree (gs : List Nat) (c : Krcg.Call) : Prop := gs = [] ∧ c = .free
theorem ok_free (T : Txt K mg A) : FnOk P w K mg base CX0 11 A.f_free A.d_free ["book", "given"] (spCall K A.C_Book rFree) := by
  have G_with_count := ok_with_count (P := P) (w := w) (base := base) T
  have G_free_companies := ok_free_companies (P := P) (w := w) (base := base) T
  refine T.d_free.F.ok sc_free (fun vs H Q E h => ?_) (fun cdv Ar outer s H vs Q E hr h => ⟨_, (pss_one (ps_ret (pe_call G_with_count (hr.mono (by decide)) rfl T.d_with_count.g T.d_with_count.F.kp T.d_with_count.b .nil pass0 (pa_cons (pe_call G_free_companies (hr.mono (by decide)) rfl T.d_free_companies.g T.d_free_companies.F.kp T.d_free_companies.b .nil pass0 (pa_cons (pv 0) pa_nil)) pa_nil)))), ?_⟩)
  · obtain ⟨b, gl, d, L, gs, c, rfl, _⟩ := h
    rfl
  · obtain ⟨b, gl, d, L, gs, c, rfl, B, g, hg, ⟨rfl, rfl⟩, q⟩ := h
    refine ⟨_, rfl, b, d, L, rfl, B, g, fun s H1 e1 hs => ?_⟩
    exact ⟨s, _, rfl, hs, canon_len g (canon_filter _ _), fun p H2 hp e2 h2 => q _ _ L H2 p (act_free d) g (B.ex (e1.trans e2)) (.inl rfl) (Ex.keeps (e1.trans e2)) (Evl.fresh_back e1 hp) h2⟩
def rTogether (gs : List Nat) (c : Krcg.Call) : Prop := ∃ s, gs = [s] ∧ c = .together s
theorem ok_together (T : Txt K mg A) : FnOk P w K mg base CX0 11 A.f_together A.d_together ["book", "given"] (spCall K A.C_Book rTogether) := by
  have G_with_count := ok_with_count (P := P) (w := w) (base := base) T
  have G_ruled_by_group := ok_ruled_by_group (P := P) (w := w) (base := base) T
  have G_group_count := ok_group_count (P := P) (w := w) (base := base) T
  refine T.d_together.F.ok sc_together (fun vs H Q E h => ?_) (fun cdv Ar outer s H vs Q E hr h => ⟨_, (pss_cons (ps_set (i := 2) sc_together.nd rfl (Or.inl rfl) (pe_ix ix_list (pv 1) pe_int (fun _ _ => rfl))) (pss_cons (ps_if (pt_cmpR op_ge (pv 2) (pe_call G_group_count (hr.mono (by decide)) rfl T.d_group_count.g T.d_group_count.F.kp T.d_group_count.b .nil pass0 (pa_cons (pv 0) pa_nil)) (nomark _)) (pss_one (ps_ret (pe_lst (pa_cons (pe_glob (v := .int (-22)) rfl T.g_NOT_RIGHT ⟨_, rfl⟩) pa_nil)))) pss_nil) (pss_one (ps_ret (pe_call G_with_count (hr.mono (by decide)) rfl T.d_with_count.g T.d_with_count.F.kp T.d_with_count.b .nil pass0 (pa_cons (pe_call G_ruled_by_group (hr.mono (by decide)) rfl T.d_ruled_by_group.g T.d_ruled_by_group.F.kp T.d_ruled_by_group.b .nil pass0 (pa_cons (pv 0) (pa_cons (pv 2) pa_nil))) pa_nil)))))), ?_⟩)
  · obtain ⟨b, gl, d, L, gs, c, rfl, _⟩ := h
    rfl
  · obtain ⟨b, gl, d, L, gs, c, rfl, B, g, hg, ⟨s, rfl, rfl⟩, q⟩ := h
    have key := act_together d s
    refine ⟨_, rfl, _, _, _, _, rfl, rfl, SqL.of hg, rfl, ?_⟩
    refine ⟨_, rfl, _, rfl, b, d, L, rfl, B, g, _, _, rfl, rfl, _, rfl, ?_⟩
    by_cases c : cntG d ≤ s
    · refine itT (decide_eq_true (by omega)) ?_
      rw [if_pos c] at key
      refine ⟨by show 1 ≤ sizeLine; decide, fun p hp => ?_⟩
      exact q _ _ L _ p key g (B.ex (Ex.new hp)) (.inl rfl) (Ex.keeps (Ex.new hp)) hp upd_same
    · refine itF (decide_eq_false (by omega)) ?_
      rw [if_neg c] at key
      refine ⟨_, rfl, _, rfl, b, d, L, s, rfl, B, g, fun r H1 e1 hr1 => ?_⟩
      exact ⟨r, _, rfl, hr1, ruled_len d g _, fun p H2 hp e2 h2 => q _ _ L H2 p key g (B.ex (e1.trans e2)) (.inl rfl) (Ex.keeps (e1.trans e2)) (Evl.fresh_back e1 hp) h2⟩
def rLeast (gs : List Nat) (c : Krcg.Call) : Prop := ∃ j, gs = [j] ∧ c = .least j
theorem ok_least (T : Txt K mg A) : FnOk P w K mg base CX0 13 A.f_least A.d_least ["book", "given"] (spCall K A.C_Book rLeast) := by
  have G_with_count := ok_with_count (P := P) (w := w) (base := base) T
  have G_least_groups := ok_least_groups (P := P) (w := w) (base := base) T
  have G_Book_has_company := ok_Book_has_company (P := P) (w := w) (base := base) T
  refine T.d_least.F.ok sc_least (fun vs H Q E h => ?_) (fun cdv Ar outer s H vs Q E hr h => ⟨_, (pss_cons (ps_set (i := 2) sc_least.nd rfl (Or.inl rfl) (pe_ix ix_list (pv 1) pe_int (fun _ _ => rfl))) (pss_cons (ps_if (pt_not (pt_val (pe_meth (pv 0) T.c_Book T.m_Book_has_company G_Book_has_company (hr.mono (by decide)) T.d_Book_has_company.b .nil pass0 (pa_cons (pv 2) pa_nil)))) (pss_one (ps_ret (pe_lst (pa_cons (pe_glob (v := .int (-2)) rfl T.g_NO_SUCH ⟨_, rfl⟩) pa_nil)))) pss_nil) (pss_one (ps_ret (pe_call G_with_count (hr.mono (by decide)) rfl T.d_with_count.g T.d_with_count.F.kp T.d_with_count.b .nil pass0 (pa_cons (pe_call G_least_groups (hr.mono (by decide)) rfl T.d_least_groups.g T.d_least_groups.F.kp T.d_least_groups.b .nil pass0 (pa_cons (pv 0) (pa_cons (pv 2) pa_nil))) pa_nil)))))), ?_⟩)
  · obtain ⟨b, gl, d, L, gs, c, rfl, _⟩ := h
    rfl
  · obtain ⟨b, gl, d, L, gs, c, rfl, B, g, hg, ⟨j, rfl, rfl⟩, q⟩ := h
    have key := act_least d j
    refine ⟨_, rfl, _, _, _, _, rfl, rfl, SqL.of hg, rfl, ?_⟩
    refine ⟨_, rfl, _, _, _, rfl, B.ins, no_has_company, _, rfl, b, d, L, j, rfl, B, _, rfl, ?_⟩
    by_cases c2 : j < d.w.firms
    · refine itF (by rw [decide_eq_true c2]; rfl) ?_
      rw [if_neg (by rw [decide_eq_true_eq]; omega)] at key
      refine ⟨_, rfl, _, rfl, b, d, L, j, rfl, B, g, fun r H1 e1 hr1 => ?_⟩
      refine ⟨r, _, rfl, hr1, ?_, fun p H2 hp e2 h2 => q _ _ L H2 p key g (B.ex (e1.trans e2)) (.inl rfl) (Ex.keeps (e1.trans e2)) (Evl.fresh_back e1 hp) h2⟩
      have h1 := (least_canon d j).length
      have h2 := cntG_le g
      unfold cntG at h2
      omega
    · refine itT (by rw [decide_eq_false c2]; rfl) ?_
      rw [if_pos (by rw [decide_eq_true_eq]; omega)] at key
      refine ⟨by show 1 ≤ sizeLine; decide, fun p hp => ?_⟩
      exact q _ _ L _ p key g (B.ex (Ex.new hp)) (.inl rfl) (Ex.keeps (Ex.new hp)) hp upd_same
def rWeight (gs : List Nat) (c : Krcg.Call) : Prop := ∃ p j, gs = [p, j] ∧ c = .weight p j
theorem ok_weight (T : Txt K mg A) : FnOk P w K mg base CX0 13 A.f_weight A.d_weight ["book", "given"] (spCall K A.C_Book rWeight) := by
  have G_weight_of := ok_weight_of (P := P) (w := w) (base := base) T
  have G_Book_has_company := ok_Book_has_company (P := P) (w := w) (base := base) T
  have G_Book_has_person := ok_Book_has_person (P := P) (w := w) (base := base) T
  refine T.d_weight.F.ok sc_weight (fun vs H Q E h => ?_) (fun cdv Ar outer s H vs Q E hr h => ⟨_, (pss_cons (ps_set (i := 2) sc_weight.nd rfl (Or.inl rfl) (pe_ix ix_list (pv 1) pe_int (fun _ _ => rfl))) (pss_cons (ps_set (i := 3) sc_weight.nd rfl (Or.inl rfl) (pe_ix ix_list (pv 1) pe_int (fun _ _ => rfl))) (pss_cons (ps_if (PW.pt (pw_or (pt_not (pt_val (pe_meth (pv 0) T.c_Book T.m_Book_has_person G_Book_has_person (hr.mono (by decide)) T.d_Book_has_person.b .nil pass0 (pa_cons (pv 2) pa_nil)))) (pw_or1 (pt_not (pt_val (pe_meth (pv 0) T.c_Book T.m_Book_has_company G_Book_has_company (hr.mono (by decide)) T.d_Book_has_company.b .nil pass0 (pa_cons (pv 3) pa_nil))))))) (pss_one (ps_ret (pe_lst (pa_cons (pe_glob (v := .int (-2)) rfl T.g_NO_SUCH ⟨_, rfl⟩) pa_nil)))) pss_nil) (pss_one (ps_ret (pe_lst (pa_cons (pe_call G_weight_of (hr.mono (by decide)) rfl T.d_weight_of.g T.d_weight_of.F.kp T.d_weight_of.b .nil pass0 (pa_cons (pv 0) (pa_cons (pv 2) (pa_cons (pv 3) pa_nil)))) pa_nil))))))), ?_⟩)
  · obtain ⟨b, gl, d, L, gs, c, rfl, _⟩ := h
    rfl
  · obtain ⟨b, gl, d, L, gs, c, rfl, B, g, hg, ⟨p0, j, rfl, rfl⟩, q⟩ := h
    have key := act_weight d p0 j
    refine ⟨_, rfl, _, _, _, _, rfl, rfl, SqL.of hg, rfl, _, rfl, _, _, _, _, rfl, rfl, SqL.of hg, rfl, ?_⟩
    refine ⟨_, rfl, _, _, _, rfl, B.ins, no_has_person, _, rfl, b, d, L, p0, rfl, B, _, rfl, ?_⟩
    have refuse : (d.w.people ≤ p0 ∨ d.w.firms ≤ j) → tRet (tLst (tCons (tC (V.int (-2))) tNil)) { nx := fun _ H' => Q .non H', rt := Q } [] H := fun z => by
      rw [if_pos (by rw [Bool.or_eq_true, decide_eq_true_eq, decide_eq_true_eq]; exact z)] at key
      refine ⟨by show 1 ≤ sizeLine; decide, fun p hp => ?_⟩
      exact q _ _ L _ p key g (B.ex (Ex.new hp)) (.inl rfl) (Ex.keeps (Ex.new hp)) hp upd_same
    by_cases c1 : p0 < d.w.people
    · refine itF (by rw [decide_eq_true c1]; rfl) ?_
      refine ⟨_, rfl, _, _, _, rfl, B.ins, no_has_company, _, rfl, b, d, L, j, rfl, B, _, rfl, ?_⟩
      by_cases c2 : j < d.w.firms
      · refine itF (by rw [decide_eq_true c2]; rfl) ?_
        rw [if_neg (by rw [Bool.or_eq_true, decide_eq_true_eq, decide_eq_true_eq]; omega)] at key
        refine ⟨_, rfl, _, rfl, _, rfl, b, d, L, p0, j, rfl, B, g, c1, fun H1 e1 => ⟨by show 1 ≤ sizeLine; decide, fun p hp => ?_⟩⟩
        exact q _ _ L _ p key g (B.ex (e1.trans (Ex.new hp))) (.inl rfl) (Ex.keeps (e1.trans (Ex.new hp))) (Evl.fresh_back e1 hp) upd_same
      · exact itT (by rw [decide_eq_false c2]; rfl) (refuse (by omega))
    · refine itT (by rw [decide_eq_false c1]; rfl) ?_
      exact itT rfl (refuse (by omega))
def rLacking (gs : List Nat) (c : Krcg.Call) : Prop := ∃ p j, gs = [p, j] ∧ c = .lacking p j
theorem ok_lacking (T : Txt K mg A) : FnOk P w K mg base CX0 10 A.f_lacking A.d_lacking ["book", "given"] (spCall K A.C_Book rLacking) := by
  have G_with_fraction := ok_with_fraction (P := P) (w := w) (base := base) T
  have G_lack_of := ok_lack_of (P := P) (w := w) (base := base) T
  have G_ruled_together := ok_ruled_together (P := P) (w := w) (base := base) T
  have G_Book_has_company := ok_Book_has_company (P := P) (w := w) (base := base) T
  have G_Book_has_person := ok_Book_has_person (P := P) (w := w) (base := base) T
  refine T.d_lacking.F.ok sc_lacking (fun vs H Q E h => ?_) (fun cdv Ar outer s H vs Q E hr h => ⟨_, (pss_cons (ps_set (i := 2) sc_lacking.nd rfl (Or.inl rfl) (pe_ix ix_list (pv 1) pe_int (fun _ _ => rfl))) (pss_cons (ps_set (i := 3) sc_lacking.nd rfl (Or.inl rfl) (pe_ix ix_list (pv 1) pe_int (fun _ _ => rfl))) (pss_cons (ps_if (PW.pt (pw_or (pt_not (pt_val (pe_meth (pv 0) T.c_Book T.m_Book_has_person G_Book_has_person (hr.mono (by decide)) T.d_Book_has_person.b .nil pass0 (pa_cons (pv 2) pa_nil)))) (pw_or1 (pt_not (pt_val (pe_meth (pv 0) T.c_Book T.m_Book_has_company G_Book_has_company (hr.mono (by decide)) T.d_Book_has_company.b .nil pass0 (pa_cons (pv 3) pa_nil))))))) (pss_one (ps_ret (pe_lst (pa_cons (pe_glob (v := .int (-2)) rfl T.g_NO_SUCH ⟨_, rfl⟩) pa_nil)))) pss_nil) (pss_one (ps_ret (pe_call G_with_fraction (hr.mono (by decide)) rfl T.d_with_fraction.g T.d_with_fraction.F.kp T.d_with_fraction.b .nil pass0 (pa_cons (pe_call G_lack_of (hr.mono (by decide)) rfl T.d_lack_of.g T.d_lack_of.F.kp T.d_lack_of.b .nil pass0 (pa_cons (pv 0) (pa_cons (pv 2) (pa_cons (pe_call G_ruled_together (hr.mono (by decide)) rfl T.d_ruled_together.g T.d_ruled_together.F.kp T.d_ruled_together.b .nil pass0 (pa_cons (pv 0) (pa_cons (pe_lst (pa_cons (pv 2) pa_nil)) pa_nil))) (pa_cons (pv 3) pa_nil))))) pa_nil))))))), ?_⟩)
  · obtain ⟨b, gl, d, L, gs, c, rfl, _⟩ := h
    rfl
  · obtain ⟨b, gl, d, L, gs, c, rfl, B, g, hg, ⟨p0, j, rfl, rfl⟩, q⟩ := h
    have key := act_lacking d p0 j
    refine ⟨_, rfl, _, _, _, _, rfl, rfl, SqL.of hg, rfl, _, rfl, _, _, _, _, rfl, rfl, SqL.of hg, rfl, ?_⟩
    refine ⟨_, rfl, _, _, _, rfl, B.ins, no_has_person, _, rfl, b, d, L, p0, rfl, B, _, rfl, ?_⟩
    have refuse : (d.w.people ≤ p0 ∨ d.w.firms ≤ j) → tRet (tLst (tCons (tC (V.int (-2))) tNil)) { nx := fun _ H' => Q .non H', rt := Q } [] H := fun z => by
      rw [if_pos (by rw [Bool.or_eq_true, decide_eq_true_eq, decide_eq_true_eq]; exact z)] at key
      refine ⟨by show 1 ≤ sizeLine; decide, fun p hp => ?_⟩
      exact q _ _ L _ p key g (B.ex (Ex.new hp)) (.inl rfl) (Ex.keeps (Ex.new hp)) hp upd_same
    by_cases c1 : p0 < d.w.people
    · refine itF (by rw [decide_eq_true c1]; rfl) ?_
      refine ⟨_, rfl, _, _, _, rfl, B.ins, no_has_company, _, rfl, b, d, L, j, rfl, B, _, rfl, ?_⟩
      by_cases c2 : j < d.w.firms
      · refine itF (by rw [decide_eq_true c2]; rfl) ?_
        rw [if_neg (by rw [Bool.or_eq_true, decide_eq_true_eq, decide_eq_true_eq]; omega)] at key
        refine ⟨_, rfl, _, rfl, _, rfl, _, rfl, by show 1 ≤ sizeLine; decide, fun z hz => ?_⟩
        have ez := Ex.new (o := .lst [V.int (p0 : Int)]) hz
        refine ⟨b, z, d, L, 2 ^ p0, [p0], rfl, B.ex ez, g, SqL.of upd_same, told_one c1, fun r H1 rn e1 hr1 => ?_⟩
        have e2 := ez.trans e1
        have rc : Canon d.w.firms (Krcg.ruled d (2 ^ p0)) := ruledFrom_canon d (2 ^ p0) []
        refine ⟨_, rfl, b, r, d, L, p0, _, j, rfl, B.ex e2, g, SqL.of hr1, c1, fun i m => rc.lt m, by have := rc.length; have := g.f5; omega, c2, fun s H3 e3 fs => ?_⟩
        have e4 := e2.trans e3
        exact ⟨s, _, rfl, fs, fun p H5 hp e5 h5 => q _ _ L H5 p key g (B.ex (e4.trans e5)) (.inl rfl) (Ex.keeps (e4.trans e5)) (Evl.fresh_back e4 hp) h5⟩
      · exact itT (by rw [decide_eq_false c2]; rfl) (refuse (by omega))
    · refine itT (by rw [decide_eq_false c1]; rfl) ?_
      exact itT rfl (refuse (by omega))
def rState (gs : List Nat) (c : Krcg.Call) : Prop := gs = [] ∧ c = .state
theorem ok_state (T : Txt K mg A) : FnOk P w K mg base CX0 1 A.f_state A.d_state ["book", "given"] (spCall K A.C_Book rState) := by
  refine T.d_state.F.ok sc_state (fun vs H Q E h => ?_) (fun cdv Ar outer s H vs Q E hr h => ⟨_, (pss_one (ps_ret (pe_op op_cat (pe_lst (pa_cons (pe_fld (pv 0) rfl) (pa_cons (pe_fld (pv 0) rfl) (pa_cons (pe_ix ix_tup (pe_fld (pv 0) rfl) pe_int (fun _ _ => rfl)) (pa_cons (pe_ix ix_tup (pe_fld (pv 0) rfl) pe_int (fun _ _ => rfl)) pa_nil))))) (pe_fld (pv 0) rfl)))), ?_⟩)
  · obtain ⟨b, gl, d, L, gs, c, rfl, _⟩ := h
    rfl
  · obtain ⟨b, gl, d, L, gs, c, rfl, B, g, hg, ⟨rfl, rfl⟩, q⟩ := h
    refine ⟨_, rfl, _, _, _, _, _, rfl, B.ins, T.c_Book, T.n_Book_people, bookF_people, ?_⟩
    refine ⟨_, rfl, _, _, _, _, _, rfl, B.ins, T.c_Book, T.n_Book_companies, bookF_companies, ?_⟩
    refine ⟨_, rfl, _, _, _, _, _, rfl, B.ins, T.c_Book, T.n_Book_quorum, bookF_quorum, _, _, _, _, rfl, rfl, B.q, at0, ?_⟩
    refine ⟨_, rfl, _, _, _, _, _, rfl, B.ins, T.c_Book, T.n_Book_quorum, bookF_quorum, _, _, _, _, rfl, rfl, B.q, at1, ?_⟩
    refine ⟨by show 4 ≤ sizeLine; decide, fun l hl => ?_⟩
    have el := Ex.new (o := .lst [V.int (d.w.people : Int), V.int (d.w.firms : Int), V.int d.q.num, V.int (d.q.den : Int)]) hl
    refine ⟨_, rfl, _, _, _, _, _, rfl, (B.ex el).ins, T.c_Book, T.n_Book_prices, bookF_prices, _, _, _, _, rfl, rfl, upd_same, (B.ex el).lpr, ?_, fun p hp => ?_⟩
    · rw [List.length_map, g.pl]
      exact Nat.le_of_lt (small1000 (by show 4 + d.w.firms ≤ 1000; have := g.f5; omega))
    · refine q _ _ L _ p (act_state d) g (B.ex (el.trans (Ex.new hp))) (.inl rfl) (Ex.keeps (el.trans (Ex.new hp))) (Evl.fresh_back el hp) ?_
      rw [upd_same]
      congr 2
      show _ = V.int (d.w.people : Int) :: V.int (d.w.firms : Int) :: V.int d.q.num :: V.int (d.q.den : Int) :: (Krcf.ints d.prices).map V.int
      rw [Krcf.ints, List.map_map]
      rfl
def rCheapest (gs : List Nat) (c : Krcg.Call) : Prop := ∃ p j, gs = [p, j] ∧ c = .cheapest p j
/-- a buy's three numbers -/
def buyNums (b : Nat × Rat) : List Int := (b.1 : Int) :: fr b.2
theorem flat_take {bs : List (Nat × Rat)} {i : Nat} {b : Nat × Rat} (h : bs[i]? = some b) : (bs.take (i + 1)).flatMap buyNums = (bs.take i).flatMap buyNums ++ buyNums b := by
  rw [take_more h, List.flatMap_append, List.flatMap_cons, List.flatMap_nil, List.append_nil]
theorem flat_len (bs : List (Nat × Rat)) : (bs.flatMap buyNums).length = 3 * bs.length := by
  induction bs with
  | nil => rfl
  | cons b r ih =>
    rw [List.flatMap_cons, List.length_append, ih, List.length_cons]
    show 3 + _ = _
    omega
theorem ok_cheapest (T : Txt K mg A) : FnOk P w K mg base CX0 12 A.f_cheapest A.d_cheapest ["book", "given"] (spCall K A.C_Book rCheapest) := by
  have G_cheapest_way := ok_cheapest_way (P := P) (w := w) (base := base) T
  have G_Book_has_company := ok_Book_has_company (P := P) (w := w) (base := base) T
  have G_Book_has_person := ok_Book_has_person (P := P) (w := w) (base := base) T
  refine T.d_cheapest.F.ok sc_cheapest (fun vs H Q E h => ?_) (fun cdv Ar outer s H vs Q E hr h => ⟨_, (pss_cons (ps_set (i := 2) sc_cheapest.nd rfl (Or.inl rfl) (pe_ix ix_list (pv 1) pe_int (fun _ _ => rfl))) (pss_cons (ps_set (i := 3) sc_cheapest.nd rfl (Or.inl rfl) (pe_ix ix_list (pv 1) pe_int (fun _ _ => rfl))) (pss_cons (ps_if (PW.pt (pw_or (pt_not (pt_val (pe_meth (pv 0) T.c_Book T.m_Book_has_person G_Book_has_person (hr.mono (by decide)) T.d_Book_has_person.b .nil pass0 (pa_cons (pv 2) pa_nil)))) (pw_or1 (pt_not (pt_val (pe_meth (pv 0) T.c_Book T.m_Book_has_company G_Book_has_company (hr.mono (by decide)) T.d_Book_has_company.b .nil pass0 (pa_cons (pv 3) pa_nil))))))) (pss_one (ps_ret (pe_lst (pa_cons (pe_glob (v := .int (-2)) rfl T.g_NO_SUCH ⟨_, rfl⟩) pa_nil)))) pss_nil) (pss_cons (ps_set (i := 4) sc_cheapest.nd rfl (Or.inl rfl) (pe_call G_cheapest_way (hr.mono (by decide)) rfl T.d_cheapest_way.g T.d_cheapest_way.F.kp T.d_cheapest_way.b .nil pass0 (pa_cons (pv 0) (pa_cons (pv 2) (pa_cons (pv 3) pa_nil))))) (pss_cons (ps_if (pt_cmpR op_isN (pv 4) pe_non (nomark _)) (pss_one (ps_ret (pe_lst (pa_cons (pe_glob (v := .int (-33)) rfl T.g_NONE_OR_TOO_MUCH ⟨_, rfl⟩) pa_nil)))) pss_nil) (pss_cons (ps_set (i := 5) sc_cheapest.nd rfl (Or.inl rfl) (pe_lst (pa_cons (pe_callB call_len_seq (by rfl) T.no_len PySem.boot_len (pa_cons (pe_fld (pv 4) rfl) pa_nil)) (pa_cons (pe_ix ix_tup (pe_fld (pv 4) rfl) pe_int (fun _ _ => rfl)) (pa_cons (pe_ix ix_tup (pe_fld (pv 4) rfl) pe_int (fun _ _ => rfl)) pa_nil))))) (pss_cons (ps_for PassesOwn.never rfl (pi_list (pe_fld (pv 4) rfl)) (pg_name (i := 6) sc_cheapest.nd rfl (Or.inl rfl)) (pss_cons (ps_set (i := 7) sc_cheapest.nd rfl (Or.inl rfl) (pe_ix ix_tup (pv 6) pe_int (fun _ _ => rfl))) (pss_one (ps_expr (pe_bm PySem.F.plainAttrs_list PySem.F.slot_list_extend PySem.F.type_list_extend mt_extend (pv 5) (pa_cons (pe_lst (pa_cons (pe_ix ix_tup (pv 6) pe_int (fun _ _ => rfl)) (pa_cons (pe_ix ix_tup (pv 7) pe_int (fun _ _ => rfl)) (pa_cons (pe_ix ix_tup (pv 7) pe_int (fun _ _ => rfl)) pa_nil)))) pa_nil)))))) (pss_one (ps_ret (pv 5)))))))))), ?_⟩)
  · obtain ⟨b, gl, d, L, gs, c, rfl, _⟩ := h
    rfl
  · obtain ⟨b, gl, d, L, gs, c, rfl, B, g, hg, ⟨p0, j, rfl, rfl⟩, q⟩ := h
    have key := act_cheapest d p0 j
    refine ⟨_, rfl, _, _, _, _, rfl, rfl, SqL.of hg, rfl, _, rfl, _, _, _, _, rfl, rfl, SqL.of hg, rfl, ?_⟩
    refine ⟨_, rfl, _, _, _, rfl, B.ins, no_has_person, _, rfl, b, d, L, p0, rfl, B, _, rfl, ?_⟩
    have refuse : (d.w.people ≤ p0 ∨ d.w.firms ≤ j) → tRet (tLst (tCons (tC (V.int (-2))) tNil)) { nx := fun _ H' => Q .non H', rt := Q } [] H := fun z => by
      rw [if_pos (by rw [Bool.or_eq_true, decide_eq_true_eq, decide_eq_true_eq]; exact z)] at key
      refine ⟨by show 1 ≤ sizeLine; decide, fun p hp => ?_⟩
      exact q _ _ L _ p key g (B.ex (Ex.new hp)) (.inl rfl) (Ex.keeps (Ex.new hp)) hp upd_same
    by_cases c1 : p0 < d.w.people
    rotate_left
    · refine itT (by rw [decide_eq_false c1]; rfl) ?_
      exact itT rfl (refuse (by omega))
    refine itF (by rw [decide_eq_true c1]; rfl) ?_
    refine ⟨_, rfl, _, _, _, rfl, B.ins, no_has_company, _, rfl, b, d, L, j, rfl, B, _, rfl, ?_⟩
    by_cases c2 : j < d.w.firms
    rotate_left
    · exact itT (by rw [decide_eq_false c2]; rfl) (refuse (by omega))
    refine itF (by rw [decide_eq_true c2]; rfl) ?_
    rw [if_neg (by rw [Bool.or_eq_true, decide_eq_true_eq, decide_eq_true_eq]; omega)] at key
    refine ⟨_, rfl, _, rfl, _, rfl, b, d, L, p0, j, rfl, B, g, c1, c2, fun v H1 m e1 bt em => ?_⟩
    rw [em] at key
    refine ⟨_, rfl, rfl, _, rfl, ?_⟩
    cases m with
    | none =>
      cases bt
      refine itT rfl ⟨by show 1 ≤ sizeLine; decide, fun p hp => ?_⟩
      exact q _ _ L _ p key g (B.ex (e1.trans (Ex.new hp))) (.inl rfl) (Ex.keeps (e1.trans (Ex.new hp))) (Evl.fresh_back e1 hp) upd_same
    | some n =>
      obtain ⟨x, rfl, ⟨W, w0⟩, nk⟩ := bt
      have l5 := nk.l5 g
      have tl : W.ts.length = n.buys.length := w0.bt.len
      refine itF rfl ?_
      refine ⟨_, rfl, _, _, _, _, _, rfl, w0.ins, T.c_Way, T.n_Way_bought, wayF_bought, W.bl, _, rfl, .inl (SqL.of w0.lbl), ?_⟩
      refine ⟨_, rfl, _, _, _, _, _, rfl, w0.ins, T.c_Way, T.n_Way_cost, wayF_cost, _, _, _, _, rfl, rfl, w0.cost, at0, ?_⟩
      refine ⟨_, rfl, _, _, _, _, _, rfl, w0.ins, T.c_Way, T.n_Way_cost, wayF_cost, _, _, _, _, rfl, rfl, w0.cost, at1, ?_⟩
      refine ⟨by show 3 ≤ sizeLine; decide, fun D hD => ?_⟩
      have ep : [V.int ((W.ts.map V.ref).length : Int), V.int n.cost.num, V.int (n.cost.den : Int)] = ((n.buys.length : Int) :: fr n.cost).map V.int := by
        rw [List.length_map, tl]
        rfl
      rw [ep]
      have eD := Ex.new (o := .lst (((n.buys.length : Int) :: fr n.cost).map V.int)) hD
      refine ⟨_, rfl, _, _, _, _, _, rfl, (w0.ex eD).ins, T.c_Way, T.n_Way_bought, wayF_bought, W.bl, rfl, ⟨_, SqL.of (w0.ex eD).lbl⟩, for_list (K := K) (a := W.bl) (xs := W.ts.map V.ref) (fun i σ H' => Ex H1 H' ∧ ∃ (v1 v2 : Option V), σ = [some (.ref b), some (.ref gl), some (.int (p0 : Int)), some (.int (j : Int)), some (.ref x), some (.ref D), v1, v2] ∧ H' D = some (.lst (((n.buys.length : Int) :: (fr n.cost ++ (n.buys.take i).flatMap buyNums)).map V.int)))
        ⟨eD, none, none, rfl, by rw [upd_same, List.take_zero, List.flatMap_nil, List.append_nil]⟩ (fun i σ H' _ p => SqL.of (w0.ex p.1).lbl) ?_ ?_⟩
      · rintro i y σ H' hi ⟨e, v1, v2, rfl, hd⟩
        obtain ⟨t, ht, rfl⟩ := refs_at hi
        have il : i < n.buys.length := by rw [← tl]; exact at_lt ht
        have hb := List.getElem?_eq_getElem il
        obtain ⟨sh, sq, fs⟩ := (w0.ex e).bt.at_ i t _ ht hb
        generalize n.buys[i] = bb at hb sq fs
        refine ⟨_, rfl, _, _, _, _, rfl, rfl, sq, at1, ?_⟩
        refine ⟨_, rfl, .inl ⟨rfl, _, SqL.of hd⟩, ?_⟩
        refine ⟨_, rfl, _, _, _, _, rfl, rfl, sq, at0, _, rfl, _, _, _, _, rfl, rfl, fs, at0, _, rfl, _, _, _, _, rfl, rfl, fs, at1, by show 3 ≤ sizeLine; decide, fun z hz => ?_⟩
        have ez := Ex.new (o := .lst [V.int (bb.1 : Int), V.int bb.2.num, V.int (bb.2.den : Int)]) hz
        refine ⟨D, z, _, _, rfl, rfl, ez _ _ hd, upd_same, ?_, (e.trans ez).mut hD, _, _, rfl, ?_⟩
        · rw [List.length_map, List.length_cons, List.length_append, flat_len, List.length_take]
          exact Nat.le_of_lt (small1000 (by show 2 + 3 * min i n.buys.length + 1 + 3 ≤ 1000; omega))
        · have ea : (n.buys.length : Int) :: (fr n.cost ++ ((n.buys.take i).flatMap buyNums ++ buyNums bb)) = ((n.buys.length : Int) :: (fr n.cost ++ (n.buys.take i).flatMap buyNums)) ++ buyNums bb := by
            rw [List.cons_append, List.append_assoc]
          rw [upd_same, flat_take hb, ea, List.map_append]
          rfl
      · rintro σ H' ⟨e, v1, v2, rfl, hd⟩
        rw [List.length_map, tl, List.take_length] at hd
        refine ⟨_, rfl, q _ _ L H' D key g (B.ex (e1.trans e)) (.inl rfl) (Ex.keeps (e1.trans e)) (Evl.fresh_back e1 hD) hd⟩
end
end Wr
/-! How a list of whole numbers is read as calls. -/
namespace Wr
/-- how many numbers each call has -/
def cnts : List Nat := [2, 4, 2, 2, 0, 1, 1, 1, 0, 0, 1, 1, 2, 2, 2, 0]
def asInts (l : List Nat) : List Int := l.map fun (n : Nat) => (n : Int)
def rawCall (k : Nat) (gs : List Nat) : List (List Int) := if k = 4 then [[4], asInts gs] else [(k : Int) :: asInts gs]
def mkCall (k : Nat) (gs : List Nat) : Krcg.Call := KrcgNeutral.call (rawCall k gs)
/-- a call's number and its numbers -/
def Dec (k : Nat) (gs : List Nat) : Prop := k = 4 ∨ (k ≠ 4 ∧ cnts[k]? = some gs.length)
theorem whole_id (c : List (List Int)) : PyKrcg.whole c = c := by
  unfold PyKrcg.whole
  split <;> rfl
theorem ints_toNat (l : List Nat) : (asInts l).map Int.toNat = l := by
  unfold asInts
  rw [List.map_map]
  conv => rhs; rw [← List.map_id l]
  exact List.map_congr_left fun x _ => Int.toNat_natCast x
theorem ints_take (l : List Nat) (n : Nat) : (asInts l).take n = asInts (l.take n) := List.map_take.symm
theorem ints_drop (l : List Nat) (n : Nat) : (asInts l).drop n = asInts (l.drop n) := List.map_drop.symm
theorem ints_length (l : List Nat) : (asInts l).length = l.length := List.length_map _
theorem shape_of {k : Nat} {n m : Nat} (h : PyKrcg.shape (k : Int) = some (n, m)) : (k = 4 ∧ n = 0 ∧ m = 1) ∨ (k ≠ 4 ∧ cnts[k]? = some n ∧ m = 0) := by
  unfold PyKrcg.shape at h
  have c : k < 16 ∨ 16 ≤ k := by omega
  rcases c with c | c
  · have : k = 0 ∨ k = 1 ∨ k = 2 ∨ k = 3 ∨ k = 4 ∨ k = 5 ∨ k = 6 ∨ k = 7 ∨ k = 8 ∨ k = 9 ∨ k = 10 ∨ k = 11 ∨ k = 12 ∨ k = 13 ∨ k = 14 ∨ k = 15 := by omega
    rcases this with rfl | rfl | rfl | rfl | rfl | rfl | rfl | rfl | rfl | rfl | rfl | rfl | rfl | rfl | rfl | rfl <;> simp at h <;> obtain ⟨rfl, rfl⟩ := h <;> simp [cnts]
  · exfalso
    repeat rw [if_neg (by omega)] at h
    cases h
/-- one call read off -/
theorem call_of {k : Nat} {r : List Nat} {c : List (List Int)} {t : List Int} (h : PyFlat.call PyKrcg.shape (asInts (k :: r)) = some (c, t)) :
    (k = 4 ∧ ∃ n r', r = n :: r' ∧ n ≤ r'.length ∧ c = rawCall 4 (r'.take n) ∧ t = asInts (r'.drop n)) ∨ (k ≠ 4 ∧ ∃ n, cnts[k]? = some n ∧ n ≤ r.length ∧ c = rawCall k (r.take n) ∧ t = asInts (r.drop n)) := by
  have h : (match PyKrcg.shape (k : Int) with
    | none => none
    | some (n, m) => if (asInts r).length < n then none else match PyFlat.rows m ((asInts r).drop n) with
      | none => none
      | some (xs, t) => some (((k : Int) :: (asInts r).take n) :: xs, t)) = some (c, t) := h
  cases e : PyKrcg.shape (k : Int) with
  | none => rw [e] at h; cases h
  | some nm =>
    obtain ⟨n, m⟩ := nm
    rw [e] at h
    simp only at h
    by_cases c1 : (asInts r).length < n
    · rw [if_pos c1] at h; cases h
    · rw [if_neg c1] at h
      rw [ints_length] at c1
      rcases shape_of e with ⟨rfl, rfl, rfl⟩ | ⟨k4, ck, rfl⟩
      · left
        refine ⟨rfl, ?_⟩
        rw [List.drop_zero, List.take_zero] at h
        cases r with
        | nil => simp [PyFlat.rows, PyFlat.row, asInts] at h
        | cons n r' =>
          have h : (match (if 0 ≤ (n : Int) ∧ ((n : Int)).toNat ≤ (asInts r').length then some ((asInts r').take ((n : Int)).toNat, (asInts r').drop ((n : Int)).toNat) else none) with
            | none => (none : Option (List (List Int) × List Int))
            | some (x, s) => some ([x], s)) = (match some (c, t) with | none => none | some (c, t) => some (c.tail, t)) ∧ c.head? = some [4] := by
            simp only [PyFlat.rows, PyFlat.row, asInts, List.map_cons] at h
            split at h
            · cases h
            · rename_i xs t2 hrow
              cases h
              exact ⟨hrow, rfl⟩
          obtain ⟨h, hh⟩ := h
          rw [Int.toNat_natCast] at h
          by_cases c2 : n ≤ r'.length
          · rw [if_pos ⟨by omega, by rw [ints_length]; exact c2⟩] at h
            simp only [Option.some.injEq, Prod.mk.injEq] at h
            refine ⟨n, r', rfl, c2, ?_, ?_⟩
            · cases c with
              | nil => cases hh
              | cons a b =>
                simp only [List.head?_cons, Option.some.injEq] at hh
                subst hh
                rw [List.tail_cons] at h
                rw [← h.1, ints_take]
                rfl
            · rw [← h.2, ints_drop]
          · rw [if_neg (by rw [ints_length]; omega)] at h
            cases h
      · right
        refine ⟨k4, n, ck, by omega, ?_⟩
        simp only [PyFlat.rows, Option.some.injEq, Prod.mk.injEq] at h
        rw [← h.1, ← h.2, ints_take, ints_drop]
        refine ⟨?_, rfl⟩
        unfold rawCall
        rw [if_neg k4]
end Wr
/-! answer_call: which def answers, by the call's number. -/
namespace Wr
open PySem PySem.Spec PyProof.Rows L2
open Evl (Ex ex_l ex_t)
theorem dec_len {k n : Nat} {gs : List Nat} (dc : Dec k gs) (h4 : k ≠ 4) (hn : cnts[k]? = some n) : gs.length = n := by
  rcases dc with h | ⟨_, h⟩
  · exact absurd h h4
  · exact Option.some.inj (h.symm.trans hn)
theorem dec_lt {k : Nat} {gs : List Nat} (dc : Dec k gs) : k < 16 := by
  rcases dc with h | ⟨_, h⟩
  · omega
  · exact (List.getElem?_eq_some_iff.mp h).1
theorem l0 {gs : List Nat} (h : gs.length = 0) : gs = [] := List.length_eq_zero_iff.mp h
theorem l1 {gs : List Nat} (h : gs.length = 1) : ∃ a, gs = [a] := match gs, h with | [a], _ => ⟨a, rfl⟩
theorem l2 {gs : List Nat} (h : gs.length = 2) : ∃ a b, gs = [a, b] := match gs, h with | [a, b], _ => ⟨a, b, rfl⟩
theorem l4 {gs : List Nat} (h : gs.length = 4) : ∃ a b c e, gs = [a, b, c, e] := match gs, h with | [a, b, c, e], _ => ⟨a, b, c, e, rfl⟩
section
variable {P : Program} {w : PySem.World} {K : PySem.W.Frag} {mg : Str → Option Value} {base : Heap} {A : Ad}
def spAnswerCall (K : PySem.W.Frag) (C : Addr) : Sp := fun vs H Q _ => ∃ (b gl : Addr) (d : Krcg.Desk) (L : Lay) (k : Nat) (gs : List Nat), vs = [.ref b, .int (k : Int), .ref gl] ∧ BookAt K C H b d L ∧ Good d ∧ H gl = some (.lst (nats gs)) ∧ k ≠ 0 ∧ Dec k gs ∧
  ∀ d' a L' H' p, Krcg.act (some d) (mkCall k gs) = (some d', a) → Good d' → BookAt K C H' b d' L' → (L'.pr = L.pr ∨ H L'.pr = none) → Keeps C H H' → H p = none → H' p = some (.lst (ansV a)) → Q (.ref p) H'
theorem ok_answer_call (T : Txt K mg A) : FnOk P w K mg base CX0 14 A.f_answer_call A.d_answer_call ["book", "number", "given"] (spAnswerCall K A.C_Book) := by
  refine T.d_answer_call.F.ok sc_answer_call (fun vs H Q E h => ?_) (fun cdv Ar outer s H vs Q E hr h => ⟨_, (pss_cons (ps_set (i := 3) sc_answer_call.nd rfl (Or.inl rfl) (pe_ix ix_kint (pe_glob (v := .ref A.a_CALLS) rfl T.g_CALLS rfl) (pv 1) (fun _ _ => rfl))) (pss_one (ps_ret (pe_callH (k := 13) (i := 3) (hr.mono (by decide)) rfl (Or.inl rfl) (pa_cons (pv 0) (pa_cons (pv 2) pa_nil)))))), ?_⟩)
  · obtain ⟨b, gl, d, L, k, gs, rfl, _⟩ := h
    rfl
  · obtain ⟨b, gl, d, L, k, gs, rfl, B, g, hg, k0, dc, q⟩ := h
    obtain ⟨t0, t1, t2, t3, t4, t5, t6, t7, t8, t9, t10, t11, t12, t13, t14, kd⟩ := T.v_CALLS
    have main : ∃ (f : Addr) (R : List Nat → Krcg.Call → Prop) (es : List DictEntry), KDI K A.a_CALLS es ∧ findBy Value.isInt es.toArray (k : Int) = some (.ref f) ∧ Held P w K mg base 13 f (spCall K A.C_Book R) ∧ R gs (mkCall k gs) := by
      have k16 := dec_lt dc
      have ks : k = 1 ∨ k = 2 ∨ k = 3 ∨ k = 4 ∨ k = 5 ∨ k = 6 ∨ k = 7 ∨ k = 8 ∨ k = 9 ∨ k = 10 ∨ k = 11 ∨ k = 12 ∨ k = 13 ∨ k = 14 ∨ k = 15 := by omega
      rcases ks with rfl | rfl | rfl | rfl | rfl | rfl | rfl | rfl | rfl | rfl | rfl | rfl | rfl | rfl | rfl
      · obtain ⟨x, y, u, v, rfl⟩ := l4 (dec_len dc (by decide) rfl)
        exact ⟨A.f_hold, rHold, _, kd, rfl, ⟨⟨_, _, (ok_hold T).mono (by decide), T.d_hold.F.kp, T.d_hold.b⟩⟩, ⟨x, y, u, v, rfl, rfl⟩⟩
      · obtain ⟨x, y, rfl⟩ := l2 (dec_len dc (by decide) rfl)
        exact ⟨A.f_part, rPart, _, kd, rfl, ⟨⟨_, _, (ok_part T).mono (by decide), T.d_part.F.kp, T.d_part.b⟩⟩, ⟨x, y, rfl, rfl⟩⟩
      · obtain ⟨x, y, rfl⟩ := l2 (dec_len dc (by decide) rfl)
        exact ⟨A.f_quorum, rQuorum, _, kd, rfl, ⟨⟨_, _, (ok_quorum T).mono (by decide), T.d_quorum.F.kp, T.d_quorum.b⟩⟩, ⟨x, y, rfl, rfl⟩⟩
      · exact ⟨A.f_prices, rPrices, _, kd, rfl, ⟨⟨_, _, (ok_prices T).mono (by decide), T.d_prices.F.kp, T.d_prices.b⟩⟩, congrArg Krcg.Call.prices (ints_toNat gs)⟩
      · obtain ⟨x, rfl⟩ := l1 (dec_len dc (by decide) rfl)
        exact ⟨A.f_votes, rVotes, _, kd, rfl, ⟨⟨_, _, (ok_votes T).mono (by decide), T.d_votes.F.kp, T.d_votes.b⟩⟩, ⟨x, rfl, rfl⟩⟩
      · obtain ⟨x, rfl⟩ := l1 (dec_len dc (by decide) rfl)
        exact ⟨A.f_rules, rRules, _, kd, rfl, ⟨⟨_, _, (ok_rules T).mono (by decide), T.d_rules.F.kp, T.d_rules.b⟩⟩, ⟨x, rfl, rfl⟩⟩
      · obtain ⟨x, rfl⟩ := l1 (dec_len dc (by decide) rfl)
        exact ⟨A.f_ruler, rRuler, _, kd, rfl, ⟨⟨_, _, (ok_ruler T).mono (by decide), T.d_ruler.F.kp, T.d_ruler.b⟩⟩, ⟨x, rfl, rfl⟩⟩
      · have e := l0 (dec_len dc (by decide) rfl)
        subst e
        exact ⟨A.f_selfruled, rSelf, _, kd, rfl, ⟨⟨_, _, (ok_selfruled T).mono (by decide), T.d_selfruled.F.kp, T.d_selfruled.b⟩⟩, ⟨rfl, rfl⟩⟩
      · have e := l0 (dec_len dc (by decide) rfl)
        subst e
        exact ⟨A.f_free, rFree, _, kd, rfl, ⟨⟨_, _, (ok_free T).mono (by decide), T.d_free.F.kp, T.d_free.b⟩⟩, ⟨rfl, rfl⟩⟩
      · obtain ⟨x, rfl⟩ := l1 (dec_len dc (by decide) rfl)
        exact ⟨A.f_together, rTogether, _, kd, rfl, ⟨⟨_, _, (ok_together T).mono (by decide), T.d_together.F.kp, T.d_together.b⟩⟩, ⟨x, rfl, rfl⟩⟩
      · obtain ⟨x, rfl⟩ := l1 (dec_len dc (by decide) rfl)
        exact ⟨A.f_least, rLeast, _, kd, rfl, ⟨⟨_, _, (ok_least T).mono (by decide), T.d_least.F.kp, T.d_least.b⟩⟩, ⟨x, rfl, rfl⟩⟩
      · obtain ⟨x, y, rfl⟩ := l2 (dec_len dc (by decide) rfl)
        exact ⟨A.f_weight, rWeight, _, kd, rfl, ⟨⟨_, _, (ok_weight T).mono (by decide), T.d_weight.F.kp, T.d_weight.b⟩⟩, ⟨x, y, rfl, rfl⟩⟩
      · obtain ⟨x, y, rfl⟩ := l2 (dec_len dc (by decide) rfl)
        exact ⟨A.f_cheapest, rCheapest, _, kd, rfl, ⟨⟨_, _, (ok_cheapest T).mono (by decide), T.d_cheapest.F.kp, T.d_cheapest.b⟩⟩, ⟨x, y, rfl, rfl⟩⟩
      · obtain ⟨x, y, rfl⟩ := l2 (dec_len dc (by decide) rfl)
        exact ⟨A.f_lacking, rLacking, _, kd, rfl, ⟨⟨_, _, (ok_lacking T).mono (by decide), T.d_lacking.F.kp, T.d_lacking.b⟩⟩, ⟨x, y, rfl, rfl⟩⟩
      · have e := l0 (dec_len dc (by decide) rfl)
        subst e
        exact ⟨A.f_state, rState, _, kd, rfl, ⟨⟨_, _, (ok_state T).mono (by decide), T.d_state.F.kp, T.d_state.b⟩⟩, ⟨rfl, rfl⟩⟩
    obtain ⟨f, R, es, kd2, hf, hH, hR⟩ := main
    refine ⟨_, rfl, A.a_CALLS, (k : Int), es, .ref f, .ref f, rfl, rfl, kd2, hf, rfl, ?_⟩
    exact ⟨f, _, rfl, hH, _, rfl, _, rfl, b, gl, d, L, gs, mkCall k gs, rfl, B, g, hg, hR, q⟩
end
end Wr
/-! The desk. -/
namespace Wr
open PySem PySem.Spec PyProof.Rows L2
open Evl (Ex ex_l ex_t)
open Krcf (say nat frac list fr partOk ownOk)
def deskF (v : V) : List (Str × V) := [("book", v)]
theorem deskF_book {v : V} : (deskF v).lookup ("book" : Str) = some v := lk_here
theorem deskF_no {v : V} {m : Str} (h : (m == ("book" : Str)) = false) : (deskF v).lookup m = none := (lk_past h).trans rfl
/-- the desk at x, as it stands behind some calls -/
def DeskAt (K : PySem.W.Frag) (CB CD : Addr) (H : Hp) (x : Addr) (s : Krcg.Abs) (t : Addr) : Prop := ∃ (dx : Addr) (v : V), H x = some (.ins CD dx (deskF v)) ∧
  match s with
  | none => v = .non
  | some d => ∃ (b : Addr) (L : Lay), v = .ref b ∧ BookAt K CB H b d L ∧ Good d ∧ L.pr ≠ t
theorem DeskAt.ex {K : PySem.W.Frag} {CB CD : Addr} {H H' : Hp} {x t : Addr} {s : Krcg.Abs} (e : Ex H H') (D : DeskAt K CB CD H x s t) : DeskAt K CB CD H' x s t := by
  obtain ⟨dx, v, h, m⟩ := D
  refine ⟨dx, v, e _ _ h, ?_⟩
  cases s with
  | none => exact m
  | some d =>
    obtain ⟨b, L, h1, h2, h3⟩ := m
    exact ⟨b, L, h1, h2.ex e, h3⟩
/-- all but the desk and the book stays -/
def KeepsD (CB CD : Addr) (H H' : Hp) : Prop := ∀ x o, H x = some o → ¬ Own CB o → (∀ dx v, o ≠ .ins CD dx (deskF v)) → H' x = some o
theorem Keeps.desk {CB CD : Addr} {H H' : Hp} (h : Keeps CB H H') : KeepsD CB CD H H' := fun x o e n _ => h x o e n
theorem Ex.desk {CB CD : Addr} {H H' : Hp} (h : Ex H H') : KeepsD CB CD H H' := fun x o e _ _ => h x o e
theorem BookAt.updD {K : PySem.W.Frag} {C CD : Addr} {H : Hp} {b x dx : Addr} {d : Krcg.Desk} {L : Lay} {v : V} {o : HO} (B : BookAt K C H b d L) (h : H x = some (.ins CD dx (deskF v))) : BookAt K C (upd H x o) b d L where
  ins := by
    rw [upd_ne (ne_of B.ins h (fun z => ?_))]
    · exact B.ins
    · injection z with _ _ z3
      exact absurd (congrArg List.length z3) (show ¬ (5 = 1) by decide)
  lpa := by
    rw [upd_ne (ne_of B.lpa h (fun z => nomatch z))]
    exact B.lpa
  nd := B.nd
  len := B.len
  row := fun i r hr => by
    obtain ⟨cs, h1, h2, h3⟩ := B.row i r hr
    refine ⟨cs, ?_, h2, fun j c hc => (h3 j c hc).updI h⟩
    rw [upd_ne (ne_of h1 h (fun z => nomatch z))]
    exact h1
  q := B.q.updI h
  lpr := by
    rw [upd_ne (ne_of B.lpr h (fun z => nomatch z))]
    exact B.lpr
section
variable {P : Program} {w : PySem.World} {K : PySem.W.Frag} {mg : Str → Option Value} {base : Heap} {A : Ad}
def spDeskInit (C : Addr) : Sp := fun vs H Q _ => ∃ (x dx : Addr), vs = [.ref x] ∧ H x = some (.ins C dx []) ∧ Q .non (upd H x (.ins C dx (deskF .non)))
theorem ok_Desk_init (T : Txt K mg A) : FnOk P w K mg base CX0 1 A.f_Desk_init A.d_Desk_init ["self"] (spDeskInit A.C_Desk) := by
  refine T.d_Desk_init.F.ok sc_Desk_init (fun vs H Q E h => ?_) (fun cdv Ar outer s H vs Q E hr h => ⟨_, (pss_one (ps_fld (pv 0) pe_non rfl)), ?_⟩)
  · obtain ⟨x, dx, rfl, _⟩ := h
    rfl
  · obtain ⟨x, dx, rfl, hx, q⟩ := h
    exact ⟨_, rfl, x, A.C_Desk, dx, _, rfl, hx, T.c_Desk, T.n_Desk_book, (by show 0 < 1000; decide), q⟩
theorem put_book {u v : V} : putF "book" v (deskF u) = deskF v := put_here
theorem newDesk_good {m n : Nat} (h1 : 1 ≤ m) (h2 : m ≤ 4) (h3 : 1 ≤ n) (h4 : n ≤ 5) : Good (newDesk m n) := by
  refine ⟨h1, h2, h3, h4, List.length_replicate, ?_, fun h j => ?_, fun h j => ?_, fun h j => ?_, ?_, List.length_replicate, ?_⟩
  · intro r hr
    rw [(List.mem_replicate.mp hr).2]
    exact List.length_replicate
  · show Sm 7 ((Krcf.empty m n).part h j)
    rw [empty_part]
    exact sm_zero.mono (by decide)
  · show 0 ≤ (Krcf.empty m n).part h j
    rw [empty_part]
    exact Rat.le_refl
  · show (Krcf.empty m n).part h j ≤ 1
    rw [empty_part]
    decide +kernel
  · show Sm 7 ((3 : Rat) / (5 : Rat))
    unfold Sm
    decide +kernel
  · intro x hx
    rw [(List.mem_replicate.mp hx).2]
    decide
def spBegin (K : PySem.W.Frag) (CB CD : Addr) : Sp := fun vs H Q _ => ∃ (x t : Addr) (s : Krcg.Abs) (m n : Nat) (o : HO), vs = [.ref x, .int (m : Int), .int (n : Int)] ∧ DeskAt K CB CD H x s t ∧ H t = some o ∧
  ∀ s' a H' p, Krcg.act s (.begin_ m n) = (s', a) → DeskAt K CB CD H' x s' t → KeepsD CB CD H H' → H p = none → H' p = some (.lst (ansV a)) → Q (.ref p) H'
theorem ok_Desk_begin (T : Txt K mg A) : FnOk P w K mg base CX0 3 A.f_Desk_begin A.d_Desk_begin ["self", "people", "companies"] (spBegin K A.C_Book A.C_Desk) := by
  have G_Book_init := ok_Book_init (P := P) (w := w) (base := base) T
  refine T.d_Desk_begin.F.ok sc_Desk_begin (fun vs H Q E h => ?_) (fun cdv Ar outer s H vs Q E hr h => ⟨_, (pss_cons (ps_if (PW.pt (pw_or (pt_not (pt_chain op_le op_le pe_int (pv 1) (pe_glob (v := .int (4)) rfl T.g_MOST_PEOPLE ⟨_, rfl⟩))) (pw_or1 (pt_not (pt_chain op_le op_le pe_int (pv 2) (pe_glob (v := .int (5)) rfl T.g_MOST_COMPANIES ⟨_, rfl⟩)))))) (pss_one (ps_ret (pe_lst (pa_cons (pe_glob (v := .int (-22)) rfl T.g_NOT_RIGHT ⟨_, rfl⟩) pa_nil)))) pss_nil) (pss_cons (ps_fld (pv 0) (pe_make T.mk_Book G_Book_init (hr.mono (by decide)) rfl T.g_Book T.d_Book_init.b .nil pass0 (pa_cons (pv 1) (pa_cons (pv 2) pa_nil))) rfl) (pss_one (ps_ret (pe_lst (pa_cons pe_int pa_nil)))))), ?_⟩)
  · obtain ⟨x, t, s, m, n, o, rfl, _⟩ := h
    rfl
  · obtain ⟨x, t, s, m, n, o, rfl, D, ht, q⟩ := h
    have key := act_begin s m n
    have no : (m = 0 ∨ n = 0 ∨ 4 < m ∨ 5 < n) → tRet (tLst (tCons (tC (V.int (-22))) tNil)) { nx := fun _ H' => Q .non H', rt := Q } [] H := fun z => by
      rw [if_pos z] at key
      refine ⟨by show 1 ≤ sizeLine; decide, fun p hp => ?_⟩
      exact q _ _ _ p key (D.ex (Ex.new hp)) (Ex.desk (Ex.new hp)) hp upd_same
    refine ⟨_, rfl, _, _, rfl, rfl, _, rfl, ?_⟩
    by_cases c1 : 1 ≤ m
    · refine itT (decide_eq_true (by omega)) ⟨_, _, rfl, rfl, _, rfl, ?_⟩
      by_cases c2 : m ≤ 4
      · refine itF (by rw [decide_eq_true (show (m : Int) ≤ 4 by omega)]; rfl) ⟨_, rfl, _, _, rfl, rfl, _, rfl, ?_⟩
        by_cases c3 : 1 ≤ n
        · refine itT (decide_eq_true (by omega)) ⟨_, _, rfl, rfl, _, rfl, ?_⟩
          by_cases c4 : n ≤ 5
          · refine itF (by rw [decide_eq_true (show (n : Int) ≤ 5 by omega)]; rfl) ?_
            rw [if_neg (by omega)] at key
            refine ⟨_, rfl, _, rfl, fun b bx hb hbx hne => ?_⟩
            refine ⟨b, bx, m, n, rfl, upd_same, c2, c4, fun H1 L B prn k1 => ⟨rfl, ?_⟩⟩
            have s1 : Ex H H1 := Same.made hb hbx k1
            have hb2 : (upd H bx (.own b)) b = none := by rw [upd_ne (fun z => hne z.symm)]; exact hb
            obtain ⟨dx, v, hx, _⟩ := D
            refine ⟨_, rfl, x, A.C_Desk, dx, _, rfl, s1 _ _ hx, T.c_Desk, T.n_Desk_book, (by show 1 < 1000; decide), ?_⟩
            rw [put_book]
            refine ⟨by show 1 ≤ sizeLine; decide, fun p hp => ?_⟩
            have hx1 := s1 _ _ hx
            have B2 := B.updD (o := .ins A.C_Desk dx (deskF (.ref b))) hx1
            refine q _ _ _ p key ⟨dx, .ref b, Ex.new hp _ _ upd_same, b, L, rfl, B2.ex (Ex.new hp), newDesk_good c1 c2 c3 c4, fun z => ?_⟩ (fun y o hy no nd => ?_) (Evl.fresh_back s1 (fresh_upd hp)) upd_same
            · have z2 := (Ex.new hbx).trans (Ex.new (o := .ins A.C_Book bx []) hb2) t o ht
              rw [← z, prn] at z2
              cases z2
            refine Ex.new hp _ _ ?_
            rw [upd_ne (ne_of (s1 _ _ hy) hx1 (nd dx v))]
            exact s1 _ _ hy
          · refine itT (by rw [decide_eq_false (show ¬ (n : Int) ≤ 5 by omega)]; rfl) (no (by omega))
        · refine itF (decide_eq_false (by omega)) ⟨_, rfl, itT rfl (no (by omega))⟩
      · refine itT (by rw [decide_eq_false (show ¬ (m : Int) ≤ 4 by omega)]; rfl) (itT rfl (no (by omega)))
    · refine itF (decide_eq_false (by omega)) ⟨_, rfl, itT rfl (itT rfl (no (by omega)))⟩
end
end Wr
/-! The desk's answer; the list of calls. -/
namespace Wr
open PySem PySem.Spec PyProof.Rows L2
open Evl (Ex ex_l ex_t)
open Krcf (say nat frac list fr partOk ownOk)
section
variable {P : Program} {w : PySem.World} {K : PySem.W.Frag} {mg : Str → Option Value} {base : Heap} {A : Ad}
theorem mk_begin {gs : List Nat} (h : Dec 0 gs) : ∃ m n, gs = [m, n] ∧ mkCall 0 gs = .begin_ m n := by
  rcases h with h | ⟨_, h⟩
  · cases h
  · have h : 2 = gs.length := Option.some.inj h
    match gs, h with
    | [m, n], _ => exact ⟨m, n, rfl, rfl⟩
theorem mk_not_begin {k : Nat} {gs : List Nat} (h : Dec k gs) (k0 : k ≠ 0) : ∀ m n, mkCall k gs ≠ .begin_ m n := by
  intro m n
  unfold mkCall KrcgNeutral.call
  have e : KrcgNeutral.n (rawCall k gs) 0 = k := by
    unfold rawCall
    split
    · rename_i c; rw [c]; rfl
    · exact Int.toNat_natCast k
  rw [e]
  split <;> first | (exact absurd rfl k0) | (intro z; cases z)
def spAnswer (K : PySem.W.Frag) (CB CD : Addr) : Sp := fun vs H Q _ => ∃ (x gl t : Addr) (s : Krcg.Abs) (k : Nat) (gs : List Nat) (o : HO), vs = [.ref x, .int (k : Int), .ref gl] ∧ DeskAt K CB CD H x s t ∧ H t = some o ∧ H gl = some (.lst (nats gs)) ∧ Dec k gs ∧
  ∀ s' a H' p, Krcg.act s (mkCall k gs) = (s', a) → DeskAt K CB CD H' x s' t → KeepsD CB CD H H' → H p = none → H' p = some (.lst (ansV a)) → Q (.ref p) H'
theorem no_begin {v : V} : (deskF v).lookup ("begin" : Str) = none := deskF_no (by decide +kernel)
theorem ok_Desk_answer (T : Txt K mg A) : FnOk P w K mg base CX0 15 A.f_Desk_answer A.d_Desk_answer ["self", "number", "given"] (spAnswer K A.C_Book A.C_Desk) := by
  have G_answer_call := ok_answer_call (P := P) (w := w) (base := base) T
  have G_Desk_begin := ok_Desk_begin (P := P) (w := w) (base := base) T
  refine T.d_Desk_answer.F.ok sc_Desk_answer (fun vs H Q E h => ?_) (fun cdv Ar outer s H vs Q E hr h => ⟨_, (pss_cons (ps_if (pt_cmpR op_eq (pv 1) (pe_glob (v := .int (0)) rfl T.g_BEGIN ⟨_, rfl⟩) (nomark _)) (pss_one (ps_ret (pe_meth (pv 0) T.c_Desk T.m_Desk_begin G_Desk_begin (hr.mono (by decide)) T.d_Desk_begin.b .nil pass0 (pa_cons (pe_ix ix_list (pv 2) pe_int (fun _ _ => rfl)) (pa_cons (pe_ix ix_list (pv 2) pe_int (fun _ _ => rfl)) pa_nil))))) pss_nil) (pss_cons (ps_if (pt_cmpR op_isN (pe_fld (pv 0) rfl) pe_non (nomark _)) (pss_one (ps_ret (pe_lst (pa_cons (pe_glob (v := .int (-11)) rfl T.g_NOT_BEGUN ⟨_, rfl⟩) pa_nil)))) pss_nil) (pss_one (ps_ret (pe_call G_answer_call (hr.mono (by decide)) rfl T.d_answer_call.g T.d_answer_call.F.kp T.d_answer_call.b .nil pass0 (pa_cons (pe_fld (pv 0) rfl) (pa_cons (pv 1) (pa_cons (pv 2) pa_nil)))))))), ?_⟩)
  · obtain ⟨x, gl, t, s, k, gs, o, rfl, _⟩ := h
    rfl
  · obtain ⟨x, gl, t, s, k, gs, o, rfl, D, ht, hg, dc, q⟩ := h
    have D0 := D
    obtain ⟨dx, v, hx, m⟩ := D
    refine ⟨_, rfl, rfl, _, rfl, ?_⟩
    by_cases c : k = 0
    · subst c
      obtain ⟨m0, n0, rfl, ec⟩ := mk_begin dc
      refine itT rfl ?_
      refine ⟨_, rfl, _, _, _, rfl, hx, no_begin, _, rfl, _, _, _, _, rfl, rfl, SqL.of hg, rfl, _, rfl, _, _, _, _, rfl, rfl, SqL.of hg, rfl, ?_⟩
      rw [ec] at q
      exact ⟨x, t, s, m0, n0, o, rfl, D0, ht, q⟩
    · refine itF (decide_eq_false (fun z => c (by have := V.int.inj z; omega))) ?_
      refine ⟨_, rfl, _, _, _, _, _, rfl, hx, T.c_Desk, T.n_Desk_book, deskF_book, rfl, _, rfl, ?_⟩
      cases s with
      | none =>
        subst m
        refine itT rfl ?_
        refine ⟨by show 1 ≤ sizeLine; decide, fun p hp => ?_⟩
        exact q _ _ _ p (act_none _ (mk_not_begin dc c)) (D0.ex (Ex.new hp)) (Ex.desk (Ex.new hp)) hp upd_same
      | some d =>
        obtain ⟨b, L, rfl, B, g, pt⟩ := m
        refine itF rfl ?_
        refine ⟨_, rfl, _, _, _, _, _, rfl, hx, T.c_Desk, T.n_Desk_book, deskF_book, _, rfl, _, rfl, ?_⟩
        refine ⟨b, gl, d, L, k, gs, rfl, B, g, hg, c, dc, fun d' a L' H' p ka g' B' lp kp hp ha => ?_⟩
        refine q _ _ H' p ka ⟨dx, .ref b, kp _ _ hx ?_, b, L', rfl, B', g', fun z => ?_⟩ kp.desk hp ha
        rotate_left
        · rcases lp with lp | lp
          · exact pt (lp.symm.trans z)
          · rw [z, ht] at lp
            cases lp
        rintro (⟨dx', d', pa', qa', pr', z⟩ | ⟨xs, _, z⟩)
        · injection z with _ _ z3
          exact absurd (congrArg List.length z3) (show ¬ (1 = 5) by decide)
        · cases z
/-! ### where a call's numbers stand -/
def spStart (K : PySem.W.Frag) : Sp := fun vs H Q _ => ∃ (a : Addr) (l : List Nat) (i k : Nat), vs = [.ref a, .int (i : Int)] ∧ SqL K H a (nats l) ∧ l[i]? = some k ∧ Q (.int ((if k = 4 then i + 2 else i + 1 : Nat) : Int)) H
theorem ok_start_of_given (T : Txt K mg A) : FnOk P w K mg base CX0 1 A.f_start_of_given A.d_start_of_given ["calls", "place"] (spStart K) := by
  refine T.d_start_of_given.F.ok sc_start_of_given (fun vs H Q E h => ?_) (fun cdv Ar outer s H vs Q E hr h => ⟨_, (pss_cons (ps_if (pt_cmpR op_eq (pe_ix ix_list (pv 0) (pv 1) (fun _ _ => rfl)) (pe_glob (v := .int (4)) rfl T.g_PRICES ⟨_, rfl⟩) (nomark _)) (pss_one (ps_ret (pe_op op_add (pv 1) pe_int))) pss_nil) (pss_one (ps_ret (pe_op op_add (pv 1) pe_int)))), ?_⟩)
  · obtain ⟨a, l, i, k, rfl, _⟩ := h
    rfl
  · obtain ⟨a, l, i, k, rfl, hl, hk, q⟩ := h
    refine ⟨_, rfl, _, rfl, _, _, _, _, rfl, rfl, hl, atI_nat (map_at hk), rfl, _, rfl, ?_⟩
    by_cases c : k = 4
    · subst c
      refine itT rfl ⟨_, rfl, _, _, rfl, rfl, ?_⟩
      rw [if_pos rfl] at q
      exact q
    · refine itF (decide_eq_false (fun z => c (by have := V.int.inj z; omega))) ⟨_, rfl, _, _, rfl, rfl, ?_⟩
      rw [if_neg c] at q
      exact q
def spCount (K : PySem.W.Frag) : Sp := fun vs H Q _ => ∃ (a : Addr) (l : List Nat) (i k n : Nat), vs = [.ref a, .int (i : Int)] ∧ SqL K H a (nats l) ∧ l[i]? = some k ∧ (if k = 4 then l[i + 1]? = some n else cnts[k]? = some n) ∧ Q (.int (n : Int)) H
theorem ok_count_of_given (T : Txt K mg A) : FnOk P w K mg base CX0 1 A.f_count_of_given A.d_count_of_given ["calls", "place"] (spCount K) := by
  refine T.d_count_of_given.F.ok sc_count_of_given (fun vs H Q E h => ?_) (fun cdv Ar outer s H vs Q E hr h => ⟨_, (pss_cons (ps_if (pt_cmpR op_eq (pe_ix ix_list (pv 0) (pv 1) (fun _ _ => rfl)) (pe_glob (v := .int (4)) rfl T.g_PRICES ⟨_, rfl⟩) (nomark _)) (pss_one (ps_ret (pe_ix ix_list (pv 0) (pe_op op_add (pv 1) pe_int) (fun _ _ => rfl)))) pss_nil) (pss_one (ps_ret (pe_ix ix_tup (pe_glob (v := .ref A.a_COUNTS) rfl T.g_COUNTS rfl) (pe_ix ix_list (pv 0) (pv 1) (fun _ _ => rfl)) (fun _ _ => rfl))))), ?_⟩)
  · obtain ⟨a, l, i, k, n, rfl, _⟩ := h
    rfl
  · obtain ⟨a, l, i, k, n, rfl, hl, hk, hn, q⟩ := h
    refine ⟨_, rfl, _, rfl, _, _, _, _, rfl, rfl, hl, atI_nat (map_at hk), rfl, _, rfl, ?_⟩
    by_cases c : k = 4
    · subst c
      rw [if_pos rfl] at hn
      refine itT rfl ⟨_, rfl, _, rfl, _, _, rfl, rfl, _, _, _, _, rfl, rfl, hl, at_of (j := i + 1) (by omega) (map_at hn), ?_⟩
      exact q
    · rw [if_neg c] at hn
      refine itF (decide_eq_false (fun z => c (by have := V.int.inj z; omega))) ?_
      refine ⟨_, rfl, _, rfl, _, _, _, _, rfl, rfl, hl, atI_nat (map_at hk), _, _, _, _, rfl, rfl, T.v_COUNTS H, atI_nat (j := k) (?_ : _ = some (V.int (n : Int))), q⟩
      have e : ([V.int 2, V.int 4, V.int 2, V.int 2, V.int 0, V.int 1, V.int 1, V.int 1, V.int 0, V.int 0, V.int 1, V.int 1, V.int 2, V.int 2, V.int 2, V.int 0] : List V) = nats cnts := rfl
      rw [e]
      exact map_at hn
end
end Wr
/-! One turn of the list of calls. -/
namespace Wr
theorem drop_get {l : List Nat} {i k : Nat} {r : List Nat} (h : l.drop i = k :: r) : l[i]? = some k ∧ r = l.drop (i + 1) := by
  have h1 : l[i]? = (l.drop i)[0]? := by rw [List.getElem?_drop]; rfl
  rw [h] at h1
  refine ⟨h1, ?_⟩
  have h2 : l.drop (i + 1) = (l.drop i).drop 1 := by rw [List.drop_drop]
  rw [h2, h]
  rfl
theorem calls_cons {f : Nat} {k : Nat} {r : List Nat} {raw : List (List (List Int))} (h : PyFlat.calls PyKrcg.shape f (asInts (k :: r)) = some raw) :
    ∃ f' c t cs, PyFlat.call PyKrcg.shape (asInts (k :: r)) = some (c, t) ∧ PyFlat.calls PyKrcg.shape f' t = some cs ∧ raw = c :: cs := by
  cases f with
  | zero => cases h
  | succ f =>
    have h : (match PyFlat.call PyKrcg.shape (asInts (k :: r)) with
      | none => none
      | some (c, t) => match PyFlat.calls PyKrcg.shape f t with
        | none => none
        | some cs => some (c :: cs)) = some raw := h
    cases e : PyFlat.call PyKrcg.shape (asInts (k :: r)) with
    | none => rw [e] at h; cases h
    | some ct =>
      obtain ⟨c, t⟩ := ct
      rw [e] at h
      simp only at h
      cases e2 : PyFlat.calls PyKrcg.shape f t with
      | none => rw [e2] at h; cases h
      | some cs =>
        rw [e2] at h
        simp only [Option.some.injEq] at h
        exact ⟨f, c, t, cs, rfl, e2, h.symm⟩
theorem turn_of {l : List Nat} {i f : Nat} {raw : List (List (List Int))} (hi : i < l.length) (h : PyFlat.calls PyKrcg.shape f (asInts (l.drop i)) = some raw) :
    ∃ k n st cs f', l[i]? = some k ∧ st = (if k = 4 then i + 2 else i + 1) ∧ (if k = 4 then l[i + 1]? = some n else cnts[k]? = some n) ∧ st + n ≤ l.length ∧ Dec k ((l.drop st).take n) ∧ raw = rawCall k ((l.drop st).take n) :: cs ∧ PyFlat.calls PyKrcg.shape f' (asInts (l.drop (st + n))) = some cs := by
  cases e : l.drop i with
  | nil =>
    have := congrArg List.length e
    rw [List.length_drop, List.length_nil] at this
    omega
  | cons k r =>
    obtain ⟨hk, hr⟩ := drop_get e
    rw [e] at h
    obtain ⟨f', c, t, cs, h1, h2, h3⟩ := calls_cons h
    rcases call_of h1 with ⟨k4, n, r', e1, e2, e3, e4⟩ | ⟨k4, n, e1, e2, e3, e4⟩
    · subst k4
      rw [e1] at hr
      obtain ⟨hn, hr'⟩ := drop_get hr.symm
      have len : r'.length = l.length - (i + 2) := by rw [hr', List.length_drop]
      have hlt : i + 1 < l.length := (List.getElem?_eq_some_iff.mp hn).1
      refine ⟨4, n, i + 2, cs, f', hk, rfl, ?_, by omega, .inl rfl, ?_, ?_⟩
      · rw [if_pos rfl]; exact hn
      · rw [h3, e3, hr']
      · rw [← List.drop_drop, ← hr', ← e4]
        exact h2
    · have len : r.length = l.length - (i + 1) := by rw [hr, List.length_drop]
      refine ⟨k, n, i + 1, cs, f', hk, by rw [if_neg k4], by rw [if_neg k4]; exact e1, by omega, .inr ⟨k4, ?_⟩, ?_, ?_⟩
      · rw [List.length_take, ← hr, Nat.min_eq_left e2]; exact e1
      · rw [h3, e3, hr]
      · rw [← List.drop_drop, ← hr, ← e4]
        exact h2
theorem told_cons (s s' : KrcgNeutral.S) (an : Krcg.Ans) (k : Nat) (gs : List Nat) (cs : List (List (List Int))) (h : Krcg.act s (mkCall k gs) = (s', an)) :
    PyFlat.told (PyFlat.played KrcgNeutral.step s (rawCall k gs :: cs)) = ((KrcgNeutral.told an).length : Int) :: KrcgNeutral.told an ++ PyFlat.told (PyFlat.played KrcgNeutral.step s' cs) := by
  have e : KrcgNeutral.step s (rawCall k gs) = (s', KrcgNeutral.told an) := by
    unfold KrcgNeutral.step
    show ((Krcg.act s (mkCall k gs)).1, KrcgNeutral.told (Krcg.act s (mkCall k gs)).2) = _
    rw [h]
  show PyFlat.told ((KrcgNeutral.step s (rawCall k gs)).2 :: PyFlat.played KrcgNeutral.step (KrcgNeutral.step s (rawCall k gs)).1 cs) = _
  rw [e]
  rfl
/-- the whole -/
theorem asked_of {ns : List Int} (h : PyKrcg.answers_asked ns = true) : ∃ raw, PyFlat.calls PyKrcg.shape ns.length ns = some raw ∧ PyKrcg.answers ns = PyFlat.told (PyFlat.played KrcgNeutral.step KrcgNeutral.start raw) ∧ (PyKrcg.answers ns).length ≤ 10000000 := by
  unfold PyKrcg.answers_asked at h
  cases e : PyFlat.calls PyKrcg.shape ns.length ns with
  | none => rw [e] at h; cases h
  | some raw =>
    rw [e] at h
    simp only [Bool.and_eq_true] at h
    refine ⟨raw, rfl, ?_, of_decide_eq_true h.2⟩
    unfold PyKrcg.answers PyKrcg.calls
    rw [e]
    simp only
    rw [show raw.map PyKrcg.whole = raw from (List.map_congr_left fun c _ => whole_id c).trans (List.map_id raw)]
end Wr
/-! answers: the loop over the list of calls. -/
namespace Wr
open PySem PySem.Spec PyProof.Rows L2
open Evl (Ex ex_l ex_t)
theorem nats_ints' (l : List Nat) : nats l = (asInts l).map V.int := nats_ints l
theorem ints_ne_refs {l : List Int} {cs : List Addr} (h : cs ≠ []) : l.map V.int ≠ cs.map V.ref := by
  intro z
  cases cs with
  | nil => exact h rfl
  | cons c r =>
    cases l with
    | nil => cases z
    | cons n l => cases z
theorem not_own_ints {C : Addr} {l : List Int} : ¬ Own C (.lst (l.map V.int)) := by
  rintro (⟨_, _, _, _, _, z⟩ | ⟨xs, hx, z⟩)
  · cases z
  · exact ints_ne_refs hx (HO.lst.inj z)
theorem KeepsD.nums {CB CD : Addr} {H H' : Hp} (k : KeepsD CB CD H H') {a : Addr} {l : List Int} (h : H a = some (.lst (l.map V.int))) : H' a = some (.lst (l.map V.int)) := k _ _ h not_own_ints (fun _ _ z => nomatch z)
theorem KeepsD.sq {K : PySem.W.Frag} {CB CD : Addr} {H H' : Hp} (k : KeepsD CB CD H H') {a : Addr} {l : List Int} (h : SqL K H a (l.map V.int)) : SqL K H' a (l.map V.int) := by
  rcases h with (h | ⟨o, h⟩) | h
  · exact .inl (.inl (k.nums h))
  · refine .inl (.inr ⟨o, k _ _ h ?_ (fun _ _ z => nomatch z)⟩)
    rintro (⟨_, _, _, _, _, z⟩ | ⟨xs, hx, z⟩) <;> cases z
  · exact .inr h
/-- a list of whole numbers that is not the prices may change -/
theorem BookAt.updL {K : PySem.W.Frag} {C : Addr} {H : Hp} {b t : Addr} {d : Krcg.Desk} {L : Lay} {l : List Int} {o : HO} (B : BookAt K C H b d L) (g : Good d) (h : H t = some (.lst (l.map V.int))) (ne : L.pr ≠ t) : BookAt K C (upd H t o) b d L where
  ins := by
    rw [upd_ne (ne_of B.ins h (fun z => nomatch z))]
    exact B.ins
  lpa := by
    rw [upd_ne (ne_of B.lpa h (fun z => ?_))]
    · exact B.lpa
    · have z2 := (HO.lst.inj z).symm
      refine ints_ne_refs (fun q => ?_) z2
      have z3 := B.len
      have := g.p1
      rw [q, List.length_nil] at z3
      omega
  nd := B.nd
  len := B.len
  row := fun i r hr => by
    obtain ⟨cs, h1, h2, h3⟩ := B.row i r hr
    refine ⟨cs, ?_, h2, fun j c hc => (h3 j c hc).upd h⟩
    rw [upd_ne (ne_of h1 h (fun z => ?_))]
    · exact h1
    · refine ints_ne_refs (fun q => ?_) (HO.lst.inj z).symm
      have := g.f1
      rw [q, List.length_nil] at h2
      omega
  q := B.q.upd h
  lpr := by
    rw [upd_ne ne]
    exact B.lpr
theorem DeskAt.updL {K : PySem.W.Frag} {CB CD : Addr} {H : Hp} {x t : Addr} {s : Krcg.Abs} {l : List Int} {o : HO} (D : DeskAt K CB CD H x s t) (h : H t = some (.lst (l.map V.int))) : DeskAt K CB CD (upd H t o) x s t := by
  obtain ⟨dx, v, hx, m⟩ := D
  refine ⟨dx, v, by rw [upd_ne (ne_of hx h (fun z => nomatch z))]; exact hx, ?_⟩
  cases s with
  | none => exact m
  | some d =>
    obtain ⟨b, L, h1, h2, h3, h4⟩ := m
    exact ⟨b, L, h1, h2.updL h3 h h4, h3, h4⟩
theorem KeepsD.sqN {K : PySem.W.Frag} {CB CD : Addr} {H H' : Hp} (k : KeepsD CB CD H H') {a : Addr} {l : List Nat} (h : SqL K H a (nats l)) : SqL K H' a (nats l) := by
  rw [nats_ints'] at h ⊢
  exact k.sq h
theorem SqL.updL {K : PySem.W.Frag} {H : Hp} {a t : Addr} {xs : List V} {o : HO} (ne : a ≠ t) (h : SqL K H a xs) : SqL K (upd H t o) a xs := by
  rcases h with (h | ⟨u, h⟩) | h
  · exact .inl (.inl (by rw [upd_ne ne]; exact h))
  · exact .inl (.inr ⟨u, by rw [upd_ne ne]; exact h⟩)
  · exact .inr h
theorem cut_nats {l : List Nat} {a n : Nat} (h : a + n ≤ l.length) : cutV (nats l) (some (a : Int)) (some ((a + n : Nat) : Int)) = nats ((l.drop a).take n) := by
  unfold cutV
  rw [HT.sIx_nat, HT.sIx_nat, nats, List.length_map, Nat.min_eq_left (by omega), Nat.min_eq_left (by omega), ← List.map_drop, ← List.map_take]
  congr 2
  omega
section
variable {P : Program} {w : PySem.World} {K : PySem.W.Frag} {mg : Str → Option Value} {base : Heap} {A : Ad}
def spAns (K : PySem.W.Frag) : Sp := fun vs H Q _ => ∃ (a : Addr) (ns : List Int), vs = [.ref a] ∧ SqL K H a (ns.map V.int) ∧ (∀ x ∈ ns, 0 ≤ x) ∧ PyKrcg.answers_asked ns = true ∧
  ∀ (H' : Hp) (p : Addr), H' p = some (.lst ((PyKrcg.answers ns).map V.int)) → Q (.ref p) H'
def ansW (K : PySem.W.Frag) (CB CD : Addr) (a x t : Addr) (l : List Nat) : Nat → L2.St → Hp → Prop := fun m σ H' => ∃ (i f : Nat) (s : Krcg.Abs) (pre : List Int) (raw : List (List (List Int))) (v4 v5 v6 : Option V),
  σ = [some (.ref a), some (.ref x), some (.ref t), some (.int (i : Int)), v4, v5, v6] ∧ i ≤ l.length ∧ SqL K H' a (nats l) ∧ DeskAt K CB CD H' x s t ∧ H' t = some (.lst (pre.map V.int)) ∧
  PyFlat.calls PyKrcg.shape f (asInts (l.drop i)) = some raw ∧ PyKrcg.answers (asInts l) = pre ++ PyFlat.told (PyFlat.played KrcgNeutral.step s raw) ∧ m = l.length - i
theorem no_answer {v : V} : (deskF v).lookup ("answer" : Str) = none := deskF_no (by decide +kernel)
theorem ok_answers (T : Txt K mg A) : FnOk P w K mg base CX0 16 A.f_answers A.d_answers ["calls"] (spAns K) := by
  have G_Desk_answer := ok_Desk_answer (P := P) (w := w) (base := base) T
  have G_count_of_given := ok_count_of_given (P := P) (w := w) (base := base) T
  have G_start_of_given := ok_start_of_given (P := P) (w := w) (base := base) T
  have G_Desk_init := ok_Desk_init (P := P) (w := w) (base := base) T
  refine T.d_answers.F.ok sc_answers (fun vs H Q E h => ?_) (fun cdv Ar outer s H vs Q E hr h => ⟨_, (pss_cons (ps_set (i := 1) sc_answers.nd rfl (Or.inl rfl) (pe_make0 T.mk_Desk G_Desk_init (hr.mono (by decide)) rfl T.g_Desk T.d_Desk_init.b .nil pass0)) (pss_cons (ps_set (i := 2) sc_answers.nd rfl (Or.inl rfl) (pe_lst pa_nil)) (pss_cons (ps_set (i := 3) sc_answers.nd rfl (Or.inl rfl) pe_int) (pss_cons (ps_while PassesOwn.never (pt_cmpR op_lt (pv 3) (pe_callB call_len_seq (by rfl) T.no_len PySem.boot_len (pa_cons (pv 0) pa_nil)) (nomark _)) (pss_cons (ps_set (i := 4) sc_answers.nd rfl (Or.inl rfl) (pe_call G_start_of_given (hr.mono (by decide)) rfl T.d_start_of_given.g T.d_start_of_given.F.kp T.d_start_of_given.b .nil pass0 (pa_cons (pv 0) (pa_cons (pv 3) pa_nil)))) (pss_cons (ps_set (i := 5) sc_answers.nd rfl (Or.inl rfl) (pe_op op_add (pv 4) (pe_call G_count_of_given (hr.mono (by decide)) rfl T.d_count_of_given.g T.d_count_of_given.F.kp T.d_count_of_given.b .nil pass0 (pa_cons (pv 0) (pa_cons (pv 3) pa_nil))))) (pss_cons (ps_set (i := 6) sc_answers.nd rfl (Or.inl rfl) (pe_meth (pv 1) T.c_Desk T.m_Desk_answer G_Desk_answer (hr.mono (by decide)) T.d_Desk_answer.b .nil pass0 (pa_cons (pe_ix ix_list (pv 0) (pv 3) (fun _ _ => rfl)) (pa_cons (pe_slice sl_list (pv 0) (po_some (pv 4)) (po_some (pv 5))) pa_nil)))) (pss_cons (ps_expr (pe_bm PySem.F.plainAttrs_list PySem.F.slot_list_append PySem.F.type_list_append mt_append (pv 2) (pa_cons (pe_callB call_len_seq (by rfl) T.no_len PySem.boot_len (pa_cons (pv 6) pa_nil)) pa_nil))) (pss_cons (ps_expr (pe_bm PySem.F.plainAttrs_list PySem.F.slot_list_extend PySem.F.type_list_extend mt_extend (pv 2) (pa_cons (pv 6) pa_nil))) (pss_one (ps_set (i := 3) sc_answers.nd rfl (Or.inl rfl) (pv 5))))))))) (pss_one (ps_ret (pv 2))))))), ?_⟩)
  · obtain ⟨a, ns, rfl, _⟩ := h
    rfl
  · obtain ⟨a, ns, rfl, hl, pos, ask, q⟩ := h
    obtain ⟨l, rfl⟩ : ∃ l, ns = asInts l := ⟨ns.map Int.toNat, by
      unfold asInts
      rw [List.map_map]
      conv => lhs; rw [← List.map_id ns]
      exact List.map_congr_left fun y hy => (Int.toNat_of_nonneg (pos y hy)).symm⟩
    obtain ⟨raw, hraw, hans, hsz⟩ := asked_of ask
    -- desk = Desk()
    intro x dx nx ndx nex
    refine ⟨x, dx, rfl, upd_same, rfl, ?_⟩
    -- told = []
    refine ⟨Nat.zero_le _, fun t ht => ?_⟩
    have e0 : Ex H (upd (upd (upd H dx (.own x)) x (.ins A.C_Desk dx [])) x (.ins A.C_Desk dx (deskF .non))) := fun y o hy => by
      rw [upd_ne (ne_of_none hy nx), upd_ne (ne_of_none hy nx), upd_ne (ne_of_none hy ndx)]
      exact hy
    have hD : DeskAt K A.C_Book A.C_Desk (upd (upd (upd H dx (.own x)) x (.ins A.C_Desk dx [])) x (.ins A.C_Desk dx (deskF .non))) x none t := ⟨dx, .non, upd_same, rfl⟩
    have hst : ∀ H' o, SqL K H' a (nats l) → SqL K (upd H' t o) a (nats l) := by
      rcases hl with h | h
      · have na : a ≠ t := by
          rcases h with h | ⟨u, h⟩
          · exact ne_of_none (e0 _ _ h) ht
          · exact ne_of_none (e0 _ _ h) ht
        exact fun H' o z => SqL.updL na z
      · intro H' o _
        rw [nats_ints']
        exact .inr h
    have hln : SqL K (upd (upd (upd (upd H dx (.own x)) x (.ins A.C_Desk dx [])) x (.ins A.C_Desk dx (deskF .non))) t (.lst [])) a (nats l) := by
      rw [nats_ints']
      exact ex_l (e0.trans (Ex.new ht)) hl
    refine ⟨ansW K A.C_Book A.C_Desk a x t l, ⟨l.length, 0, (asInts l).length, none, [], raw, none, none, none, rfl, Nat.zero_le _, hln, hD.ex (Ex.new ht), upd_same, hraw, hans, rfl⟩, ?_⟩
    clear hln hD e0 hraw hans
    rintro m σ H' ⟨i, f, s, pre, raw, v4, v5, v6, rfl, hi, sq, D, ht', hc, ha, rfl⟩
    refine ⟨_, rfl, _, rfl, a, _, rfl, .inl sq, _, _, rfl, rfl, _, rfl, ?_⟩
    have ln : (nats l).length = l.length := by rw [nats, List.length_map]
    by_cases c : i < l.length
    · refine itT (decide_eq_true (by rw [ln]; omega)) ⟨nextW (ansW K A.C_Book A.C_Desk a x t l) (l.length - i), fun _ _ h => h, ?_⟩
      obtain ⟨k, n, st, cs, f', hk, hst', hn, hle, dc, hraw, hcs⟩ := turn_of c hc
      refine ⟨_, rfl, _, rfl, a, l, i, k, rfl, sq, hk, ?_⟩
      rw [← hst']
      refine ⟨_, rfl, _, rfl, _, rfl, a, l, i, k, n, rfl, sq, hk, hn, _, _, rfl, rfl, ?_⟩
      obtain ⟨dx', v, hx, _⟩ := id D
      refine ⟨_, rfl, x, dx', _, rfl, hx, no_answer, _, rfl, _, rfl, _, _, _, _, rfl, rfl, sq, atI_nat (map_at hk), _, rfl, _, rfl, _, rfl, _, rfl, _, rfl, a, _, rfl, sq, fun gl hgl => ?_⟩
      rw [← Int.natCast_add, cut_nats hle]
      have eg := Ex.new (o := .lst (nats ((l.drop st).take n))) hgl
      refine ⟨x, gl, t, s, k, _, _, rfl, D.ex eg, eg _ _ ht', upd_same, dc, fun s' an H2 p ka D2 kp hp ha2 => ?_⟩
      have ht2 := kp.nums (eg _ _ ht')
      have pt : p ≠ t := fun z => by
        rw [z, eg _ _ ht'] at hp
        cases hp
      have key := told_cons s s' an k _ cs ka
      rw [← hraw] at key
      rw [key] at ha
      have hlen : pre.length + (1 + (KrcgNeutral.told an).length) ≤ 10000000 := by
        have z := hsz
        rw [ha, List.length_append, List.length_append, List.length_cons] at z
        omega
      have anl : (ansV an).length = (KrcgNeutral.told an).length := List.length_map _
      have sz : sizeLine = 16777216 := by decide
      refine ⟨_, rfl, .inl ⟨rfl, _, SqL.of ht2⟩, _, rfl, p, _, rfl, .inl (SqL.of ha2), t, _, _, rfl, rfl, ht2, ?_, ?_⟩
      · rw [List.length_map]; omega
      refine ⟨_, rfl, .inl ⟨rfl, _, SqL.of upd_same⟩, _, rfl, t, p, _, _, rfl, rfl, upd_same, by rw [upd_ne pt]; exact ha2, ?_, ?_⟩
      · rw [List.length_append, List.length_map, anl, List.length_cons, List.length_nil]; omega
      have sq2 : SqL K H2 a (nats l) := kp.sqN (ex_l eg sq)
      have e1 : pre.map V.int ++ [V.int ((ansV an).length : Int)] = (pre ++ [((KrcgNeutral.told an).length : Int)]).map V.int := by
        rw [List.map_append, anl]
        rfl
      have sti : i < st := by rw [hst']; split <;> omega
      refine ⟨_, rfl, l.length - (st + n), by omega, st + n, f', s', pre ++ ((KrcgNeutral.told an).length : Int) :: KrcgNeutral.told an, cs, _, _, _, rfl, hle, hst _ _ (hst _ _ sq2), ?_, ?_, hcs, ?_, rfl⟩
      · refine (D2.updL ht2).updL (l := pre ++ [((KrcgNeutral.told an).length : Int)]) ?_
        rw [upd_same, e1]
      · rw [upd_same, e1, ansV, ← List.map_append, List.append_assoc]
        rfl
      · rw [ha, List.append_assoc]
    · refine itF (decide_eq_false (by rw [ln]; omega)) ?_
      refine ⟨_, rfl, q H' t ?_⟩
      have hil : i = l.length := by omega
      rw [hil, List.drop_length] at hc
      have hr0 : raw = [] := by
        cases f with
        | zero => exact (Option.some.inj hc).symm
        | succ f => exact (Option.some.inj hc).symm
      rw [ht', ha, hr0]
      show _ = some (HO.lst ((pre ++ []).map V.int))
      rw [List.append_nil]
end
end Wr
/-! The end. -/
namespace Wr
open PySem PySem.Spec PyProof.Rows L2
theorem all_mk {P : Program} {w : PySem.World} {K : PySem.W.Frag} {h : Heap} {mg : Str → Option Value} {fa : Addr} (X : K.In h) (G : h.Ns mainGlobals mg) (hfa : mg "answers" = some (.ref fa))
    {C_Book : Addr}
    {C_Way : Addr}
    {C_Desk : Addr}
    {f_greatest_common : Addr} {od_greatest_common an_greatest_common : Option Addr} {sl_greatest_common : Array (Option Value)} {oc_greatest_common kV_greatest_common dc_greatest_common pm_greatest_common cd_greatest_common ct_greatest_common : Value}
    {f_lowest : Addr} {od_lowest an_lowest : Option Addr} {sl_lowest : Array (Option Value)} {oc_lowest kV_lowest dc_lowest pm_lowest cd_lowest ct_lowest : Value}
    {f_plus : Addr} {od_plus an_plus : Option Addr} {sl_plus : Array (Option Value)} {oc_plus kV_plus dc_plus pm_plus cd_plus ct_plus : Value}
    {f_minus : Addr} {od_minus an_minus : Option Addr} {sl_minus : Array (Option Value)} {oc_minus kV_minus dc_minus pm_minus cd_minus ct_minus : Value}
    {f_times : Addr} {od_times an_times : Option Addr} {sl_times : Array (Option Value)} {oc_times kV_times dc_times pm_times cd_times ct_times : Value}
    {f_at_least : Addr} {od_at_least an_at_least : Option Addr} {sl_at_least : Array (Option Value)} {oc_at_least kV_at_least dc_at_least pm_at_least cd_at_least ct_at_least : Value}
    {f_Book_init : Addr} {od_Book_init an_Book_init : Option Addr} {sl_Book_init : Array (Option Value)} {oc_Book_init kV_Book_init dc_Book_init pm_Book_init cd_Book_init ct_Book_init : Value}
    {f_Book_has_person : Addr} {od_Book_has_person an_Book_has_person : Option Addr} {sl_Book_has_person : Array (Option Value)} {oc_Book_has_person kV_Book_has_person dc_Book_has_person pm_Book_has_person cd_Book_has_person ct_Book_has_person : Value}
    {f_Book_has_company : Addr} {od_Book_has_company an_Book_has_company : Option Addr} {sl_Book_has_company : Array (Option Value)} {oc_Book_has_company kV_Book_has_company dc_Book_has_company pm_Book_has_company cd_Book_has_company ct_Book_has_company : Value}
    {f_Book_has_holder : Addr} {od_Book_has_holder an_Book_has_holder : Option Addr} {sl_Book_has_holder : Array (Option Value)} {oc_Book_has_holder kV_Book_has_holder dc_Book_has_holder pm_Book_has_holder cd_Book_has_holder ct_Book_has_holder : Value}
    {f_Book_company_as_holder : Addr} {od_Book_company_as_holder an_Book_company_as_holder : Option Addr} {sl_Book_company_as_holder : Array (Option Value)} {oc_Book_company_as_holder kV_Book_company_as_holder dc_Book_company_as_holder pm_Book_company_as_holder cd_Book_company_as_holder ct_Book_company_as_holder : Value}
    {f_Book_part_of : Addr} {od_Book_part_of an_Book_part_of : Option Addr} {sl_Book_part_of : Array (Option Value)} {oc_Book_part_of kV_Book_part_of dc_Book_part_of pm_Book_part_of cd_Book_part_of ct_Book_part_of : Value}
    {f_Book_give_part : Addr} {od_Book_give_part an_Book_give_part : Option Addr} {sl_Book_give_part : Array (Option Value)} {oc_Book_give_part kV_Book_give_part dc_Book_give_part pm_Book_give_part cd_Book_give_part ct_Book_give_part : Value}
    {f_Book_held_by : Addr} {od_Book_held_by an_Book_held_by : Option Addr} {sl_Book_held_by : Array (Option Value)} {oc_Book_held_by kV_Book_held_by dc_Book_held_by pm_Book_held_by cd_Book_held_by ct_Book_held_by : Value}
    {f_Book_held_by_others : Addr} {od_Book_held_by_others an_Book_held_by_others : Option Addr} {sl_Book_held_by_others : Array (Option Value)} {oc_Book_held_by_others kV_Book_held_by_others dc_Book_held_by_others pm_Book_held_by_others cd_Book_held_by_others ct_Book_held_by_others : Value}
    {f_votes_of : Addr} {od_votes_of an_votes_of : Option Addr} {sl_votes_of : Array (Option Value)} {oc_votes_of kV_votes_of dc_votes_of pm_votes_of cd_votes_of ct_votes_of : Value}
    {f_has_votes : Addr} {od_has_votes an_has_votes : Option Addr} {sl_has_votes : Array (Option Value)} {oc_has_votes kV_has_votes dc_has_votes pm_has_votes cd_has_votes ct_has_votes : Value}
    {f_needed_of : Addr} {od_needed_of an_needed_of : Option Addr} {sl_needed_of : Array (Option Value)} {oc_needed_of kV_needed_of dc_needed_of pm_needed_of cd_needed_of ct_needed_of : Value}
    {f_commanded : Addr} {od_commanded an_commanded : Option Addr} {sl_commanded : Array (Option Value)} {oc_commanded kV_commanded dc_commanded pm_commanded cd_commanded ct_commanded : Value}
    {f_is_ruled_by_way_of : Addr} {od_is_ruled_by_way_of an_is_ruled_by_way_of : Option Addr} {sl_is_ruled_by_way_of : Array (Option Value)} {oc_is_ruled_by_way_of kV_is_ruled_by_way_of dc_is_ruled_by_way_of pm_is_ruled_by_way_of cd_is_ruled_by_way_of ct_is_ruled_by_way_of : Value}
    {f_newly_ruled : Addr} {od_newly_ruled an_newly_ruled : Option Addr} {sl_newly_ruled : Array (Option Value)} {oc_newly_ruled kV_newly_ruled dc_newly_ruled pm_newly_ruled cd_newly_ruled ct_newly_ruled : Value}
    {f_ruled_from : Addr} {od_ruled_from an_ruled_from : Option Addr} {sl_ruled_from : Array (Option Value)} {oc_ruled_from kV_ruled_from dc_ruled_from pm_ruled_from cd_ruled_from ct_ruled_from : Value}
    {f_ruled_together : Addr} {od_ruled_together an_ruled_together : Option Addr} {sl_ruled_together : Array (Option Value)} {oc_ruled_together kV_ruled_together dc_ruled_together pm_ruled_together cd_ruled_together ct_ruled_together : Value}
    {f_rulers_of : Addr} {od_rulers_of an_rulers_of : Option Addr} {sl_rulers_of : Array (Option Value)} {oc_rulers_of kV_rulers_of dc_rulers_of pm_rulers_of cd_rulers_of ct_rulers_of : Value}
    {f_ruled_by_each_other : Addr} {od_ruled_by_each_other an_ruled_by_each_other : Option Addr} {sl_ruled_by_each_other : Array (Option Value)} {oc_ruled_by_each_other kV_ruled_by_each_other dc_ruled_by_each_other pm_ruled_by_each_other cd_ruled_by_each_other ct_ruled_by_each_other : Value}
    {f_self_ruled : Addr} {od_self_ruled an_self_ruled : Option Addr} {sl_self_ruled : Array (Option Value)} {oc_self_ruled kV_self_ruled dc_self_ruled pm_self_ruled cd_self_ruled ct_self_ruled : Value}
    {f_free_companies : Addr} {od_free_companies an_free_companies : Option Addr} {sl_free_companies : Array (Option Value)} {oc_free_companies kV_free_companies dc_free_companies pm_free_companies cd_free_companies ct_free_companies : Value}
    {f_lack_of : Addr} {od_lack_of an_lack_of : Option Addr} {sl_lack_of : Array (Option Value)} {oc_lack_of kV_lack_of dc_lack_of pm_lack_of cd_lack_of ct_lack_of : Value}
    {f_Way_init : Addr} {od_Way_init an_Way_init : Option Addr} {sl_Way_init : Array (Option Value)} {oc_Way_init kV_Way_init dc_Way_init pm_Way_init cd_Way_init ct_Way_init : Value}
    {f_way_with : Addr} {od_way_with an_way_with : Option Addr} {sl_way_with : Array (Option Value)} {oc_way_with kV_way_with dc_way_with pm_way_with cd_way_with ct_way_with : Value}
    {f_ways_onward : Addr} {od_ways_onward an_ways_onward : Option Addr} {sl_ways_onward : Array (Option Value)} {oc_ways_onward kV_ways_onward dc_ways_onward pm_ways_onward cd_ways_onward ct_ways_onward : Value}
    {f_is_cheaper : Addr} {od_is_cheaper an_is_cheaper : Option Addr} {sl_is_cheaper : Array (Option Value)} {oc_is_cheaper kV_is_cheaper dc_is_cheaper pm_is_cheaper cd_is_cheaper ct_is_cheaper : Value}
    {f_cheapest_that_rules : Addr} {od_cheapest_that_rules an_cheapest_that_rules : Option Addr} {sl_cheapest_that_rules : Array (Option Value)} {oc_cheapest_that_rules kV_cheapest_that_rules dc_cheapest_that_rules pm_cheapest_that_rules cd_cheapest_that_rules ct_cheapest_that_rules : Value}
    {f_worth_going_on : Addr} {od_worth_going_on an_worth_going_on : Option Addr} {sl_worth_going_on : Array (Option Value)} {oc_worth_going_on kV_worth_going_on dc_worth_going_on pm_worth_going_on cd_worth_going_on ct_worth_going_on : Value}
    {f_cheapest_way : Addr} {od_cheapest_way an_cheapest_way : Option Addr} {sl_cheapest_way : Array (Option Value)} {oc_cheapest_way kV_cheapest_way dc_cheapest_way pm_cheapest_way cd_cheapest_way ct_cheapest_way : Value}
    {f_group_count : Addr} {od_group_count an_group_count : Option Addr} {sl_group_count : Array (Option Value)} {oc_group_count kV_group_count dc_group_count pm_group_count cd_group_count ct_group_count : Value}
    {f_is_member : Addr} {od_is_member an_is_member : Option Addr} {sl_is_member : Array (Option Value)} {oc_is_member kV_is_member dc_is_member pm_is_member cd_is_member ct_is_member : Value}
    {f_without : Addr} {od_without an_without : Option Addr} {sl_without : Array (Option Value)} {oc_without kV_without dc_without pm_without cd_without ct_without : Value}
    {f_members_of : Addr} {od_members_of an_members_of : Option Addr} {sl_members_of : Array (Option Value)} {oc_members_of kV_members_of dc_members_of pm_members_of cd_members_of ct_members_of : Value}
    {f_ruled_by_group : Addr} {od_ruled_by_group an_ruled_by_group : Option Addr} {sl_ruled_by_group : Array (Option Value)} {oc_ruled_by_group kV_ruled_by_group dc_ruled_by_group pm_ruled_by_group cd_ruled_by_group ct_ruled_by_group : Value}
    {f_ruling_groups : Addr} {od_ruling_groups an_ruling_groups : Option Addr} {sl_ruling_groups : Array (Option Value)} {oc_ruling_groups kV_ruling_groups dc_ruling_groups pm_ruling_groups cd_ruling_groups ct_ruling_groups : Value}
    {f_hangs_on : Addr} {od_hangs_on an_hangs_on : Option Addr} {sl_hangs_on : Array (Option Value)} {oc_hangs_on kV_hangs_on dc_hangs_on pm_hangs_on cd_hangs_on ct_hangs_on : Value}
    {f_needs_all : Addr} {od_needs_all an_needs_all : Option Addr} {sl_needs_all : Array (Option Value)} {oc_needs_all kV_needs_all dc_needs_all pm_needs_all cd_needs_all ct_needs_all : Value}
    {f_least_groups : Addr} {od_least_groups an_least_groups : Option Addr} {sl_least_groups : Array (Option Value)} {oc_least_groups kV_least_groups dc_least_groups pm_least_groups cd_least_groups ct_least_groups : Value}
    {f_weight_of : Addr} {od_weight_of an_weight_of : Option Addr} {sl_weight_of : Array (Option Value)} {oc_weight_of kV_weight_of dc_weight_of pm_weight_of cd_weight_of ct_weight_of : Value}
    {f_with_fraction : Addr} {od_with_fraction an_with_fraction : Option Addr} {sl_with_fraction : Array (Option Value)} {oc_with_fraction kV_with_fraction dc_with_fraction pm_with_fraction cd_with_fraction ct_with_fraction : Value}
    {f_with_count : Addr} {od_with_count an_with_count : Option Addr} {sl_with_count : Array (Option Value)} {oc_with_count kV_with_count dc_with_count pm_with_count cd_with_count ct_with_count : Value}
    {f_is_share : Addr} {od_is_share an_is_share : Option Addr} {sl_is_share : Array (Option Value)} {oc_is_share kV_is_share dc_is_share pm_is_share cd_is_share ct_is_share : Value}
    {f_hold : Addr} {od_hold an_hold : Option Addr} {sl_hold : Array (Option Value)} {oc_hold kV_hold dc_hold pm_hold cd_hold ct_hold : Value}
    {f_part : Addr} {od_part an_part : Option Addr} {sl_part : Array (Option Value)} {oc_part kV_part dc_part pm_part cd_part ct_part : Value}
    {f_quorum : Addr} {od_quorum an_quorum : Option Addr} {sl_quorum : Array (Option Value)} {oc_quorum kV_quorum dc_quorum pm_quorum cd_quorum ct_quorum : Value}
    {f_prices : Addr} {od_prices an_prices : Option Addr} {sl_prices : Array (Option Value)} {oc_prices kV_prices dc_prices pm_prices cd_prices ct_prices : Value}
    {f_votes : Addr} {od_votes an_votes : Option Addr} {sl_votes : Array (Option Value)} {oc_votes kV_votes dc_votes pm_votes cd_votes ct_votes : Value}
    {f_rules : Addr} {od_rules an_rules : Option Addr} {sl_rules : Array (Option Value)} {oc_rules kV_rules dc_rules pm_rules cd_rules ct_rules : Value}
    {f_ruler : Addr} {od_ruler an_ruler : Option Addr} {sl_ruler : Array (Option Value)} {oc_ruler kV_ruler dc_ruler pm_ruler cd_ruler ct_ruler : Value}
    {f_selfruled : Addr} {od_selfruled an_selfruled : Option Addr} {sl_selfruled : Array (Option Value)} {oc_selfruled kV_selfruled dc_selfruled pm_selfruled cd_selfruled ct_selfruled : Value}
    {f_free : Addr} {od_free an_free : Option Addr} {sl_free : Array (Option Value)} {oc_free kV_free dc_free pm_free cd_free ct_free : Value}
    {f_together : Addr} {od_together an_together : Option Addr} {sl_together : Array (Option Value)} {oc_together kV_together dc_together pm_together cd_together ct_together : Value}
    {f_least : Addr} {od_least an_least : Option Addr} {sl_least : Array (Option Value)} {oc_least kV_least dc_least pm_least cd_least ct_least : Value}
    {f_weight : Addr} {od_weight an_weight : Option Addr} {sl_weight : Array (Option Value)} {oc_weight kV_weight dc_weight pm_weight cd_weight ct_weight : Value}
    {f_cheapest : Addr} {od_cheapest an_cheapest : Option Addr} {sl_cheapest : Array (Option Value)} {oc_cheapest kV_cheapest dc_cheapest pm_cheapest cd_cheapest ct_cheapest : Value}
    {f_lacking : Addr} {od_lacking an_lacking : Option Addr} {sl_lacking : Array (Option Value)} {oc_lacking kV_lacking dc_lacking pm_lacking cd_lacking ct_lacking : Value}
    {f_state : Addr} {od_state an_state : Option Addr} {sl_state : Array (Option Value)} {oc_state kV_state dc_state pm_state cd_state ct_state : Value}
    {f_answer_call : Addr} {od_answer_call an_answer_call : Option Addr} {sl_answer_call : Array (Option Value)} {oc_answer_call kV_answer_call dc_answer_call pm_answer_call cd_answer_call ct_answer_call : Value}
    {f_Desk_init : Addr} {od_Desk_init an_Desk_init : Option Addr} {sl_Desk_init : Array (Option Value)} {oc_Desk_init kV_Desk_init dc_Desk_init pm_Desk_init cd_Desk_init ct_Desk_init : Value}
    {f_Desk_begin : Addr} {od_Desk_begin an_Desk_begin : Option Addr} {sl_Desk_begin : Array (Option Value)} {oc_Desk_begin kV_Desk_begin dc_Desk_begin pm_Desk_begin cd_Desk_begin ct_Desk_begin : Value}
    {f_Desk_answer : Addr} {od_Desk_answer an_Desk_answer : Option Addr} {sl_Desk_answer : Array (Option Value)} {oc_Desk_answer kV_Desk_answer dc_Desk_answer pm_Desk_answer cd_Desk_answer ct_Desk_answer : Value}
    {f_start_of_given : Addr} {od_start_of_given an_start_of_given : Option Addr} {sl_start_of_given : Array (Option Value)} {oc_start_of_given kV_start_of_given dc_start_of_given pm_start_of_given cd_start_of_given ct_start_of_given : Value}
    {f_count_of_given : Addr} {od_count_of_given an_count_of_given : Option Addr} {sl_count_of_given : Array (Option Value)} {oc_count_of_given kV_count_of_given dc_count_of_given pm_count_of_given cd_count_of_given ct_count_of_given : Value}
    {f_answers : Addr} {od_answers an_answers : Option Addr} {sl_answers : Array (Option Value)} {oc_answers kV_answers dc_answers pm_answers cd_answers ct_answers : Value}
    {a_ZERO : Addr} {o_ZERO : Option Addr} {t0_ZERO t1_ZERO : Tok} {m_ZERO : Nat} {z_ZERO : Array (Option Value)}
    {a_ONE : Addr} {o_ONE : Option Addr} {t0_ONE t1_ONE : Tok} {m_ONE : Nat} {z_ONE : Array (Option Value)}
    {a_FIRST_QUORUM : Addr} {o_FIRST_QUORUM : Option Addr} {t0_FIRST_QUORUM t1_FIRST_QUORUM : Tok} {m_FIRST_QUORUM : Nat} {z_FIRST_QUORUM : Array (Option Value)}
    {t_FIRST_PRICE : Tok}
    {t_NO_SUCH : Tok}
    {t_NOT_BEGUN : Tok}
    {t_NOT_RIGHT : Tok}
    {t_NONE_OR_TOO_MUCH : Tok}
    {t_MOST_LOWER : Tok}
    {t_MOST_PRICE : Tok}
    {a_CALLS : Addr} {t0_CALLS t1_CALLS t2_CALLS t3_CALLS t4_CALLS t5_CALLS t6_CALLS t7_CALLS t8_CALLS t9_CALLS t10_CALLS t11_CALLS t12_CALLS t13_CALLS t14_CALLS : Tok} {m_CALLS : Nat}
    {t_MOST_PEOPLE : Tok}
    {t_MOST_COMPANIES : Tok}
    {t_BEGIN : Tok}
    {t_PRICES : Tok}
    {a_COUNTS : Addr} {o_COUNTS : Option Addr} {t0_COUNTS t1_COUNTS t2_COUNTS t3_COUNTS t4_COUNTS t5_COUNTS t6_COUNTS t7_COUNTS t8_COUNTS t9_COUNTS t10_COUNTS t11_COUNTS t12_COUNTS t13_COUNTS t14_COUNTS t15_COUNTS : Tok} {m_COUNTS : Nat} {z_COUNTS : Array (Option Value)}
    (nc_Book : PySem.W.nsIn K mainGlobals "Book" = some (some (.ref C_Book)))
    (nc_Way : PySem.W.nsIn K mainGlobals "Way" = some (some (.ref C_Way)))
    (nc_Desk : PySem.W.nsIn K mainGlobals "Desk" = some (some (.ref C_Desk)))
    (a_greatest_common : PySem.W.nsIn K mainGlobals "greatest_common" = some (some (.ref f_greatest_common)))
    (l_greatest_common : K.lookup f_greatest_common = some ⟨oc_greatest_common, od_greatest_common, .func (PySem.W.fnOf "greatest_common" "greatest_common" (defArgs s_greatest_common) (defBody s_greatest_common) (defScope s_greatest_common) .none kV_greatest_common dc_greatest_common pm_greatest_common an_greatest_common cd_greatest_common ct_greatest_common), sl_greatest_common⟩)
    (q_greatest_common : PySem.W.codeIn K cd_greatest_common "greatest_common" = true)
    (k_greatest_common : PySem.W.keepIn K (.ref f_greatest_common) = true)
    (a_lowest : PySem.W.nsIn K mainGlobals "lowest" = some (some (.ref f_lowest)))
    (l_lowest : K.lookup f_lowest = some ⟨oc_lowest, od_lowest, .func (PySem.W.fnOf "lowest" "lowest" (defArgs s_lowest) (defBody s_lowest) (defScope s_lowest) .none kV_lowest dc_lowest pm_lowest an_lowest cd_lowest ct_lowest), sl_lowest⟩)
    (q_lowest : PySem.W.codeIn K cd_lowest "lowest" = true)
    (k_lowest : PySem.W.keepIn K (.ref f_lowest) = true)
    (a_plus : PySem.W.nsIn K mainGlobals "plus" = some (some (.ref f_plus)))
    (l_plus : K.lookup f_plus = some ⟨oc_plus, od_plus, .func (PySem.W.fnOf "plus" "plus" (defArgs s_plus) (defBody s_plus) (defScope s_plus) .none kV_plus dc_plus pm_plus an_plus cd_plus ct_plus), sl_plus⟩)
    (q_plus : PySem.W.codeIn K cd_plus "plus" = true)
    (k_plus : PySem.W.keepIn K (.ref f_plus) = true)
    (a_minus : PySem.W.nsIn K mainGlobals "minus" = some (some (.ref f_minus)))
    (l_minus : K.lookup f_minus = some ⟨oc_minus, od_minus, .func (PySem.W.fnOf "minus" "minus" (defArgs s_minus) (defBody s_minus) (defScope s_minus) .none kV_minus dc_minus pm_minus an_minus cd_minus ct_minus), sl_minus⟩)
    (q_minus : PySem.W.codeIn K cd_minus "minus" = true)
    (k_minus : PySem.W.keepIn K (.ref f_minus) = true)
    (a_times : PySem.W.nsIn K mainGlobals "times" = some (some (.ref f_times)))
    (l_times : K.lookup f_times = some ⟨oc_times, od_times, .func (PySem.W.fnOf "times" "times" (defArgs s_times) (defBody s_times) (defScope s_times) .none kV_times dc_times pm_times an_times cd_times ct_times), sl_times⟩)
    (q_times : PySem.W.codeIn K cd_times "times" = true)
    (k_times : PySem.W.keepIn K (.ref f_times) = true)
    (a_at_least : PySem.W.nsIn K mainGlobals "at_least" = some (some (.ref f_at_least)))
    (l_at_least : K.lookup f_at_least = some ⟨oc_at_least, od_at_least, .func (PySem.W.fnOf "at_least" "at_least" (defArgs s_at_least) (defBody s_at_least) (defScope s_at_least) .none kV_at_least dc_at_least pm_at_least an_at_least cd_at_least ct_at_least), sl_at_least⟩)
    (q_at_least : PySem.W.codeIn K cd_at_least "at_least" = true)
    (k_at_least : PySem.W.keepIn K (.ref f_at_least) = true)
    (a_Book_init : PySem.W.findIn K (.ref C_Book) "__init__" = some (some (.ref f_Book_init)))
    (i_Book_init : PySem.W.isFn K (.ref f_Book_init) = true)
    (l_Book_init : K.lookup f_Book_init = some ⟨oc_Book_init, od_Book_init, .func (PySem.W.fnOf "__init__" "Book.__init__" (defArgs s_Book_init) (defBody s_Book_init) (defScope s_Book_init) .none kV_Book_init dc_Book_init pm_Book_init an_Book_init cd_Book_init ct_Book_init), sl_Book_init⟩)
    (q_Book_init : PySem.W.codeIn K cd_Book_init "Book.__init__" = true)
    (k_Book_init : PySem.W.keepIn K (.ref f_Book_init) = true)
    (a_Book_has_person : PySem.W.findIn K (.ref C_Book) "has_person" = some (some (.ref f_Book_has_person)))
    (i_Book_has_person : PySem.W.isFn K (.ref f_Book_has_person) = true)
    (l_Book_has_person : K.lookup f_Book_has_person = some ⟨oc_Book_has_person, od_Book_has_person, .func (PySem.W.fnOf "has_person" "Book.has_person" (defArgs s_Book_has_person) (defBody s_Book_has_person) (defScope s_Book_has_person) .none kV_Book_has_person dc_Book_has_person pm_Book_has_person an_Book_has_person cd_Book_has_person ct_Book_has_person), sl_Book_has_person⟩)
    (q_Book_has_person : PySem.W.codeIn K cd_Book_has_person "Book.has_person" = true)
    (k_Book_has_person : PySem.W.keepIn K (.ref f_Book_has_person) = true)
    (a_Book_has_company : PySem.W.findIn K (.ref C_Book) "has_company" = some (some (.ref f_Book_has_company)))
    (i_Book_has_company : PySem.W.isFn K (.ref f_Book_has_company) = true)
    (l_Book_has_company : K.lookup f_Book_has_company = some ⟨oc_Book_has_company, od_Book_has_company, .func (PySem.W.fnOf "has_company" "Book.has_company" (defArgs s_Book_has_company) (defBody s_Book_has_company) (defScope s_Book_has_company) .none kV_Book_has_company dc_Book_has_company pm_Book_has_company an_Book_has_company cd_Book_has_company ct_Book_has_company), sl_Book_has_company⟩)
    (q_Book_has_company : PySem.W.codeIn K cd_Book_has_company "Book.has_company" = true)
    (k_Book_has_company : PySem.W.keepIn K (.ref f_Book_has_company) = true)
    (a_Book_has_holder : PySem.W.findIn K (.ref C_Book) "has_holder" = some (some (.ref f_Book_has_holder)))
    (i_Book_has_holder : PySem.W.isFn K (.ref f_Book_has_holder) = true)
    (l_Book_has_holder : K.lookup f_Book_has_holder = some ⟨oc_Book_has_holder, od_Book_has_holder, .func (PySem.W.fnOf "has_holder" "Book.has_holder" (defArgs s_Book_has_holder) (defBody s_Book_has_holder) (defScope s_Book_has_holder) .none kV_Book_has_holder dc_Book_has_holder pm_Book_has_holder an_Book_has_holder cd_Book_has_holder ct_Book_has_holder), sl_Book_has_holder⟩)
    (q_Book_has_holder : PySem.W.codeIn K cd_Book_has_holder "Book.has_holder" = true)
    (k_Book_has_holder : PySem.W.keepIn K (.ref f_Book_has_holder) = true)
    (a_Book_company_as_holder : PySem.W.findIn K (.ref C_Book) "company_as_holder" = some (some (.ref f_Book_company_as_holder)))
    (i_Book_company_as_holder : PySem.W.isFn K (.ref f_Book_company_as_holder) = true)
    (l_Book_company_as_holder : K.lookup f_Book_company_as_holder = some ⟨oc_Book_company_as_holder, od_Book_company_as_holder, .func (PySem.W.fnOf "company_as_holder" "Book.company_as_holder" (defArgs s_Book_company_as_holder) (defBody s_Book_company_as_holder) (defScope s_Book_company_as_holder) .none kV_Book_company_as_holder dc_Book_company_as_holder pm_Book_company_as_holder an_Book_company_as_holder cd_Book_company_as_holder ct_Book_company_as_holder), sl_Book_company_as_holder⟩)
    (q_Book_company_as_holder : PySem.W.codeIn K cd_Book_company_as_holder "Book.company_as_holder" = true)
    (k_Book_company_as_holder : PySem.W.keepIn K (.ref f_Book_company_as_holder) = true)
    (a_Book_part_of : PySem.W.findIn K (.ref C_Book) "part_of" = some (some (.ref f_Book_part_of)))
    (i_Book_part_of : PySem.W.isFn K (.ref f_Book_part_of) = true)
    (l_Book_part_of : K.lookup f_Book_part_of = some ⟨oc_Book_part_of, od_Book_part_of, .func (PySem.W.fnOf "part_of" "Book.part_of" (defArgs s_Book_part_of) (defBody s_Book_part_of) (defScope s_Book_part_of) .none kV_Book_part_of dc_Book_part_of pm_Book_part_of an_Book_part_of cd_Book_part_of ct_Book_part_of), sl_Book_part_of⟩)
    (q_Book_part_of : PySem.W.codeIn K cd_Book_part_of "Book.part_of" = true)
    (k_Book_part_of : PySem.W.keepIn K (.ref f_Book_part_of) = true)
    (a_Book_give_part : PySem.W.findIn K (.ref C_Book) "give_part" = some (some (.ref f_Book_give_part)))
    (i_Book_give_part : PySem.W.isFn K (.ref f_Book_give_part) = true)
    (l_Book_give_part : K.lookup f_Book_give_part = some ⟨oc_Book_give_part, od_Book_give_part, .func (PySem.W.fnOf "give_part" "Book.give_part" (defArgs s_Book_give_part) (defBody s_Book_give_part) (defScope s_Book_give_part) .none kV_Book_give_part dc_Book_give_part pm_Book_give_part an_Book_give_part cd_Book_give_part ct_Book_give_part), sl_Book_give_part⟩)
    (q_Book_give_part : PySem.W.codeIn K cd_Book_give_part "Book.give_part" = true)
    (k_Book_give_part : PySem.W.keepIn K (.ref f_Book_give_part) = true)
    (a_Book_held_by : PySem.W.findIn K (.ref C_Book) "held_by" = some (some (.ref f_Book_held_by)))
    (i_Book_held_by : PySem.W.isFn K (.ref f_Book_held_by) = true)
    (l_Book_held_by : K.lookup f_Book_held_by = some ⟨oc_Book_held_by, od_Book_held_by, .func (PySem.W.fnOf "held_by" "Book.held_by" (defArgs s_Book_held_by) (defBody s_Book_held_by) (defScope s_Book_held_by) .none kV_Book_held_by dc_Book_held_by pm_Book_held_by an_Book_held_by cd_Book_held_by ct_Book_held_by), sl_Book_held_by⟩)
    (q_Book_held_by : PySem.W.codeIn K cd_Book_held_by "Book.held_by" = true)
    (k_Book_held_by : PySem.W.keepIn K (.ref f_Book_held_by) = true)
    (a_Book_held_by_others : PySem.W.findIn K (.ref C_Book) "held_by_others" = some (some (.ref f_Book_held_by_others)))
    (i_Book_held_by_others : PySem.W.isFn K (.ref f_Book_held_by_others) = true)
    (l_Book_held_by_others : K.lookup f_Book_held_by_others = some ⟨oc_Book_held_by_others, od_Book_held_by_others, .func (PySem.W.fnOf "held_by_others" "Book.held_by_others" (defArgs s_Book_held_by_others) (defBody s_Book_held_by_others) (defScope s_Book_held_by_others) .none kV_Book_held_by_others dc_Book_held_by_others pm_Book_held_by_others an_Book_held_by_others cd_Book_held_by_others ct_Book_held_by_others), sl_Book_held_by_others⟩)
    (q_Book_held_by_others : PySem.W.codeIn K cd_Book_held_by_others "Book.held_by_others" = true)
    (k_Book_held_by_others : PySem.W.keepIn K (.ref f_Book_held_by_others) = true)
    (a_votes_of : PySem.W.nsIn K mainGlobals "votes_of" = some (some (.ref f_votes_of)))
    (l_votes_of : K.lookup f_votes_of = some ⟨oc_votes_of, od_votes_of, .func (PySem.W.fnOf "votes_of" "votes_of" (defArgs s_votes_of) (defBody s_votes_of) (defScope s_votes_of) .none kV_votes_of dc_votes_of pm_votes_of an_votes_of cd_votes_of ct_votes_of), sl_votes_of⟩)
    (q_votes_of : PySem.W.codeIn K cd_votes_of "votes_of" = true)
    (k_votes_of : PySem.W.keepIn K (.ref f_votes_of) = true)
    (a_has_votes : PySem.W.nsIn K mainGlobals "has_votes" = some (some (.ref f_has_votes)))
    (l_has_votes : K.lookup f_has_votes = some ⟨oc_has_votes, od_has_votes, .func (PySem.W.fnOf "has_votes" "has_votes" (defArgs s_has_votes) (defBody s_has_votes) (defScope s_has_votes) .none kV_has_votes dc_has_votes pm_has_votes an_has_votes cd_has_votes ct_has_votes), sl_has_votes⟩)
    (q_has_votes : PySem.W.codeIn K cd_has_votes "has_votes" = true)
    (k_has_votes : PySem.W.keepIn K (.ref f_has_votes) = true)
    (a_needed_of : PySem.W.nsIn K mainGlobals "needed_of" = some (some (.ref f_needed_of)))
    (l_needed_of : K.lookup f_needed_of = some ⟨oc_needed_of, od_needed_of, .func (PySem.W.fnOf "needed_of" "needed_of" (defArgs s_needed_of) (defBody s_needed_of) (defScope s_needed_of) .none kV_needed_of dc_needed_of pm_needed_of an_needed_of cd_needed_of ct_needed_of), sl_needed_of⟩)
    (q_needed_of : PySem.W.codeIn K cd_needed_of "needed_of" = true)
    (k_needed_of : PySem.W.keepIn K (.ref f_needed_of) = true)
    (a_commanded : PySem.W.nsIn K mainGlobals "commanded" = some (some (.ref f_commanded)))
    (l_commanded : K.lookup f_commanded = some ⟨oc_commanded, od_commanded, .func (PySem.W.fnOf "commanded" "commanded" (defArgs s_commanded) (defBody s_commanded) (defScope s_commanded) .none kV_commanded dc_commanded pm_commanded an_commanded cd_commanded ct_commanded), sl_commanded⟩)
    (q_commanded : PySem.W.codeIn K cd_commanded "commanded" = true)
    (k_commanded : PySem.W.keepIn K (.ref f_commanded) = true)
    (a_is_ruled_by_way_of : PySem.W.nsIn K mainGlobals "is_ruled_by_way_of" = some (some (.ref f_is_ruled_by_way_of)))
    (l_is_ruled_by_way_of : K.lookup f_is_ruled_by_way_of = some ⟨oc_is_ruled_by_way_of, od_is_ruled_by_way_of, .func (PySem.W.fnOf "is_ruled_by_way_of" "is_ruled_by_way_of" (defArgs s_is_ruled_by_way_of) (defBody s_is_ruled_by_way_of) (defScope s_is_ruled_by_way_of) .none kV_is_ruled_by_way_of dc_is_ruled_by_way_of pm_is_ruled_by_way_of an_is_ruled_by_way_of cd_is_ruled_by_way_of ct_is_ruled_by_way_of), sl_is_ruled_by_way_of⟩)
    (q_is_ruled_by_way_of : PySem.W.codeIn K cd_is_ruled_by_way_of "is_ruled_by_way_of" = true)
    (k_is_ruled_by_way_of : PySem.W.keepIn K (.ref f_is_ruled_by_way_of) = true)
    (a_newly_ruled : PySem.W.nsIn K mainGlobals "newly_ruled" = some (some (.ref f_newly_ruled)))
    (l_newly_ruled : K.lookup f_newly_ruled = some ⟨oc_newly_ruled, od_newly_ruled, .func (PySem.W.fnOf "newly_ruled" "newly_ruled" (defArgs s_newly_ruled) (defBody s_newly_ruled) (defScope s_newly_ruled) .none kV_newly_ruled dc_newly_ruled pm_newly_ruled an_newly_ruled cd_newly_ruled ct_newly_ruled), sl_newly_ruled⟩)
    (q_newly_ruled : PySem.W.codeIn K cd_newly_ruled "newly_ruled" = true)
    (k_newly_ruled : PySem.W.keepIn K (.ref f_newly_ruled) = true)
    (a_ruled_from : PySem.W.nsIn K mainGlobals "ruled_from" = some (some (.ref f_ruled_from)))
    (l_ruled_from : K.lookup f_ruled_from = some ⟨oc_ruled_from, od_ruled_from, .func (PySem.W.fnOf "ruled_from" "ruled_from" (defArgs s_ruled_from) (defBody s_ruled_from) (defScope s_ruled_from) .none kV_ruled_from dc_ruled_from pm_ruled_from an_ruled_from cd_ruled_from ct_ruled_from), sl_ruled_from⟩)
    (q_ruled_from : PySem.W.codeIn K cd_ruled_from "ruled_from" = true)
    (k_ruled_from : PySem.W.keepIn K (.ref f_ruled_from) = true)
    (a_ruled_together : PySem.W.nsIn K mainGlobals "ruled_together" = some (some (.ref f_ruled_together)))
    (l_ruled_together : K.lookup f_ruled_together = some ⟨oc_ruled_together, od_ruled_together, .func (PySem.W.fnOf "ruled_together" "ruled_together" (defArgs s_ruled_together) (defBody s_ruled_together) (defScope s_ruled_together) .none kV_ruled_together dc_ruled_together pm_ruled_together an_ruled_together cd_ruled_together ct_ruled_together), sl_ruled_together⟩)
    (q_ruled_together : PySem.W.codeIn K cd_ruled_together "ruled_together" = true)
    (k_ruled_together : PySem.W.keepIn K (.ref f_ruled_together) = true)
    (a_rulers_of : PySem.W.nsIn K mainGlobals "rulers_of" = some (some (.ref f_rulers_of)))
    (l_rulers_of : K.lookup f_rulers_of = some ⟨oc_rulers_of, od_rulers_of, .func (PySem.W.fnOf "rulers_of" "rulers_of" (defArgs s_rulers_of) (defBody s_rulers_of) (defScope s_rulers_of) .none kV_rulers_of dc_rulers_of pm_rulers_of an_rulers_of cd_rulers_of ct_rulers_of), sl_rulers_of⟩)
    (q_rulers_of : PySem.W.codeIn K cd_rulers_of "rulers_of" = true)
    (k_rulers_of : PySem.W.keepIn K (.ref f_rulers_of) = true)
    (a_ruled_by_each_other : PySem.W.nsIn K mainGlobals "ruled_by_each_other" = some (some (.ref f_ruled_by_each_other)))
    (l_ruled_by_each_other : K.lookup f_ruled_by_each_other = some ⟨oc_ruled_by_each_other, od_ruled_by_each_other, .func (PySem.W.fnOf "ruled_by_each_other" "ruled_by_each_other" (defArgs s_ruled_by_each_other) (defBody s_ruled_by_each_other) (defScope s_ruled_by_each_other) .none kV_ruled_by_each_other dc_ruled_by_each_other pm_ruled_by_each_other an_ruled_by_each_other cd_ruled_by_each_other ct_ruled_by_each_other), sl_ruled_by_each_other⟩)
    (q_ruled_by_each_other : PySem.W.codeIn K cd_ruled_by_each_other "ruled_by_each_other" = true)
    (k_ruled_by_each_other : PySem.W.keepIn K (.ref f_ruled_by_each_other) = true)
    (a_self_ruled : PySem.W.nsIn K mainGlobals "self_ruled" = some (some (.ref f_self_ruled)))
    (l_self_ruled : K.lookup f_self_ruled = some ⟨oc_self_ruled, od_self_ruled, .func (PySem.W.fnOf "self_ruled" "self_ruled" (defArgs s_self_ruled) (defBody s_self_ruled) (defScope s_self_ruled) .none kV_self_ruled dc_self_ruled pm_self_ruled an_self_ruled cd_self_ruled ct_self_ruled), sl_self_ruled⟩)
    (q_self_ruled : PySem.W.codeIn K cd_self_ruled "self_ruled" = true)
    (k_self_ruled : PySem.W.keepIn K (.ref f_self_ruled) = true)
    (a_free_companies : PySem.W.nsIn K mainGlobals "free_companies" = some (some (.ref f_free_companies)))
    (l_free_companies : K.lookup f_free_companies = some ⟨oc_free_companies, od_free_companies, .func (PySem.W.fnOf "free_companies" "free_companies" (defArgs s_free_companies) (defBody s_free_companies) (defScope s_free_companies) .none kV_free_companies dc_free_companies pm_free_companies an_free_companies cd_free_companies ct_free_companies), sl_free_companies⟩)
    (q_free_companies : PySem.W.codeIn K cd_free_companies "free_companies" = true)
    (k_free_companies : PySem.W.keepIn K (.ref f_free_companies) = true)
    (a_lack_of : PySem.W.nsIn K mainGlobals "lack_of" = some (some (.ref f_lack_of)))
    (l_lack_of : K.lookup f_lack_of = some ⟨oc_lack_of, od_lack_of, .func (PySem.W.fnOf "lack_of" "lack_of" (defArgs s_lack_of) (defBody s_lack_of) (defScope s_lack_of) .none kV_lack_of dc_lack_of pm_lack_of an_lack_of cd_lack_of ct_lack_of), sl_lack_of⟩)
    (q_lack_of : PySem.W.codeIn K cd_lack_of "lack_of" = true)
    (k_lack_of : PySem.W.keepIn K (.ref f_lack_of) = true)
    (a_Way_init : PySem.W.findIn K (.ref C_Way) "__init__" = some (some (.ref f_Way_init)))
    (i_Way_init : PySem.W.isFn K (.ref f_Way_init) = true)
    (l_Way_init : K.lookup f_Way_init = some ⟨oc_Way_init, od_Way_init, .func (PySem.W.fnOf "__init__" "Way.__init__" (defArgs s_Way_init) (defBody s_Way_init) (defScope s_Way_init) .none kV_Way_init dc_Way_init pm_Way_init an_Way_init cd_Way_init ct_Way_init), sl_Way_init⟩)
    (q_Way_init : PySem.W.codeIn K cd_Way_init "Way.__init__" = true)
    (k_Way_init : PySem.W.keepIn K (.ref f_Way_init) = true)
    (a_way_with : PySem.W.nsIn K mainGlobals "way_with" = some (some (.ref f_way_with)))
    (l_way_with : K.lookup f_way_with = some ⟨oc_way_with, od_way_with, .func (PySem.W.fnOf "way_with" "way_with" (defArgs s_way_with) (defBody s_way_with) (defScope s_way_with) .none kV_way_with dc_way_with pm_way_with an_way_with cd_way_with ct_way_with), sl_way_with⟩)
    (q_way_with : PySem.W.codeIn K cd_way_with "way_with" = true)
    (k_way_with : PySem.W.keepIn K (.ref f_way_with) = true)
    (a_ways_onward : PySem.W.nsIn K mainGlobals "ways_onward" = some (some (.ref f_ways_onward)))
    (l_ways_onward : K.lookup f_ways_onward = some ⟨oc_ways_onward, od_ways_onward, .func (PySem.W.fnOf "ways_onward" "ways_onward" (defArgs s_ways_onward) (defBody s_ways_onward) (defScope s_ways_onward) .none kV_ways_onward dc_ways_onward pm_ways_onward an_ways_onward cd_ways_onward ct_ways_onward), sl_ways_onward⟩)
    (q_ways_onward : PySem.W.codeIn K cd_ways_onward "ways_onward" = true)
    (k_ways_onward : PySem.W.keepIn K (.ref f_ways_onward) = true)
    (a_is_cheaper : PySem.W.nsIn K mainGlobals "is_cheaper" = some (some (.ref f_is_cheaper)))
    (l_is_cheaper : K.lookup f_is_cheaper = some ⟨oc_is_cheaper, od_is_cheaper, .func (PySem.W.fnOf "is_cheaper" "is_cheaper" (defArgs s_is_cheaper) (defBody s_is_cheaper) (defScope s_is_cheaper) .none kV_is_cheaper dc_is_cheaper pm_is_cheaper an_is_cheaper cd_is_cheaper ct_is_cheaper), sl_is_cheaper⟩)
    (q_is_cheaper : PySem.W.codeIn K cd_is_cheaper "is_cheaper" = true)
    (k_is_cheaper : PySem.W.keepIn K (.ref f_is_cheaper) = true)
    (a_cheapest_that_rules : PySem.W.nsIn K mainGlobals "cheapest_that_rules" = some (some (.ref f_cheapest_that_rules)))
    (l_cheapest_that_rules : K.lookup f_cheapest_that_rules = some ⟨oc_cheapest_that_rules, od_cheapest_that_rules, .func (PySem.W.fnOf "cheapest_that_rules" "cheapest_that_rules" (defArgs s_cheapest_that_rules) (defBody s_cheapest_that_rules) (defScope s_cheapest_that_rules) .none kV_cheapest_that_rules dc_cheapest_that_rules pm_cheapest_that_rules an_cheapest_that_rules cd_cheapest_that_rules ct_cheapest_that_rules), sl_cheapest_that_rules⟩)
    (q_cheapest_that_rules : PySem.W.codeIn K cd_cheapest_that_rules "cheapest_that_rules" = true)
    (k_cheapest_that_rules : PySem.W.keepIn K (.ref f_cheapest_that_rules) = true)
    (a_worth_going_on : PySem.W.nsIn K mainGlobals "worth_going_on" = some (some (.ref f_worth_going_on)))
    (l_worth_going_on : K.lookup f_worth_going_on = some ⟨oc_worth_going_on, od_worth_going_on, .func (PySem.W.fnOf "worth_going_on" "worth_going_on" (defArgs s_worth_going_on) (defBody s_worth_going_on) (defScope s_worth_going_on) .none kV_worth_going_on dc_worth_going_on pm_worth_going_on an_worth_going_on cd_worth_going_on ct_worth_going_on), sl_worth_going_on⟩)
    (q_worth_going_on : PySem.W.codeIn K cd_worth_going_on "worth_going_on" = true)
    (k_worth_going_on : PySem.W.keepIn K (.ref f_worth_going_on) = true)
    (a_cheapest_way : PySem.W.nsIn K mainGlobals "cheapest_way" = some (some (.ref f_cheapest_way)))
    (l_cheapest_way : K.lookup f_cheapest_way = some ⟨oc_cheapest_way, od_cheapest_way, .func (PySem.W.fnOf "cheapest_way" "cheapest_way" (defArgs s_cheapest_way) (defBody s_cheapest_way) (defScope s_cheapest_way) .none kV_cheapest_way dc_cheapest_way pm_cheapest_way an_cheapest_way cd_cheapest_way ct_cheapest_way), sl_cheapest_way⟩)
    (q_cheapest_way : PySem.W.codeIn K cd_cheapest_way "cheapest_way" = true)
    (k_cheapest_way : PySem.W.keepIn K (.ref f_cheapest_way) = true)
    (a_group_count : PySem.W.nsIn K mainGlobals "group_count" = some (some (.ref f_group_count)))
    (l_group_count : K.lookup f_group_count = some ⟨oc_group_count, od_group_count, .func (PySem.W.fnOf "group_count" "group_count" (defArgs s_group_count) (defBody s_group_count) (defScope s_group_count) .none kV_group_count dc_group_count pm_group_count an_group_count cd_group_count ct_group_count), sl_group_count⟩)
    (q_group_count : PySem.W.codeIn K cd_group_count "group_count" = true)
    (k_group_count : PySem.W.keepIn K (.ref f_group_count) = true)
    (a_is_member : PySem.W.nsIn K mainGlobals "is_member" = some (some (.ref f_is_member)))
    (l_is_member : K.lookup f_is_member = some ⟨oc_is_member, od_is_member, .func (PySem.W.fnOf "is_member" "is_member" (defArgs s_is_member) (defBody s_is_member) (defScope s_is_member) .none kV_is_member dc_is_member pm_is_member an_is_member cd_is_member ct_is_member), sl_is_member⟩)
    (q_is_member : PySem.W.codeIn K cd_is_member "is_member" = true)
    (k_is_member : PySem.W.keepIn K (.ref f_is_member) = true)
    (a_without : PySem.W.nsIn K mainGlobals "without" = some (some (.ref f_without)))
    (l_without : K.lookup f_without = some ⟨oc_without, od_without, .func (PySem.W.fnOf "without" "without" (defArgs s_without) (defBody s_without) (defScope s_without) .none kV_without dc_without pm_without an_without cd_without ct_without), sl_without⟩)
    (q_without : PySem.W.codeIn K cd_without "without" = true)
    (k_without : PySem.W.keepIn K (.ref f_without) = true)
    (a_members_of : PySem.W.nsIn K mainGlobals "members_of" = some (some (.ref f_members_of)))
    (l_members_of : K.lookup f_members_of = some ⟨oc_members_of, od_members_of, .func (PySem.W.fnOf "members_of" "members_of" (defArgs s_members_of) (defBody s_members_of) (defScope s_members_of) .none kV_members_of dc_members_of pm_members_of an_members_of cd_members_of ct_members_of), sl_members_of⟩)
    (q_members_of : PySem.W.codeIn K cd_members_of "members_of" = true)
    (k_members_of : PySem.W.keepIn K (.ref f_members_of) = true)
    (a_ruled_by_group : PySem.W.nsIn K mainGlobals "ruled_by_group" = some (some (.ref f_ruled_by_group)))
    (l_ruled_by_group : K.lookup f_ruled_by_group = some ⟨oc_ruled_by_group, od_ruled_by_group, .func (PySem.W.fnOf "ruled_by_group" "ruled_by_group" (defArgs s_ruled_by_group) (defBody s_ruled_by_group) (defScope s_ruled_by_group) .none kV_ruled_by_group dc_ruled_by_group pm_ruled_by_group an_ruled_by_group cd_ruled_by_group ct_ruled_by_group), sl_ruled_by_group⟩)
    (q_ruled_by_group : PySem.W.codeIn K cd_ruled_by_group "ruled_by_group" = true)
    (k_ruled_by_group : PySem.W.keepIn K (.ref f_ruled_by_group) = true)
    (a_ruling_groups : PySem.W.nsIn K mainGlobals "ruling_groups" = some (some (.ref f_ruling_groups)))
    (l_ruling_groups : K.lookup f_ruling_groups = some ⟨oc_ruling_groups, od_ruling_groups, .func (PySem.W.fnOf "ruling_groups" "ruling_groups" (defArgs s_ruling_groups) (defBody s_ruling_groups) (defScope s_ruling_groups) .none kV_ruling_groups dc_ruling_groups pm_ruling_groups an_ruling_groups cd_ruling_groups ct_ruling_groups), sl_ruling_groups⟩)
    (q_ruling_groups : PySem.W.codeIn K cd_ruling_groups "ruling_groups" = true)
    (k_ruling_groups : PySem.W.keepIn K (.ref f_ruling_groups) = true)
    (a_hangs_on : PySem.W.nsIn K mainGlobals "hangs_on" = some (some (.ref f_hangs_on)))
    (l_hangs_on : K.lookup f_hangs_on = some ⟨oc_hangs_on, od_hangs_on, .func (PySem.W.fnOf "hangs_on" "hangs_on" (defArgs s_hangs_on) (defBody s_hangs_on) (defScope s_hangs_on) .none kV_hangs_on dc_hangs_on pm_hangs_on an_hangs_on cd_hangs_on ct_hangs_on), sl_hangs_on⟩)
    (q_hangs_on : PySem.W.codeIn K cd_hangs_on "hangs_on" = true)
    (k_hangs_on : PySem.W.keepIn K (.ref f_hangs_on) = true)
    (a_needs_all : PySem.W.nsIn K mainGlobals "needs_all" = some (some (.ref f_needs_all)))
    (l_needs_all : K.lookup f_needs_all = some ⟨oc_needs_all, od_needs_all, .func (PySem.W.fnOf "needs_all" "needs_all" (defArgs s_needs_all) (defBody s_needs_all) (defScope s_needs_all) .none kV_needs_all dc_needs_all pm_needs_all an_needs_all cd_needs_all ct_needs_all), sl_needs_all⟩)
    (q_needs_all : PySem.W.codeIn K cd_needs_all "needs_all" = true)
    (k_needs_all : PySem.W.keepIn K (.ref f_needs_all) = true)
    (a_least_groups : PySem.W.nsIn K mainGlobals "least_groups" = some (some (.ref f_least_groups)))
    (l_least_groups : K.lookup f_least_groups = some ⟨oc_least_groups, od_least_groups, .func (PySem.W.fnOf "least_groups" "least_groups" (defArgs s_least_groups) (defBody s_least_groups) (defScope s_least_groups) .none kV_least_groups dc_least_groups pm_least_groups an_least_groups cd_least_groups ct_least_groups), sl_least_groups⟩)
    (q_least_groups : PySem.W.codeIn K cd_least_groups "least_groups" = true)
    (k_least_groups : PySem.W.keepIn K (.ref f_least_groups) = true)
    (a_weight_of : PySem.W.nsIn K mainGlobals "weight_of" = some (some (.ref f_weight_of)))
    (l_weight_of : K.lookup f_weight_of = some ⟨oc_weight_of, od_weight_of, .func (PySem.W.fnOf "weight_of" "weight_of" (defArgs s_weight_of) (defBody s_weight_of) (defScope s_weight_of) .none kV_weight_of dc_weight_of pm_weight_of an_weight_of cd_weight_of ct_weight_of), sl_weight_of⟩)
    (q_weight_of : PySem.W.codeIn K cd_weight_of "weight_of" = true)
    (k_weight_of : PySem.W.keepIn K (.ref f_weight_of) = true)
    (a_with_fraction : PySem.W.nsIn K mainGlobals "with_fraction" = some (some (.ref f_with_fraction)))
    (l_with_fraction : K.lookup f_with_fraction = some ⟨oc_with_fraction, od_with_fraction, .func (PySem.W.fnOf "with_fraction" "with_fraction" (defArgs s_with_fraction) (defBody s_with_fraction) (defScope s_with_fraction) .none kV_with_fraction dc_with_fraction pm_with_fraction an_with_fraction cd_with_fraction ct_with_fraction), sl_with_fraction⟩)
    (q_with_fraction : PySem.W.codeIn K cd_with_fraction "with_fraction" = true)
    (k_with_fraction : PySem.W.keepIn K (.ref f_with_fraction) = true)
    (a_with_count : PySem.W.nsIn K mainGlobals "with_count" = some (some (.ref f_with_count)))
    (l_with_count : K.lookup f_with_count = some ⟨oc_with_count, od_with_count, .func (PySem.W.fnOf "with_count" "with_count" (defArgs s_with_count) (defBody s_with_count) (defScope s_with_count) .none kV_with_count dc_with_count pm_with_count an_with_count cd_with_count ct_with_count), sl_with_count⟩)
    (q_with_count : PySem.W.codeIn K cd_with_count "with_count" = true)
    (k_with_count : PySem.W.keepIn K (.ref f_with_count) = true)
    (a_is_share : PySem.W.nsIn K mainGlobals "is_share" = some (some (.ref f_is_share)))
    (l_is_share : K.lookup f_is_share = some ⟨oc_is_share, od_is_share, .func (PySem.W.fnOf "is_share" "is_share" (defArgs s_is_share) (defBody s_is_share) (defScope s_is_share) .none kV_is_share dc_is_share pm_is_share an_is_share cd_is_share ct_is_share), sl_is_share⟩)
    (q_is_share : PySem.W.codeIn K cd_is_share "is_share" = true)
    (k_is_share : PySem.W.keepIn K (.ref f_is_share) = true)
    (a_hold : PySem.W.nsIn K mainGlobals "hold" = some (some (.ref f_hold)))
    (l_hold : K.lookup f_hold = some ⟨oc_hold, od_hold, .func (PySem.W.fnOf "hold" "hold" (defArgs s_hold) (defBody s_hold) (defScope s_hold) .none kV_hold dc_hold pm_hold an_hold cd_hold ct_hold), sl_hold⟩)
    (q_hold : PySem.W.codeIn K cd_hold "hold" = true)
    (k_hold : PySem.W.keepIn K (.ref f_hold) = true)
    (a_part : PySem.W.nsIn K mainGlobals "part" = some (some (.ref f_part)))
    (l_part : K.lookup f_part = some ⟨oc_part, od_part, .func (PySem.W.fnOf "part" "part" (defArgs s_part) (defBody s_part) (defScope s_part) .none kV_part dc_part pm_part an_part cd_part ct_part), sl_part⟩)
    (q_part : PySem.W.codeIn K cd_part "part" = true)
    (k_part : PySem.W.keepIn K (.ref f_part) = true)
    (a_quorum : PySem.W.nsIn K mainGlobals "quorum" = some (some (.ref f_quorum)))
    (l_quorum : K.lookup f_quorum = some ⟨oc_quorum, od_quorum, .func (PySem.W.fnOf "quorum" "quorum" (defArgs s_quorum) (defBody s_quorum) (defScope s_quorum) .none kV_quorum dc_quorum pm_quorum an_quorum cd_quorum ct_quorum), sl_quorum⟩)
    (q_quorum : PySem.W.codeIn K cd_quorum "quorum" = true)
    (k_quorum : PySem.W.keepIn K (.ref f_quorum) = true)
    (a_prices : PySem.W.nsIn K mainGlobals "prices" = some (some (.ref f_prices)))
    (l_prices : K.lookup f_prices = some ⟨oc_prices, od_prices, .func (PySem.W.fnOf "prices" "prices" (defArgs s_prices) (defBody s_prices) (defScope s_prices) .none kV_prices dc_prices pm_prices an_prices cd_prices ct_prices), sl_prices⟩)
    (q_prices : PySem.W.codeIn K cd_prices "prices" = true)
    (k_prices : PySem.W.keepIn K (.ref f_prices) = true)
    (a_votes : PySem.W.nsIn K mainGlobals "votes" = some (some (.ref f_votes)))
    (l_votes : K.lookup f_votes = some ⟨oc_votes, od_votes, .func (PySem.W.fnOf "votes" "votes" (defArgs s_votes) (defBody s_votes) (defScope s_votes) .none kV_votes dc_votes pm_votes an_votes cd_votes ct_votes), sl_votes⟩)
    (q_votes : PySem.W.codeIn K cd_votes "votes" = true)
    (k_votes : PySem.W.keepIn K (.ref f_votes) = true)
    (a_rules : PySem.W.nsIn K mainGlobals "rules" = some (some (.ref f_rules)))
    (l_rules : K.lookup f_rules = some ⟨oc_rules, od_rules, .func (PySem.W.fnOf "rules" "rules" (defArgs s_rules) (defBody s_rules) (defScope s_rules) .none kV_rules dc_rules pm_rules an_rules cd_rules ct_rules), sl_rules⟩)
    (q_rules : PySem.W.codeIn K cd_rules "rules" = true)
    (k_rules : PySem.W.keepIn K (.ref f_rules) = true)
    (a_ruler : PySem.W.nsIn K mainGlobals "ruler" = some (some (.ref f_ruler)))
    (l_ruler : K.lookup f_ruler = some ⟨oc_ruler, od_ruler, .func (PySem.W.fnOf "ruler" "ruler" (defArgs s_ruler) (defBody s_ruler) (defScope s_ruler) .none kV_ruler dc_ruler pm_ruler an_ruler cd_ruler ct_ruler), sl_ruler⟩)
    (q_ruler : PySem.W.codeIn K cd_ruler "ruler" = true)
    (k_ruler : PySem.W.keepIn K (.ref f_ruler) = true)
    (a_selfruled : PySem.W.nsIn K mainGlobals "selfruled" = some (some (.ref f_selfruled)))
    (l_selfruled : K.lookup f_selfruled = some ⟨oc_selfruled, od_selfruled, .func (PySem.W.fnOf "selfruled" "selfruled" (defArgs s_selfruled) (defBody s_selfruled) (defScope s_selfruled) .none kV_selfruled dc_selfruled pm_selfruled an_selfruled cd_selfruled ct_selfruled), sl_selfruled⟩)
    (q_selfruled : PySem.W.codeIn K cd_selfruled "selfruled" = true)
    (k_selfruled : PySem.W.keepIn K (.ref f_selfruled) = true)
    (a_free : PySem.W.nsIn K mainGlobals "free" = some (some (.ref f_free)))
    (l_free : K.lookup f_free = some ⟨oc_free, od_free, .func (PySem.W.fnOf "free" "free" (defArgs s_free) (defBody s_free) (defScope s_free) .none kV_free dc_free pm_free an_free cd_free ct_free), sl_free⟩)
    (q_free : PySem.W.codeIn K cd_free "free" = true)
    (k_free : PySem.W.keepIn K (.ref f_free) = true)
    (a_together : PySem.W.nsIn K mainGlobals "together" = some (some (.ref f_together)))
    (l_together : K.lookup f_together = some ⟨oc_together, od_together, .func (PySem.W.fnOf "together" "together" (defArgs s_together) (defBody s_together) (defScope s_together) .none kV_together dc_together pm_together an_together cd_together ct_together), sl_together⟩)
    (q_together : PySem.W.codeIn K cd_together "together" = true)
    (k_together : PySem.W.keepIn K (.ref f_together) = true)
    (a_least : PySem.W.nsIn K mainGlobals "least" = some (some (.ref f_least)))
    (l_least : K.lookup f_least = some ⟨oc_least, od_least, .func (PySem.W.fnOf "least" "least" (defArgs s_least) (defBody s_least) (defScope s_least) .none kV_least dc_least pm_least an_least cd_least ct_least), sl_least⟩)
    (q_least : PySem.W.codeIn K cd_least "least" = true)
    (k_least : PySem.W.keepIn K (.ref f_least) = true)
    (a_weight : PySem.W.nsIn K mainGlobals "weight" = some (some (.ref f_weight)))
    (l_weight : K.lookup f_weight = some ⟨oc_weight, od_weight, .func (PySem.W.fnOf "weight" "weight" (defArgs s_weight) (defBody s_weight) (defScope s_weight) .none kV_weight dc_weight pm_weight an_weight cd_weight ct_weight), sl_weight⟩)
    (q_weight : PySem.W.codeIn K cd_weight "weight" = true)
    (k_weight : PySem.W.keepIn K (.ref f_weight) = true)
    (a_cheapest : PySem.W.nsIn K mainGlobals "cheapest" = some (some (.ref f_cheapest)))
    (l_cheapest : K.lookup f_cheapest = some ⟨oc_cheapest, od_cheapest, .func (PySem.W.fnOf "cheapest" "cheapest" (defArgs s_cheapest) (defBody s_cheapest) (defScope s_cheapest) .none kV_cheapest dc_cheapest pm_cheapest an_cheapest cd_cheapest ct_cheapest), sl_cheapest⟩)
    (q_cheapest : PySem.W.codeIn K cd_cheapest "cheapest" = true)
    (k_cheapest : PySem.W.keepIn K (.ref f_cheapest) = true)
    (a_lacking : PySem.W.nsIn K mainGlobals "lacking" = some (some (.ref f_lacking)))
    (l_lacking : K.lookup f_lacking = some ⟨oc_lacking, od_lacking, .func (PySem.W.fnOf "lacking" "lacking" (defArgs s_lacking) (defBody s_lacking) (defScope s_lacking) .none kV_lacking dc_lacking pm_lacking an_lacking cd_lacking ct_lacking), sl_lacking⟩)
    (q_lacking : PySem.W.codeIn K cd_lacking "lacking" = true)
    (k_lacking : PySem.W.keepIn K (.ref f_lacking) = true)
    (a_state : PySem.W.nsIn K mainGlobals "state" = some (some (.ref f_state)))
    (l_state : K.lookup f_state = some ⟨oc_state, od_state, .func (PySem.W.fnOf "state" "state" (defArgs s_state) (defBody s_state) (defScope s_state) .none kV_state dc_state pm_state an_state cd_state ct_state), sl_state⟩)
    (q_state : PySem.W.codeIn K cd_state "state" = true)
    (k_state : PySem.W.keepIn K (.ref f_state) = true)
    (a_answer_call : PySem.W.nsIn K mainGlobals "answer_call" = some (some (.ref f_answer_call)))
    (l_answer_call : K.lookup f_answer_call = some ⟨oc_answer_call, od_answer_call, .func (PySem.W.fnOf "answer_call" "answer_call" (defArgs s_answer_call) (defBody s_answer_call) (defScope s_answer_call) .none kV_answer_call dc_answer_call pm_answer_call an_answer_call cd_answer_call ct_answer_call), sl_answer_call⟩)
    (q_answer_call : PySem.W.codeIn K cd_answer_call "answer_call" = true)
    (k_answer_call : PySem.W.keepIn K (.ref f_answer_call) = true)
    (a_Desk_init : PySem.W.findIn K (.ref C_Desk) "__init__" = some (some (.ref f_Desk_init)))
    (i_Desk_init : PySem.W.isFn K (.ref f_Desk_init) = true)
    (l_Desk_init : K.lookup f_Desk_init = some ⟨oc_Desk_init, od_Desk_init, .func (PySem.W.fnOf "__init__" "Desk.__init__" (defArgs s_Desk_init) (defBody s_Desk_init) (defScope s_Desk_init) .none kV_Desk_init dc_Desk_init pm_Desk_init an_Desk_init cd_Desk_init ct_Desk_init), sl_Desk_init⟩)
    (q_Desk_init : PySem.W.codeIn K cd_Desk_init "Desk.__init__" = true)
    (k_Desk_init : PySem.W.keepIn K (.ref f_Desk_init) = true)
    (a_Desk_begin : PySem.W.findIn K (.ref C_Desk) "begin" = some (some (.ref f_Desk_begin)))
    (i_Desk_begin : PySem.W.isFn K (.ref f_Desk_begin) = true)
    (l_Desk_begin : K.lookup f_Desk_begin = some ⟨oc_Desk_begin, od_Desk_begin, .func (PySem.W.fnOf "begin" "Desk.begin" (defArgs s_Desk_begin) (defBody s_Desk_begin) (defScope s_Desk_begin) .none kV_Desk_begin dc_Desk_begin pm_Desk_begin an_Desk_begin cd_Desk_begin ct_Desk_begin), sl_Desk_begin⟩)
    (q_Desk_begin : PySem.W.codeIn K cd_Desk_begin "Desk.begin" = true)
    (k_Desk_begin : PySem.W.keepIn K (.ref f_Desk_begin) = true)
    (a_Desk_answer : PySem.W.findIn K (.ref C_Desk) "answer" = some (some (.ref f_Desk_answer)))
    (i_Desk_answer : PySem.W.isFn K (.ref f_Desk_answer) = true)
    (l_Desk_answer : K.lookup f_Desk_answer = some ⟨oc_Desk_answer, od_Desk_answer, .func (PySem.W.fnOf "answer" "Desk.answer" (defArgs s_Desk_answer) (defBody s_Desk_answer) (defScope s_Desk_answer) .none kV_Desk_answer dc_Desk_answer pm_Desk_answer an_Desk_answer cd_Desk_answer ct_Desk_answer), sl_Desk_answer⟩)
    (q_Desk_answer : PySem.W.codeIn K cd_Desk_answer "Desk.answer" = true)
    (k_Desk_answer : PySem.W.keepIn K (.ref f_Desk_answer) = true)
    (a_start_of_given : PySem.W.nsIn K mainGlobals "start_of_given" = some (some (.ref f_start_of_given)))
    (l_start_of_given : K.lookup f_start_of_given = some ⟨oc_start_of_given, od_start_of_given, .func (PySem.W.fnOf "start_of_given" "start_of_given" (defArgs s_start_of_given) (defBody s_start_of_given) (defScope s_start_of_given) .none kV_start_of_given dc_start_of_given pm_start_of_given an_start_of_given cd_start_of_given ct_start_of_given), sl_start_of_given⟩)
    (q_start_of_given : PySem.W.codeIn K cd_start_of_given "start_of_given" = true)
    (k_start_of_given : PySem.W.keepIn K (.ref f_start_of_given) = true)
    (a_count_of_given : PySem.W.nsIn K mainGlobals "count_of_given" = some (some (.ref f_count_of_given)))
    (l_count_of_given : K.lookup f_count_of_given = some ⟨oc_count_of_given, od_count_of_given, .func (PySem.W.fnOf "count_of_given" "count_of_given" (defArgs s_count_of_given) (defBody s_count_of_given) (defScope s_count_of_given) .none kV_count_of_given dc_count_of_given pm_count_of_given an_count_of_given cd_count_of_given ct_count_of_given), sl_count_of_given⟩)
    (q_count_of_given : PySem.W.codeIn K cd_count_of_given "count_of_given" = true)
    (k_count_of_given : PySem.W.keepIn K (.ref f_count_of_given) = true)
    (a_answers : PySem.W.nsIn K mainGlobals "answers" = some (some (.ref f_answers)))
    (l_answers : K.lookup f_answers = some ⟨oc_answers, od_answers, .func (PySem.W.fnOf "answers" "answers" (defArgs s_answers) (defBody s_answers) (defScope s_answers) .none kV_answers dc_answers pm_answers an_answers cd_answers ct_answers), sl_answers⟩)
    (q_answers : PySem.W.codeIn K cd_answers "answers" = true)
    (k_answers : PySem.W.keepIn K (.ref f_answers) = true)
    (pg_Book : PySem.W.plainGet K C_Book Str.empty = true)
    (hd_Book : PySem.W.hasDictIn K C_Book = true)
    (po_Book : PySem.W.plainOver K C_Book = true)
    (sa_Book : PySem.W.findIn K (.ref C_Book) "__setattr__" = some (some (.builtin "object.__setattr__")))
    (mk_Book : PySem.W.makesIn K C_Book = true)
    (kc_Book : PySem.W.keepIn K (.ref C_Book) = true)
    (n_Book_people : PySem.W.findIn K (.ref C_Book) "people" = some none)
    (n_Book_companies : PySem.W.findIn K (.ref C_Book) "companies" = some none)
    (n_Book_parts : PySem.W.findIn K (.ref C_Book) "parts" = some none)
    (n_Book_quorum : PySem.W.findIn K (.ref C_Book) "quorum" = some none)
    (n_Book_prices : PySem.W.findIn K (.ref C_Book) "prices" = some none)
    (pg_Way : PySem.W.plainGet K C_Way Str.empty = true)
    (hd_Way : PySem.W.hasDictIn K C_Way = true)
    (po_Way : PySem.W.plainOver K C_Way = true)
    (sa_Way : PySem.W.findIn K (.ref C_Way) "__setattr__" = some (some (.builtin "object.__setattr__")))
    (mk_Way : PySem.W.makesIn K C_Way = true)
    (kc_Way : PySem.W.keepIn K (.ref C_Way) = true)
    (n_Way_bought : PySem.W.findIn K (.ref C_Way) "bought" = some none)
    (n_Way_cost : PySem.W.findIn K (.ref C_Way) "cost" = some none)
    (n_Way_ruled : PySem.W.findIn K (.ref C_Way) "ruled" = some none)
    (pg_Desk : PySem.W.plainGet K C_Desk Str.empty = true)
    (hd_Desk : PySem.W.hasDictIn K C_Desk = true)
    (po_Desk : PySem.W.plainOver K C_Desk = true)
    (sa_Desk : PySem.W.findIn K (.ref C_Desk) "__setattr__" = some (some (.builtin "object.__setattr__")))
    (mk_Desk : PySem.W.makesIn K C_Desk = true)
    (kc_Desk : PySem.W.keepIn K (.ref C_Desk) = true)
    (n_Desk_book : PySem.W.findIn K (.ref C_Desk) "book" = some none)
    (v_ZERO : PySem.W.nsIn K mainGlobals "ZERO" = some (some (.ref a_ZERO)))
    (w_ZERO : K.lookup a_ZERO = some ⟨.type "tuple", o_ZERO, .seq #[.int (0) t0_ZERO, .int (1) t1_ZERO] m_ZERO, z_ZERO⟩)
    (v_ONE : PySem.W.nsIn K mainGlobals "ONE" = some (some (.ref a_ONE)))
    (w_ONE : K.lookup a_ONE = some ⟨.type "tuple", o_ONE, .seq #[.int (1) t0_ONE, .int (1) t1_ONE] m_ONE, z_ONE⟩)
    (v_FIRST_QUORUM : PySem.W.nsIn K mainGlobals "FIRST_QUORUM" = some (some (.ref a_FIRST_QUORUM)))
    (w_FIRST_QUORUM : K.lookup a_FIRST_QUORUM = some ⟨.type "tuple", o_FIRST_QUORUM, .seq #[.int (3) t0_FIRST_QUORUM, .int (5) t1_FIRST_QUORUM] m_FIRST_QUORUM, z_FIRST_QUORUM⟩)
    (v_FIRST_PRICE : PySem.W.nsIn K mainGlobals "FIRST_PRICE" = some (some (.int (100) t_FIRST_PRICE)))
    (v_NO_SUCH : PySem.W.nsIn K mainGlobals "NO_SUCH" = some (some (.int (-2) t_NO_SUCH)))
    (v_NOT_BEGUN : PySem.W.nsIn K mainGlobals "NOT_BEGUN" = some (some (.int (-11) t_NOT_BEGUN)))
    (v_NOT_RIGHT : PySem.W.nsIn K mainGlobals "NOT_RIGHT" = some (some (.int (-22) t_NOT_RIGHT)))
    (v_NONE_OR_TOO_MUCH : PySem.W.nsIn K mainGlobals "NONE_OR_TOO_MUCH" = some (some (.int (-33) t_NONE_OR_TOO_MUCH)))
    (v_MOST_LOWER : PySem.W.nsIn K mainGlobals "MOST_LOWER" = some (some (.int (100) t_MOST_LOWER)))
    (v_MOST_PRICE : PySem.W.nsIn K mainGlobals "MOST_PRICE" = some (some (.int (1000) t_MOST_PRICE)))
    (v_CALLS : PySem.W.nsIn K mainGlobals "CALLS" = some (some (.ref a_CALLS)))
    (w_CALLS : K.lookup a_CALLS = some ⟨.type "dict", none, .dict #[⟨1, .int 1 t0_CALLS, .ref f_hold⟩, ⟨2, .int 2 t1_CALLS, .ref f_part⟩, ⟨3, .int 3 t2_CALLS, .ref f_quorum⟩, ⟨4, .int 4 t3_CALLS, .ref f_prices⟩, ⟨5, .int 5 t4_CALLS, .ref f_votes⟩, ⟨6, .int 6 t5_CALLS, .ref f_rules⟩, ⟨7, .int 7 t6_CALLS, .ref f_ruler⟩, ⟨8, .int 8 t7_CALLS, .ref f_selfruled⟩, ⟨9, .int 9 t8_CALLS, .ref f_free⟩, ⟨10, .int 10 t9_CALLS, .ref f_together⟩, ⟨11, .int 11 t10_CALLS, .ref f_least⟩, ⟨12, .int 12 t11_CALLS, .ref f_weight⟩, ⟨13, .int 13 t12_CALLS, .ref f_cheapest⟩, ⟨14, .int 14 t13_CALLS, .ref f_lacking⟩, ⟨15, .int 15 t14_CALLS, .ref f_state⟩] m_CALLS, #[]⟩)
    (v_MOST_PEOPLE : PySem.W.nsIn K mainGlobals "MOST_PEOPLE" = some (some (.int (4) t_MOST_PEOPLE)))
    (v_MOST_COMPANIES : PySem.W.nsIn K mainGlobals "MOST_COMPANIES" = some (some (.int (5) t_MOST_COMPANIES)))
    (v_BEGIN : PySem.W.nsIn K mainGlobals "BEGIN" = some (some (.int (0) t_BEGIN)))
    (v_PRICES : PySem.W.nsIn K mainGlobals "PRICES" = some (some (.int (4) t_PRICES)))
    (v_COUNTS : PySem.W.nsIn K mainGlobals "COUNTS" = some (some (.ref a_COUNTS)))
    (w_COUNTS : K.lookup a_COUNTS = some ⟨.type "tuple", o_COUNTS, .seq #[.int (2) t0_COUNTS, .int (4) t1_COUNTS, .int (2) t2_COUNTS, .int (2) t3_COUNTS, .int (0) t4_COUNTS, .int (1) t5_COUNTS, .int (1) t6_COUNTS, .int (1) t7_COUNTS, .int (0) t8_COUNTS, .int (0) t9_COUNTS, .int (1) t10_COUNTS, .int (1) t11_COUNTS, .int (2) t12_COUNTS, .int (2) t13_COUNTS, .int (2) t14_COUNTS, .int (0) t15_COUNTS] m_COUNTS, z_COUNTS⟩)
    (no_len : PySem.W.nsIn K mainGlobals "len" = some none)
    (no_range : PySem.W.nsIn K mainGlobals "range" = some none)
    (no_list : PySem.W.nsIn K mainGlobals "list" = some none)
    (no_sorted : PySem.W.nsIn K mainGlobals "sorted" = some none)
    (no_max : PySem.W.nsIn K mainGlobals "max" = some none)
    (no_all : PySem.W.nsIn K mainGlobals "all" = some none) :
    ∃ fd : FuncData, (∀ (s : Shared) (us : List Value), us.length = (["calls"] : List Str).length → BindsTo s fd ⟨us, []⟩ ((["calls"] : List Str).zip us)) ∧ ∀ base : Heap, K.In base → base.Ns mainGlobals mg → FnOk P w K mg base CX0 16 fa fd ["calls"] (spAns K) := by
  have e := hfa.symm.trans (PySem.W.mg_of X G a_answers)
  cases e
  have T : Txt K mg { f_greatest_common := f_greatest_common, d_greatest_common := (PySem.W.fnOf "greatest_common" "greatest_common" (defArgs s_greatest_common) (defBody s_greatest_common) (defScope s_greatest_common) .none kV_greatest_common dc_greatest_common pm_greatest_common an_greatest_common cd_greatest_common ct_greatest_common), f_lowest := f_lowest, d_lowest := (PySem.W.fnOf "lowest" "lowest" (defArgs s_lowest) (defBody s_lowest) (defScope s_lowest) .none kV_lowest dc_lowest pm_lowest an_lowest cd_lowest ct_lowest), f_plus := f_plus, d_plus := (PySem.W.fnOf "plus" "plus" (defArgs s_plus) (defBody s_plus) (defScope s_plus) .none kV_plus dc_plus pm_plus an_plus cd_plus ct_plus), f_minus := f_minus, d_minus := (PySem.W.fnOf "minus" "minus" (defArgs s_minus) (defBody s_minus) (defScope s_minus) .none kV_minus dc_minus pm_minus an_minus cd_minus ct_minus), f_times := f_times, d_times := (PySem.W.fnOf "times" "times" (defArgs s_times) (defBody s_times) (defScope s_times) .none kV_times dc_times pm_times an_times cd_times ct_times), f_at_least := f_at_least, d_at_least := (PySem.W.fnOf "at_least" "at_least" (defArgs s_at_least) (defBody s_at_least) (defScope s_at_least) .none kV_at_least dc_at_least pm_at_least an_at_least cd_at_least ct_at_least), f_Book_init := f_Book_init, d_Book_init := (PySem.W.fnOf "__init__" "Book.__init__" (defArgs s_Book_init) (defBody s_Book_init) (defScope s_Book_init) .none kV_Book_init dc_Book_init pm_Book_init an_Book_init cd_Book_init ct_Book_init), f_Book_has_person := f_Book_has_person, d_Book_has_person := (PySem.W.fnOf "has_person" "Book.has_person" (defArgs s_Book_has_person) (defBody s_Book_has_person) (defScope s_Book_has_person) .none kV_Book_has_person dc_Book_has_person pm_Book_has_person an_Book_has_person cd_Book_has_person ct_Book_has_person), f_Book_has_company := f_Book_has_company, d_Book_has_company := (PySem.W.fnOf "has_company" "Book.has_company" (defArgs s_Book_has_company) (defBody s_Book_has_company) (defScope s_Book_has_company) .none kV_Book_has_company dc_Book_has_company pm_Book_has_company an_Book_has_company cd_Book_has_company ct_Book_has_company), f_Book_has_holder := f_Book_has_holder, d_Book_has_holder := (PySem.W.fnOf "has_holder" "Book.has_holder" (defArgs s_Book_has_holder) (defBody s_Book_has_holder) (defScope s_Book_has_holder) .none kV_Book_has_holder dc_Book_has_holder pm_Book_has_holder an_Book_has_holder cd_Book_has_holder ct_Book_has_holder), f_Book_company_as_holder := f_Book_company_as_holder, d_Book_company_as_holder := (PySem.W.fnOf "company_as_holder" "Book.company_as_holder" (defArgs s_Book_company_as_holder) (defBody s_Book_company_as_holder) (defScope s_Book_company_as_holder) .none kV_Book_company_as_holder dc_Book_company_as_holder pm_Book_company_as_holder an_Book_company_as_holder cd_Book_company_as_holder ct_Book_company_as_holder), f_Book_part_of := f_Book_part_of, d_Book_part_of := (PySem.W.fnOf "part_of" "Book.part_of" (defArgs s_Book_part_of) (defBody s_Book_part_of) (defScope s_Book_part_of) .none kV_Book_part_of dc_Book_part_of pm_Book_part_of an_Book_part_of cd_Book_part_of ct_Book_part_of), f_Book_give_part := f_Book_give_part, d_Book_give_part := (PySem.W.fnOf "give_part" "Book.give_part" (defArgs s_Book_give_part) (defBody s_Book_give_part) (defScope s_Book_give_part) .none kV_Book_give_part dc_Book_give_part pm_Book_give_part an_Book_give_part cd_Book_give_part ct_Book_give_part), f_Book_held_by := f_Book_held_by, d_Book_held_by := (PySem.W.fnOf "held_by" "Book.held_by" (defArgs s_Book_held_by) (defBody s_Book_held_by) (defScope s_Book_held_by) .none kV_Book_held_by dc_Book_held_by pm_Book_held_by an_Book_held_by cd_Book_held_by ct_Book_held_by), f_Book_held_by_others := f_Book_held_by_others, d_Book_held_by_others := (PySem.W.fnOf "held_by_others" "Book.held_by_others" (defArgs s_Book_held_by_others) (defBody s_Book_held_by_others) (defScope s_Book_held_by_others) .none kV_Book_held_by_others dc_Book_held_by_others pm_Book_held_by_others an_Book_held_by_others cd_Book_held_by_others ct_Book_held_by_others), f_votes_of := f_votes_of, d_votes_of := (PySem.W.fnOf "votes_of" "votes_of" (defArgs s_votes_of) (defBody s_votes_of) (defScope s_votes_of) .none kV_votes_of dc_votes_of pm_votes_of an_votes_of cd_votes_of ct_votes_of), f_has_votes := f_has_votes, d_has_votes := (PySem.W.fnOf "has_votes" "has_votes" (defArgs s_has_votes) (defBody s_has_votes) (defScope s_has_votes) .none kV_has_votes dc_has_votes pm_has_votes an_has_votes cd_has_votes ct_has_votes), f_needed_of := f_needed_of, d_needed_of := (PySem.W.fnOf "needed_of" "needed_of" (defArgs s_needed_of) (defBody s_needed_of) (defScope s_needed_of) .none kV_needed_of dc_needed_of pm_needed_of an_needed_of cd_needed_of ct_needed_of), f_commanded := f_commanded, d_commanded := (PySem.W.fnOf "commanded" "commanded" (defArgs s_commanded) (defBody s_commanded) (defScope s_commanded) .none kV_commanded dc_commanded pm_commanded an_commanded cd_commanded ct_commanded), f_is_ruled_by_way_of := f_is_ruled_by_way_of, d_is_ruled_by_way_of := (PySem.W.fnOf "is_ruled_by_way_of" "is_ruled_by_way_of" (defArgs s_is_ruled_by_way_of) (defBody s_is_ruled_by_way_of) (defScope s_is_ruled_by_way_of) .none kV_is_ruled_by_way_of dc_is_ruled_by_way_of pm_is_ruled_by_way_of an_is_ruled_by_way_of cd_is_ruled_by_way_of ct_is_ruled_by_way_of), f_newly_ruled := f_newly_ruled, d_newly_ruled := (PySem.W.fnOf "newly_ruled" "newly_ruled" (defArgs s_newly_ruled) (defBody s_newly_ruled) (defScope s_newly_ruled) .none kV_newly_ruled dc_newly_ruled pm_newly_ruled an_newly_ruled cd_newly_ruled ct_newly_ruled), f_ruled_from := f_ruled_from, d_ruled_from := (PySem.W.fnOf "ruled_from" "ruled_from" (defArgs s_ruled_from) (defBody s_ruled_from) (defScope s_ruled_from) .none kV_ruled_from dc_ruled_from pm_ruled_from an_ruled_from cd_ruled_from ct_ruled_from), f_ruled_together := f_ruled_together, d_ruled_together := (PySem.W.fnOf "ruled_together" "ruled_together" (defArgs s_ruled_together) (defBody s_ruled_together) (defScope s_ruled_together) .none kV_ruled_together dc_ruled_together pm_ruled_together an_ruled_together cd_ruled_together ct_ruled_together), f_rulers_of := f_rulers_of, d_rulers_of := (PySem.W.fnOf "rulers_of" "rulers_of" (defArgs s_rulers_of) (defBody s_rulers_of) (defScope s_rulers_of) .none kV_rulers_of dc_rulers_of pm_rulers_of an_rulers_of cd_rulers_of ct_rulers_of), f_ruled_by_each_other := f_ruled_by_each_other, d_ruled_by_each_other := (PySem.W.fnOf "ruled_by_each_other" "ruled_by_each_other" (defArgs s_ruled_by_each_other) (defBody s_ruled_by_each_other) (defScope s_ruled_by_each_other) .none kV_ruled_by_each_other dc_ruled_by_each_other pm_ruled_by_each_other an_ruled_by_each_other cd_ruled_by_each_other ct_ruled_by_each_other), f_self_ruled := f_self_ruled, d_self_ruled := (PySem.W.fnOf "self_ruled" "self_ruled" (defArgs s_self_ruled) (defBody s_self_ruled) (defScope s_self_ruled) .none kV_self_ruled dc_self_ruled pm_self_ruled an_self_ruled cd_self_ruled ct_self_ruled), f_free_companies := f_free_companies, d_free_companies := (PySem.W.fnOf "free_companies" "free_companies" (defArgs s_free_companies) (defBody s_free_companies) (defScope s_free_companies) .none kV_free_companies dc_free_companies pm_free_companies an_free_companies cd_free_companies ct_free_companies), f_lack_of := f_lack_of, d_lack_of := (PySem.W.fnOf "lack_of" "lack_of" (defArgs s_lack_of) (defBody s_lack_of) (defScope s_lack_of) .none kV_lack_of dc_lack_of pm_lack_of an_lack_of cd_lack_of ct_lack_of), f_Way_init := f_Way_init, d_Way_init := (PySem.W.fnOf "__init__" "Way.__init__" (defArgs s_Way_init) (defBody s_Way_init) (defScope s_Way_init) .none kV_Way_init dc_Way_init pm_Way_init an_Way_init cd_Way_init ct_Way_init), f_way_with := f_way_with, d_way_with := (PySem.W.fnOf "way_with" "way_with" (defArgs s_way_with) (defBody s_way_with) (defScope s_way_with) .none kV_way_with dc_way_with pm_way_with an_way_with cd_way_with ct_way_with), f_ways_onward := f_ways_onward, d_ways_onward := (PySem.W.fnOf "ways_onward" "ways_onward" (defArgs s_ways_onward) (defBody s_ways_onward) (defScope s_ways_onward) .none kV_ways_onward dc_ways_onward pm_ways_onward an_ways_onward cd_ways_onward ct_ways_onward), f_is_cheaper := f_is_cheaper, d_is_cheaper := (PySem.W.fnOf "is_cheaper" "is_cheaper" (defArgs s_is_cheaper) (defBody s_is_cheaper) (defScope s_is_cheaper) .none kV_is_cheaper dc_is_cheaper pm_is_cheaper an_is_cheaper cd_is_cheaper ct_is_cheaper), f_cheapest_that_rules := f_cheapest_that_rules, d_cheapest_that_rules := (PySem.W.fnOf "cheapest_that_rules" "cheapest_that_rules" (defArgs s_cheapest_that_rules) (defBody s_cheapest_that_rules) (defScope s_cheapest_that_rules) .none kV_cheapest_that_rules dc_cheapest_that_rules pm_cheapest_that_rules an_cheapest_that_rules cd_cheapest_that_rules ct_cheapest_that_rules), f_worth_going_on := f_worth_going_on, d_worth_going_on := (PySem.W.fnOf "worth_going_on" "worth_going_on" (defArgs s_worth_going_on) (defBody s_worth_going_on) (defScope s_worth_going_on) .none kV_worth_going_on dc_worth_going_on pm_worth_going_on an_worth_going_on cd_worth_going_on ct_worth_going_on), f_cheapest_way := f_cheapest_way, d_cheapest_way := (PySem.W.fnOf "cheapest_way" "cheapest_way" (defArgs s_cheapest_way) (defBody s_cheapest_way) (defScope s_cheapest_way) .none kV_cheapest_way dc_cheapest_way pm_cheapest_way an_cheapest_way cd_cheapest_way ct_cheapest_way), f_group_count := f_group_count, d_group_count := (PySem.W.fnOf "group_count" "group_count" (defArgs s_group_count) (defBody s_group_count) (defScope s_group_count) .none kV_group_count dc_group_count pm_group_count an_group_count cd_group_count ct_group_count), f_is_member := f_is_member, d_is_member := (PySem.W.fnOf "is_member" "is_member" (defArgs s_is_member) (defBody s_is_member) (defScope s_is_member) .none kV_is_member dc_is_member pm_is_member an_is_member cd_is_member ct_is_member), f_without := f_without, d_without := (PySem.W.fnOf "without" "without" (defArgs s_without) (defBody s_without) (defScope s_without) .none kV_without dc_without pm_without an_without cd_without ct_without), f_members_of := f_members_of, d_members_of := (PySem.W.fnOf "members_of" "members_of" (defArgs s_members_of) (defBody s_members_of) (defScope s_members_of) .none kV_members_of dc_members_of pm_members_of an_members_of cd_members_of ct_members_of), f_ruled_by_group := f_ruled_by_group, d_ruled_by_group := (PySem.W.fnOf "ruled_by_group" "ruled_by_group" (defArgs s_ruled_by_group) (defBody s_ruled_by_group) (defScope s_ruled_by_group) .none kV_ruled_by_group dc_ruled_by_group pm_ruled_by_group an_ruled_by_group cd_ruled_by_group ct_ruled_by_group), f_ruling_groups := f_ruling_groups, d_ruling_groups := (PySem.W.fnOf "ruling_groups" "ruling_groups" (defArgs s_ruling_groups) (defBody s_ruling_groups) (defScope s_ruling_groups) .none kV_ruling_groups dc_ruling_groups pm_ruling_groups an_ruling_groups cd_ruling_groups ct_ruling_groups), f_hangs_on := f_hangs_on, d_hangs_on := (PySem.W.fnOf "hangs_on" "hangs_on" (defArgs s_hangs_on) (defBody s_hangs_on) (defScope s_hangs_on) .none kV_hangs_on dc_hangs_on pm_hangs_on an_hangs_on cd_hangs_on ct_hangs_on), f_needs_all := f_needs_all, d_needs_all := (PySem.W.fnOf "needs_all" "needs_all" (defArgs s_needs_all) (defBody s_needs_all) (defScope s_needs_all) .none kV_needs_all dc_needs_all pm_needs_all an_needs_all cd_needs_all ct_needs_all), f_least_groups := f_least_groups, d_least_groups := (PySem.W.fnOf "least_groups" "least_groups" (defArgs s_least_groups) (defBody s_least_groups) (defScope s_least_groups) .none kV_least_groups dc_least_groups pm_least_groups an_least_groups cd_least_groups ct_least_groups), f_weight_of := f_weight_of, d_weight_of := (PySem.W.fnOf "weight_of" "weight_of" (defArgs s_weight_of) (defBody s_weight_of) (defScope s_weight_of) .none kV_weight_of dc_weight_of pm_weight_of an_weight_of cd_weight_of ct_weight_of), f_with_fraction := f_with_fraction, d_with_fraction := (PySem.W.fnOf "with_fraction" "with_fraction" (defArgs s_with_fraction) (defBody s_with_fraction) (defScope s_with_fraction) .none kV_with_fraction dc_with_fraction pm_with_fraction an_with_fraction cd_with_fraction ct_with_fraction), f_with_count := f_with_count, d_with_count := (PySem.W.fnOf "with_count" "with_count" (defArgs s_with_count) (defBody s_with_count) (defScope s_with_count) .none kV_with_count dc_with_count pm_with_count an_with_count cd_with_count ct_with_count), f_is_share := f_is_share, d_is_share := (PySem.W.fnOf "is_share" "is_share" (defArgs s_is_share) (defBody s_is_share) (defScope s_is_share) .none kV_is_share dc_is_share pm_is_share an_is_share cd_is_share ct_is_share), f_hold := f_hold, d_hold := (PySem.W.fnOf "hold" "hold" (defArgs s_hold) (defBody s_hold) (defScope s_hold) .none kV_hold dc_hold pm_hold an_hold cd_hold ct_hold), f_part := f_part, d_part := (PySem.W.fnOf "part" "part" (defArgs s_part) (defBody s_part) (defScope s_part) .none kV_part dc_part pm_part an_part cd_part ct_part), f_quorum := f_quorum, d_quorum := (PySem.W.fnOf "quorum" "quorum" (defArgs s_quorum) (defBody s_quorum) (defScope s_quorum) .none kV_quorum dc_quorum pm_quorum an_quorum cd_quorum ct_quorum), f_prices := f_prices, d_prices := (PySem.W.fnOf "prices" "prices" (defArgs s_prices) (defBody s_prices) (defScope s_prices) .none kV_prices dc_prices pm_prices an_prices cd_prices ct_prices), f_votes := f_votes, d_votes := (PySem.W.fnOf "votes" "votes" (defArgs s_votes) (defBody s_votes) (defScope s_votes) .none kV_votes dc_votes pm_votes an_votes cd_votes ct_votes), f_rules := f_rules, d_rules := (PySem.W.fnOf "rules" "rules" (defArgs s_rules) (defBody s_rules) (defScope s_rules) .none kV_rules dc_rules pm_rules an_rules cd_rules ct_rules), f_ruler := f_ruler, d_ruler := (PySem.W.fnOf "ruler" "ruler" (defArgs s_ruler) (defBody s_ruler) (defScope s_ruler) .none kV_ruler dc_ruler pm_ruler an_ruler cd_ruler ct_ruler), f_selfruled := f_selfruled, d_selfruled := (PySem.W.fnOf "selfruled" "selfruled" (defArgs s_selfruled) (defBody s_selfruled) (defScope s_selfruled) .none kV_selfruled dc_selfruled pm_selfruled an_selfruled cd_selfruled ct_selfruled), f_free := f_free, d_free := (PySem.W.fnOf "free" "free" (defArgs s_free) (defBody s_free) (defScope s_free) .none kV_free dc_free pm_free an_free cd_free ct_free), f_together := f_together, d_together := (PySem.W.fnOf "together" "together" (defArgs s_together) (defBody s_together) (defScope s_together) .none kV_together dc_together pm_together an_together cd_together ct_together), f_least := f_least, d_least := (PySem.W.fnOf "least" "least" (defArgs s_least) (defBody s_least) (defScope s_least) .none kV_least dc_least pm_least an_least cd_least ct_least), f_weight := f_weight, d_weight := (PySem.W.fnOf "weight" "weight" (defArgs s_weight) (defBody s_weight) (defScope s_weight) .none kV_weight dc_weight pm_weight an_weight cd_weight ct_weight), f_cheapest := f_cheapest, d_cheapest := (PySem.W.fnOf "cheapest" "cheapest" (defArgs s_cheapest) (defBody s_cheapest) (defScope s_cheapest) .none kV_cheapest dc_cheapest pm_cheapest an_cheapest cd_cheapest ct_cheapest), f_lacking := f_lacking, d_lacking := (PySem.W.fnOf "lacking" "lacking" (defArgs s_lacking) (defBody s_lacking) (defScope s_lacking) .none kV_lacking dc_lacking pm_lacking an_lacking cd_lacking ct_lacking), f_state := f_state, d_state := (PySem.W.fnOf "state" "state" (defArgs s_state) (defBody s_state) (defScope s_state) .none kV_state dc_state pm_state an_state cd_state ct_state), f_answer_call := f_answer_call, d_answer_call := (PySem.W.fnOf "answer_call" "answer_call" (defArgs s_answer_call) (defBody s_answer_call) (defScope s_answer_call) .none kV_answer_call dc_answer_call pm_answer_call an_answer_call cd_answer_call ct_answer_call), f_Desk_init := f_Desk_init, d_Desk_init := (PySem.W.fnOf "__init__" "Desk.__init__" (defArgs s_Desk_init) (defBody s_Desk_init) (defScope s_Desk_init) .none kV_Desk_init dc_Desk_init pm_Desk_init an_Desk_init cd_Desk_init ct_Desk_init), f_Desk_begin := f_Desk_begin, d_Desk_begin := (PySem.W.fnOf "begin" "Desk.begin" (defArgs s_Desk_begin) (defBody s_Desk_begin) (defScope s_Desk_begin) .none kV_Desk_begin dc_Desk_begin pm_Desk_begin an_Desk_begin cd_Desk_begin ct_Desk_begin), f_Desk_answer := f_Desk_answer, d_Desk_answer := (PySem.W.fnOf "answer" "Desk.answer" (defArgs s_Desk_answer) (defBody s_Desk_answer) (defScope s_Desk_answer) .none kV_Desk_answer dc_Desk_answer pm_Desk_answer an_Desk_answer cd_Desk_answer ct_Desk_answer), f_start_of_given := f_start_of_given, d_start_of_given := (PySem.W.fnOf "start_of_given" "start_of_given" (defArgs s_start_of_given) (defBody s_start_of_given) (defScope s_start_of_given) .none kV_start_of_given dc_start_of_given pm_start_of_given an_start_of_given cd_start_of_given ct_start_of_given), f_count_of_given := f_count_of_given, d_count_of_given := (PySem.W.fnOf "count_of_given" "count_of_given" (defArgs s_count_of_given) (defBody s_count_of_given) (defScope s_count_of_given) .none kV_count_of_given dc_count_of_given pm_count_of_given an_count_of_given cd_count_of_given ct_count_of_given), f_answers := fa, d_answers := (PySem.W.fnOf "answers" "answers" (defArgs s_answers) (defBody s_answers) (defScope s_answers) .none kV_answers dc_answers pm_answers an_answers cd_answers ct_answers), C_Book := C_Book, C_Way := C_Way, C_Desk := C_Desk, a_ZERO := a_ZERO, a_ONE := a_ONE, a_FIRST_QUORUM := a_FIRST_QUORUM, t_FIRST_PRICE := t_FIRST_PRICE, t_NO_SUCH := t_NO_SUCH, t_NOT_BEGUN := t_NOT_BEGUN, t_NOT_RIGHT := t_NOT_RIGHT, t_NONE_OR_TOO_MUCH := t_NONE_OR_TOO_MUCH, t_MOST_LOWER := t_MOST_LOWER, t_MOST_PRICE := t_MOST_PRICE, a_CALLS := a_CALLS, t_MOST_PEOPLE := t_MOST_PEOPLE, t_MOST_COMPANIES := t_MOST_COMPANIES, t_BEGIN := t_BEGIN, t_PRICES := t_PRICES, a_COUNTS := a_COUNTS } := {
    d_greatest_common := ⟨(fun_mk (st := s_greatest_common) l_greatest_common q_greatest_common k_greatest_common), PySem.W.mg_of X G a_greatest_common, ((fun_mk (st := s_greatest_common) l_greatest_common q_greatest_common k_greatest_common).binds (ps := ["first", "second"]) fun _ _ _ _ _ _ us hl => match us, hl with | [_, _], _ => rfl)⟩
    d_lowest := ⟨(fun_mk (st := s_lowest) l_lowest q_lowest k_lowest), PySem.W.mg_of X G a_lowest, ((fun_mk (st := s_lowest) l_lowest q_lowest k_lowest).binds (ps := ["upper", "lower"]) fun _ _ _ _ _ _ us hl => match us, hl with | [_, _], _ => rfl)⟩
    d_plus := ⟨(fun_mk (st := s_plus) l_plus q_plus k_plus), PySem.W.mg_of X G a_plus, ((fun_mk (st := s_plus) l_plus q_plus k_plus).binds (ps := ["first", "second"]) fun _ _ _ _ _ _ us hl => match us, hl with | [_, _], _ => rfl)⟩
    d_minus := ⟨(fun_mk (st := s_minus) l_minus q_minus k_minus), PySem.W.mg_of X G a_minus, ((fun_mk (st := s_minus) l_minus q_minus k_minus).binds (ps := ["first", "second"]) fun _ _ _ _ _ _ us hl => match us, hl with | [_, _], _ => rfl)⟩
    d_times := ⟨(fun_mk (st := s_times) l_times q_times k_times), PySem.W.mg_of X G a_times, ((fun_mk (st := s_times) l_times q_times k_times).binds (ps := ["first", "second"]) fun _ _ _ _ _ _ us hl => match us, hl with | [_, _], _ => rfl)⟩
    d_at_least := ⟨(fun_mk (st := s_at_least) l_at_least q_at_least k_at_least), PySem.W.mg_of X G a_at_least, ((fun_mk (st := s_at_least) l_at_least q_at_least k_at_least).binds (ps := ["first", "second"]) fun _ _ _ _ _ _ us hl => match us, hl with | [_, _], _ => rfl)⟩
    d_Book_init := ⟨(fun_mk (st := s_Book_init) l_Book_init q_Book_init k_Book_init), ((fun_mk (st := s_Book_init) l_Book_init q_Book_init k_Book_init).binds (ps := ["self", "people", "companies"]) fun _ _ _ _ _ _ us hl => match us, hl with | [_, _, _], _ => rfl)⟩
    d_Book_has_person := ⟨(fun_mk (st := s_Book_has_person) l_Book_has_person q_Book_has_person k_Book_has_person), ((fun_mk (st := s_Book_has_person) l_Book_has_person q_Book_has_person k_Book_has_person).binds (ps := ["self", "person"]) fun _ _ _ _ _ _ us hl => match us, hl with | [_, _], _ => rfl)⟩
    m_Book_has_person := ⟨a_Book_has_person, i_Book_has_person, k_Book_has_person⟩
    d_Book_has_company := ⟨(fun_mk (st := s_Book_has_company) l_Book_has_company q_Book_has_company k_Book_has_company), ((fun_mk (st := s_Book_has_company) l_Book_has_company q_Book_has_company k_Book_has_company).binds (ps := ["self", "company"]) fun _ _ _ _ _ _ us hl => match us, hl with | [_, _], _ => rfl)⟩
    m_Book_has_company := ⟨a_Book_has_company, i_Book_has_company, k_Book_has_company⟩
    d_Book_has_holder := ⟨(fun_mk (st := s_Book_has_holder) l_Book_has_holder q_Book_has_holder k_Book_has_holder), ((fun_mk (st := s_Book_has_holder) l_Book_has_holder q_Book_has_holder k_Book_has_holder).binds (ps := ["self", "holder"]) fun _ _ _ _ _ _ us hl => match us, hl with | [_, _], _ => rfl)⟩
    m_Book_has_holder := ⟨a_Book_has_holder, i_Book_has_holder, k_Book_has_holder⟩
    d_Book_company_as_holder := ⟨(fun_mk (st := s_Book_company_as_holder) l_Book_company_as_holder q_Book_company_as_holder k_Book_company_as_holder), ((fun_mk (st := s_Book_company_as_holder) l_Book_company_as_holder q_Book_company_as_holder k_Book_company_as_holder).binds (ps := ["self", "company"]) fun _ _ _ _ _ _ us hl => match us, hl with | [_, _], _ => rfl)⟩
    m_Book_company_as_holder := ⟨a_Book_company_as_holder, i_Book_company_as_holder, k_Book_company_as_holder⟩
    d_Book_part_of := ⟨(fun_mk (st := s_Book_part_of) l_Book_part_of q_Book_part_of k_Book_part_of), ((fun_mk (st := s_Book_part_of) l_Book_part_of q_Book_part_of k_Book_part_of).binds (ps := ["self", "holder", "company"]) fun _ _ _ _ _ _ us hl => match us, hl with | [_, _, _], _ => rfl)⟩
    m_Book_part_of := ⟨a_Book_part_of, i_Book_part_of, k_Book_part_of⟩
    d_Book_give_part := ⟨(fun_mk (st := s_Book_give_part) l_Book_give_part q_Book_give_part k_Book_give_part), ((fun_mk (st := s_Book_give_part) l_Book_give_part q_Book_give_part k_Book_give_part).binds (ps := ["self", "holder", "company", "share"]) fun _ _ _ _ _ _ us hl => match us, hl with | [_, _, _, _], _ => rfl)⟩
    m_Book_give_part := ⟨a_Book_give_part, i_Book_give_part, k_Book_give_part⟩
    d_Book_held_by := ⟨(fun_mk (st := s_Book_held_by) l_Book_held_by q_Book_held_by k_Book_held_by), ((fun_mk (st := s_Book_held_by) l_Book_held_by q_Book_held_by k_Book_held_by).binds (ps := ["self", "holders", "company"]) fun _ _ _ _ _ _ us hl => match us, hl with | [_, _, _], _ => rfl)⟩
    m_Book_held_by := ⟨a_Book_held_by, i_Book_held_by, k_Book_held_by⟩
    d_Book_held_by_others := ⟨(fun_mk (st := s_Book_held_by_others) l_Book_held_by_others q_Book_held_by_others k_Book_held_by_others), ((fun_mk (st := s_Book_held_by_others) l_Book_held_by_others q_Book_held_by_others k_Book_held_by_others).binds (ps := ["self", "holder", "company"]) fun _ _ _ _ _ _ us hl => match us, hl with | [_, _, _], _ => rfl)⟩
    m_Book_held_by_others := ⟨a_Book_held_by_others, i_Book_held_by_others, k_Book_held_by_others⟩
    d_votes_of := ⟨(fun_mk (st := s_votes_of) l_votes_of q_votes_of k_votes_of), PySem.W.mg_of X G a_votes_of, ((fun_mk (st := s_votes_of) l_votes_of q_votes_of k_votes_of).binds (ps := ["book", "company"]) fun _ _ _ _ _ _ us hl => match us, hl with | [_, _], _ => rfl)⟩
    d_has_votes := ⟨(fun_mk (st := s_has_votes) l_has_votes q_has_votes k_has_votes), PySem.W.mg_of X G a_has_votes, ((fun_mk (st := s_has_votes) l_has_votes q_has_votes k_has_votes).binds (ps := ["book", "company"]) fun _ _ _ _ _ _ us hl => match us, hl with | [_, _], _ => rfl)⟩
    d_needed_of := ⟨(fun_mk (st := s_needed_of) l_needed_of q_needed_of k_needed_of), PySem.W.mg_of X G a_needed_of, ((fun_mk (st := s_needed_of) l_needed_of q_needed_of k_needed_of).binds (ps := ["book", "company"]) fun _ _ _ _ _ _ us hl => match us, hl with | [_, _], _ => rfl)⟩
    d_commanded := ⟨(fun_mk (st := s_commanded) l_commanded q_commanded k_commanded), PySem.W.mg_of X G a_commanded, ((fun_mk (st := s_commanded) l_commanded q_commanded k_commanded).binds (ps := ["book", "people", "ruled", "company"]) fun _ _ _ _ _ _ us hl => match us, hl with | [_, _, _, _], _ => rfl)⟩
    d_is_ruled_by_way_of := ⟨(fun_mk (st := s_is_ruled_by_way_of) l_is_ruled_by_way_of q_is_ruled_by_way_of k_is_ruled_by_way_of), PySem.W.mg_of X G a_is_ruled_by_way_of, ((fun_mk (st := s_is_ruled_by_way_of) l_is_ruled_by_way_of q_is_ruled_by_way_of k_is_ruled_by_way_of).binds (ps := ["book", "people", "ruled", "company"]) fun _ _ _ _ _ _ us hl => match us, hl with | [_, _, _, _], _ => rfl)⟩
    d_newly_ruled := ⟨(fun_mk (st := s_newly_ruled) l_newly_ruled q_newly_ruled k_newly_ruled), PySem.W.mg_of X G a_newly_ruled, ((fun_mk (st := s_newly_ruled) l_newly_ruled q_newly_ruled k_newly_ruled).binds (ps := ["book", "people", "ruled"]) fun _ _ _ _ _ _ us hl => match us, hl with | [_, _, _], _ => rfl)⟩
    d_ruled_from := ⟨(fun_mk (st := s_ruled_from) l_ruled_from q_ruled_from k_ruled_from), PySem.W.mg_of X G a_ruled_from, ((fun_mk (st := s_ruled_from) l_ruled_from q_ruled_from k_ruled_from).binds (ps := ["book", "people", "ruled"]) fun _ _ _ _ _ _ us hl => match us, hl with | [_, _, _], _ => rfl)⟩
    d_ruled_together := ⟨(fun_mk (st := s_ruled_together) l_ruled_together q_ruled_together k_ruled_together), PySem.W.mg_of X G a_ruled_together, ((fun_mk (st := s_ruled_together) l_ruled_together q_ruled_together k_ruled_together).binds (ps := ["book", "people"]) fun _ _ _ _ _ _ us hl => match us, hl with | [_, _], _ => rfl)⟩
    d_rulers_of := ⟨(fun_mk (st := s_rulers_of) l_rulers_of q_rulers_of k_rulers_of), PySem.W.mg_of X G a_rulers_of, ((fun_mk (st := s_rulers_of) l_rulers_of q_rulers_of k_rulers_of).binds (ps := ["book", "company"]) fun _ _ _ _ _ _ us hl => match us, hl with | [_, _], _ => rfl)⟩
    d_ruled_by_each_other := ⟨(fun_mk (st := s_ruled_by_each_other) l_ruled_by_each_other q_ruled_by_each_other k_ruled_by_each_other), PySem.W.mg_of X G a_ruled_by_each_other, ((fun_mk (st := s_ruled_by_each_other) l_ruled_by_each_other q_ruled_by_each_other k_ruled_by_each_other).binds (ps := ["book", "companies"]) fun _ _ _ _ _ _ us hl => match us, hl with | [_, _], _ => rfl)⟩
    d_self_ruled := ⟨(fun_mk (st := s_self_ruled) l_self_ruled q_self_ruled k_self_ruled), PySem.W.mg_of X G a_self_ruled, ((fun_mk (st := s_self_ruled) l_self_ruled q_self_ruled k_self_ruled).binds (ps := ["book"]) fun _ _ _ _ _ _ us hl => match us, hl with | [_], _ => rfl)⟩
    d_free_companies := ⟨(fun_mk (st := s_free_companies) l_free_companies q_free_companies k_free_companies), PySem.W.mg_of X G a_free_companies, ((fun_mk (st := s_free_companies) l_free_companies q_free_companies k_free_companies).binds (ps := ["book"]) fun _ _ _ _ _ _ us hl => match us, hl with | [_], _ => rfl)⟩
    d_lack_of := ⟨(fun_mk (st := s_lack_of) l_lack_of q_lack_of k_lack_of), PySem.W.mg_of X G a_lack_of, ((fun_mk (st := s_lack_of) l_lack_of q_lack_of k_lack_of).binds (ps := ["book", "person", "ruled", "company"]) fun _ _ _ _ _ _ us hl => match us, hl with | [_, _, _, _], _ => rfl)⟩
    d_Way_init := ⟨(fun_mk (st := s_Way_init) l_Way_init q_Way_init k_Way_init), ((fun_mk (st := s_Way_init) l_Way_init q_Way_init k_Way_init).binds (ps := ["self", "bought", "cost", "ruled"]) fun _ _ _ _ _ _ us hl => match us, hl with | [_, _, _, _], _ => rfl)⟩
    d_way_with := ⟨(fun_mk (st := s_way_with) l_way_with q_way_with k_way_with), PySem.W.mg_of X G a_way_with, ((fun_mk (st := s_way_with) l_way_with q_way_with k_way_with).binds (ps := ["book", "person", "way", "company"]) fun _ _ _ _ _ _ us hl => match us, hl with | [_, _, _, _], _ => rfl)⟩
    d_ways_onward := ⟨(fun_mk (st := s_ways_onward) l_ways_onward q_ways_onward k_ways_onward), PySem.W.mg_of X G a_ways_onward, ((fun_mk (st := s_ways_onward) l_ways_onward q_ways_onward k_ways_onward).binds (ps := ["book", "person", "ways"]) fun _ _ _ _ _ _ us hl => match us, hl with | [_, _, _], _ => rfl)⟩
    d_is_cheaper := ⟨(fun_mk (st := s_is_cheaper) l_is_cheaper q_is_cheaper k_is_cheaper), PySem.W.mg_of X G a_is_cheaper, ((fun_mk (st := s_is_cheaper) l_is_cheaper q_is_cheaper k_is_cheaper).binds (ps := ["way", "best"]) fun _ _ _ _ _ _ us hl => match us, hl with | [_, _], _ => rfl)⟩
    d_cheapest_that_rules := ⟨(fun_mk (st := s_cheapest_that_rules) l_cheapest_that_rules q_cheapest_that_rules k_cheapest_that_rules), PySem.W.mg_of X G a_cheapest_that_rules, ((fun_mk (st := s_cheapest_that_rules) l_cheapest_that_rules q_cheapest_that_rules k_cheapest_that_rules).binds (ps := ["best", "ways", "company"]) fun _ _ _ _ _ _ us hl => match us, hl with | [_, _, _], _ => rfl)⟩
    d_worth_going_on := ⟨(fun_mk (st := s_worth_going_on) l_worth_going_on q_worth_going_on k_worth_going_on), PySem.W.mg_of X G a_worth_going_on, ((fun_mk (st := s_worth_going_on) l_worth_going_on q_worth_going_on k_worth_going_on).binds (ps := ["ways", "best", "company"]) fun _ _ _ _ _ _ us hl => match us, hl with | [_, _, _], _ => rfl)⟩
    d_cheapest_way := ⟨(fun_mk (st := s_cheapest_way) l_cheapest_way q_cheapest_way k_cheapest_way), PySem.W.mg_of X G a_cheapest_way, ((fun_mk (st := s_cheapest_way) l_cheapest_way q_cheapest_way k_cheapest_way).binds (ps := ["book", "person", "company"]) fun _ _ _ _ _ _ us hl => match us, hl with | [_, _, _], _ => rfl)⟩
    d_group_count := ⟨(fun_mk (st := s_group_count) l_group_count q_group_count k_group_count), PySem.W.mg_of X G a_group_count, ((fun_mk (st := s_group_count) l_group_count q_group_count k_group_count).binds (ps := ["book"]) fun _ _ _ _ _ _ us hl => match us, hl with | [_], _ => rfl)⟩
    d_is_member := ⟨(fun_mk (st := s_is_member) l_is_member q_is_member k_is_member), PySem.W.mg_of X G a_is_member, ((fun_mk (st := s_is_member) l_is_member q_is_member k_is_member).binds (ps := ["group", "person"]) fun _ _ _ _ _ _ us hl => match us, hl with | [_, _], _ => rfl)⟩
    d_without := ⟨(fun_mk (st := s_without) l_without q_without k_without), PySem.W.mg_of X G a_without, ((fun_mk (st := s_without) l_without q_without k_without).binds (ps := ["group", "person"]) fun _ _ _ _ _ _ us hl => match us, hl with | [_, _], _ => rfl)⟩
    d_members_of := ⟨(fun_mk (st := s_members_of) l_members_of q_members_of k_members_of), PySem.W.mg_of X G a_members_of, ((fun_mk (st := s_members_of) l_members_of q_members_of k_members_of).binds (ps := ["book", "group"]) fun _ _ _ _ _ _ us hl => match us, hl with | [_, _], _ => rfl)⟩
    d_ruled_by_group := ⟨(fun_mk (st := s_ruled_by_group) l_ruled_by_group q_ruled_by_group k_ruled_by_group), PySem.W.mg_of X G a_ruled_by_group, ((fun_mk (st := s_ruled_by_group) l_ruled_by_group q_ruled_by_group k_ruled_by_group).binds (ps := ["book", "group"]) fun _ _ _ _ _ _ us hl => match us, hl with | [_, _], _ => rfl)⟩
    d_ruling_groups := ⟨(fun_mk (st := s_ruling_groups) l_ruling_groups q_ruling_groups k_ruling_groups), PySem.W.mg_of X G a_ruling_groups, ((fun_mk (st := s_ruling_groups) l_ruling_groups q_ruling_groups k_ruling_groups).binds (ps := ["book", "company"]) fun _ _ _ _ _ _ us hl => match us, hl with | [_, _], _ => rfl)⟩
    d_hangs_on := ⟨(fun_mk (st := s_hangs_on) l_hangs_on q_hangs_on k_hangs_on), PySem.W.mg_of X G a_hangs_on, ((fun_mk (st := s_hangs_on) l_hangs_on q_hangs_on k_hangs_on).binds (ps := ["ruling", "group", "person"]) fun _ _ _ _ _ _ us hl => match us, hl with | [_, _, _], _ => rfl)⟩
    d_needs_all := ⟨(fun_mk (st := s_needs_all) l_needs_all q_needs_all k_needs_all), PySem.W.mg_of X G a_needs_all, ((fun_mk (st := s_needs_all) l_needs_all q_needs_all k_needs_all).binds (ps := ["book", "ruling", "group"]) fun _ _ _ _ _ _ us hl => match us, hl with | [_, _, _], _ => rfl)⟩
    d_least_groups := ⟨(fun_mk (st := s_least_groups) l_least_groups q_least_groups k_least_groups), PySem.W.mg_of X G a_least_groups, ((fun_mk (st := s_least_groups) l_least_groups q_least_groups k_least_groups).binds (ps := ["book", "company"]) fun _ _ _ _ _ _ us hl => match us, hl with | [_, _], _ => rfl)⟩
    d_weight_of := ⟨(fun_mk (st := s_weight_of) l_weight_of q_weight_of k_weight_of), PySem.W.mg_of X G a_weight_of, ((fun_mk (st := s_weight_of) l_weight_of q_weight_of k_weight_of).binds (ps := ["book", "person", "company"]) fun _ _ _ _ _ _ us hl => match us, hl with | [_, _, _], _ => rfl)⟩
    d_with_fraction := ⟨(fun_mk (st := s_with_fraction) l_with_fraction q_with_fraction k_with_fraction), PySem.W.mg_of X G a_with_fraction, ((fun_mk (st := s_with_fraction) l_with_fraction q_with_fraction k_with_fraction).binds (ps := ["fraction"]) fun _ _ _ _ _ _ us hl => match us, hl with | [_], _ => rfl)⟩
    d_with_count := ⟨(fun_mk (st := s_with_count) l_with_count q_with_count k_with_count), PySem.W.mg_of X G a_with_count, ((fun_mk (st := s_with_count) l_with_count q_with_count k_with_count).binds (ps := ["numbers"]) fun _ _ _ _ _ _ us hl => match us, hl with | [_], _ => rfl)⟩
    d_is_share := ⟨(fun_mk (st := s_is_share) l_is_share q_is_share k_is_share), PySem.W.mg_of X G a_is_share, ((fun_mk (st := s_is_share) l_is_share q_is_share k_is_share).binds (ps := ["upper", "lower"]) fun _ _ _ _ _ _ us hl => match us, hl with | [_, _], _ => rfl)⟩
    d_hold := ⟨(fun_mk (st := s_hold) l_hold q_hold k_hold), PySem.W.mg_of X G a_hold, ((fun_mk (st := s_hold) l_hold q_hold k_hold).binds (ps := ["book", "given"]) fun _ _ _ _ _ _ us hl => match us, hl with | [_, _], _ => rfl)⟩
    d_part := ⟨(fun_mk (st := s_part) l_part q_part k_part), PySem.W.mg_of X G a_part, ((fun_mk (st := s_part) l_part q_part k_part).binds (ps := ["book", "given"]) fun _ _ _ _ _ _ us hl => match us, hl with | [_, _], _ => rfl)⟩
    d_quorum := ⟨(fun_mk (st := s_quorum) l_quorum q_quorum k_quorum), PySem.W.mg_of X G a_quorum, ((fun_mk (st := s_quorum) l_quorum q_quorum k_quorum).binds (ps := ["book", "given"]) fun _ _ _ _ _ _ us hl => match us, hl with | [_, _], _ => rfl)⟩
    d_prices := ⟨(fun_mk (st := s_prices) l_prices q_prices k_prices), PySem.W.mg_of X G a_prices, ((fun_mk (st := s_prices) l_prices q_prices k_prices).binds (ps := ["book", "given"]) fun _ _ _ _ _ _ us hl => match us, hl with | [_, _], _ => rfl)⟩
    d_votes := ⟨(fun_mk (st := s_votes) l_votes q_votes k_votes), PySem.W.mg_of X G a_votes, ((fun_mk (st := s_votes) l_votes q_votes k_votes).binds (ps := ["book", "given"]) fun _ _ _ _ _ _ us hl => match us, hl with | [_, _], _ => rfl)⟩
    d_rules := ⟨(fun_mk (st := s_rules) l_rules q_rules k_rules), PySem.W.mg_of X G a_rules, ((fun_mk (st := s_rules) l_rules q_rules k_rules).binds (ps := ["book", "given"]) fun _ _ _ _ _ _ us hl => match us, hl with | [_, _], _ => rfl)⟩
    d_ruler := ⟨(fun_mk (st := s_ruler) l_ruler q_ruler k_ruler), PySem.W.mg_of X G a_ruler, ((fun_mk (st := s_ruler) l_ruler q_ruler k_ruler).binds (ps := ["book", "given"]) fun _ _ _ _ _ _ us hl => match us, hl with | [_, _], _ => rfl)⟩
    d_selfruled := ⟨(fun_mk (st := s_selfruled) l_selfruled q_selfruled k_selfruled), PySem.W.mg_of X G a_selfruled, ((fun_mk (st := s_selfruled) l_selfruled q_selfruled k_selfruled).binds (ps := ["book", "given"]) fun _ _ _ _ _ _ us hl => match us, hl with | [_, _], _ => rfl)⟩
    d_free := ⟨(fun_mk (st := s_free) l_free q_free k_free), PySem.W.mg_of X G a_free, ((fun_mk (st := s_free) l_free q_free k_free).binds (ps := ["book", "given"]) fun _ _ _ _ _ _ us hl => match us, hl with | [_, _], _ => rfl)⟩
    d_together := ⟨(fun_mk (st := s_together) l_together q_together k_together), PySem.W.mg_of X G a_together, ((fun_mk (st := s_together) l_together q_together k_together).binds (ps := ["book", "given"]) fun _ _ _ _ _ _ us hl => match us, hl with | [_, _], _ => rfl)⟩
    d_least := ⟨(fun_mk (st := s_least) l_least q_least k_least), PySem.W.mg_of X G a_least, ((fun_mk (st := s_least) l_least q_least k_least).binds (ps := ["book", "given"]) fun _ _ _ _ _ _ us hl => match us, hl with | [_, _], _ => rfl)⟩
    d_weight := ⟨(fun_mk (st := s_weight) l_weight q_weight k_weight), PySem.W.mg_of X G a_weight, ((fun_mk (st := s_weight) l_weight q_weight k_weight).binds (ps := ["book", "given"]) fun _ _ _ _ _ _ us hl => match us, hl with | [_, _], _ => rfl)⟩
    d_cheapest := ⟨(fun_mk (st := s_cheapest) l_cheapest q_cheapest k_cheapest), PySem.W.mg_of X G a_cheapest, ((fun_mk (st := s_cheapest) l_cheapest q_cheapest k_cheapest).binds (ps := ["book", "given"]) fun _ _ _ _ _ _ us hl => match us, hl with | [_, _], _ => rfl)⟩
    d_lacking := ⟨(fun_mk (st := s_lacking) l_lacking q_lacking k_lacking), PySem.W.mg_of X G a_lacking, ((fun_mk (st := s_lacking) l_lacking q_lacking k_lacking).binds (ps := ["book", "given"]) fun _ _ _ _ _ _ us hl => match us, hl with | [_, _], _ => rfl)⟩
    d_state := ⟨(fun_mk (st := s_state) l_state q_state k_state), PySem.W.mg_of X G a_state, ((fun_mk (st := s_state) l_state q_state k_state).binds (ps := ["book", "given"]) fun _ _ _ _ _ _ us hl => match us, hl with | [_, _], _ => rfl)⟩
    d_answer_call := ⟨(fun_mk (st := s_answer_call) l_answer_call q_answer_call k_answer_call), PySem.W.mg_of X G a_answer_call, ((fun_mk (st := s_answer_call) l_answer_call q_answer_call k_answer_call).binds (ps := ["book", "number", "given"]) fun _ _ _ _ _ _ us hl => match us, hl with | [_, _, _], _ => rfl)⟩
    d_Desk_init := ⟨(fun_mk (st := s_Desk_init) l_Desk_init q_Desk_init k_Desk_init), ((fun_mk (st := s_Desk_init) l_Desk_init q_Desk_init k_Desk_init).binds (ps := ["self"]) fun _ _ _ _ _ _ us hl => match us, hl with | [_], _ => rfl)⟩
    d_Desk_begin := ⟨(fun_mk (st := s_Desk_begin) l_Desk_begin q_Desk_begin k_Desk_begin), ((fun_mk (st := s_Desk_begin) l_Desk_begin q_Desk_begin k_Desk_begin).binds (ps := ["self", "people", "companies"]) fun _ _ _ _ _ _ us hl => match us, hl with | [_, _, _], _ => rfl)⟩
    m_Desk_begin := ⟨a_Desk_begin, i_Desk_begin, k_Desk_begin⟩
    d_Desk_answer := ⟨(fun_mk (st := s_Desk_answer) l_Desk_answer q_Desk_answer k_Desk_answer), ((fun_mk (st := s_Desk_answer) l_Desk_answer q_Desk_answer k_Desk_answer).binds (ps := ["self", "number", "given"]) fun _ _ _ _ _ _ us hl => match us, hl with | [_, _, _], _ => rfl)⟩
    m_Desk_answer := ⟨a_Desk_answer, i_Desk_answer, k_Desk_answer⟩
    d_start_of_given := ⟨(fun_mk (st := s_start_of_given) l_start_of_given q_start_of_given k_start_of_given), PySem.W.mg_of X G a_start_of_given, ((fun_mk (st := s_start_of_given) l_start_of_given q_start_of_given k_start_of_given).binds (ps := ["calls", "place"]) fun _ _ _ _ _ _ us hl => match us, hl with | [_, _], _ => rfl)⟩
    d_count_of_given := ⟨(fun_mk (st := s_count_of_given) l_count_of_given q_count_of_given k_count_of_given), PySem.W.mg_of X G a_count_of_given, ((fun_mk (st := s_count_of_given) l_count_of_given q_count_of_given k_count_of_given).binds (ps := ["calls", "place"]) fun _ _ _ _ _ _ us hl => match us, hl with | [_, _], _ => rfl)⟩
    d_answers := ⟨(fun_mk (st := s_answers) l_answers q_answers k_answers), PySem.W.mg_of X G a_answers, ((fun_mk (st := s_answers) l_answers q_answers k_answers).binds (ps := ["calls"]) fun _ _ _ _ _ _ us hl => match us, hl with | [_], _ => rfl)⟩
    c_Book := ⟨pg_Book, hd_Book, po_Book, sa_Book⟩
    g_Book := PySem.W.mg_of X G nc_Book
    mk_Book := ⟨mk_Book, a_Book_init, i_Book_init, kc_Book⟩
    n_Book_people := n_Book_people
    n_Book_companies := n_Book_companies
    n_Book_parts := n_Book_parts
    n_Book_quorum := n_Book_quorum
    n_Book_prices := n_Book_prices
    c_Way := ⟨pg_Way, hd_Way, po_Way, sa_Way⟩
    g_Way := PySem.W.mg_of X G nc_Way
    mk_Way := ⟨mk_Way, a_Way_init, i_Way_init, kc_Way⟩
    n_Way_bought := n_Way_bought
    n_Way_cost := n_Way_cost
    n_Way_ruled := n_Way_ruled
    c_Desk := ⟨pg_Desk, hd_Desk, po_Desk, sa_Desk⟩
    g_Desk := PySem.W.mg_of X G nc_Desk
    mk_Desk := ⟨mk_Desk, a_Desk_init, i_Desk_init, kc_Desk⟩
    n_Desk_book := n_Desk_book
    g_ZERO := PySem.W.mg_of X G v_ZERO
    v_ZERO := fun _ => .inr ⟨_, _, _, w_ZERO, rfl, rfl, (by show 2 ≤ sizeLine; decide), (.cons ⟨_, rfl⟩ (.cons ⟨_, rfl⟩ .nil))⟩
    g_ONE := PySem.W.mg_of X G v_ONE
    v_ONE := fun _ => .inr ⟨_, _, _, w_ONE, rfl, rfl, (by show 2 ≤ sizeLine; decide), (.cons ⟨_, rfl⟩ (.cons ⟨_, rfl⟩ .nil))⟩
    g_FIRST_QUORUM := PySem.W.mg_of X G v_FIRST_QUORUM
    v_FIRST_QUORUM := fun _ => .inr ⟨_, _, _, w_FIRST_QUORUM, rfl, rfl, (by show 2 ≤ sizeLine; decide), (.cons ⟨_, rfl⟩ (.cons ⟨_, rfl⟩ .nil))⟩
    g_FIRST_PRICE := PySem.W.mg_of X G v_FIRST_PRICE
    g_NO_SUCH := PySem.W.mg_of X G v_NO_SUCH
    g_NOT_BEGUN := PySem.W.mg_of X G v_NOT_BEGUN
    g_NOT_RIGHT := PySem.W.mg_of X G v_NOT_RIGHT
    g_NONE_OR_TOO_MUCH := PySem.W.mg_of X G v_NONE_OR_TOO_MUCH
    g_MOST_LOWER := PySem.W.mg_of X G v_MOST_LOWER
    g_MOST_PRICE := PySem.W.mg_of X G v_MOST_PRICE
    g_CALLS := PySem.W.mg_of X G v_CALLS
    v_CALLS := ⟨_, _, _, _, _, _, _, _, _, _, _, _, _, _, _, ⟨⟨_, w_CALLS⟩, by rfl⟩⟩
    g_MOST_PEOPLE := PySem.W.mg_of X G v_MOST_PEOPLE
    g_MOST_COMPANIES := PySem.W.mg_of X G v_MOST_COMPANIES
    g_BEGIN := PySem.W.mg_of X G v_BEGIN
    g_PRICES := PySem.W.mg_of X G v_PRICES
    g_COUNTS := PySem.W.mg_of X G v_COUNTS
    v_COUNTS := fun _ => .inr ⟨_, _, _, w_COUNTS, rfl, rfl, (by show 16 ≤ sizeLine; decide), (.cons ⟨_, rfl⟩ (.cons ⟨_, rfl⟩ (.cons ⟨_, rfl⟩ (.cons ⟨_, rfl⟩ (.cons ⟨_, rfl⟩ (.cons ⟨_, rfl⟩ (.cons ⟨_, rfl⟩ (.cons ⟨_, rfl⟩ (.cons ⟨_, rfl⟩ (.cons ⟨_, rfl⟩ (.cons ⟨_, rfl⟩ (.cons ⟨_, rfl⟩ (.cons ⟨_, rfl⟩ (.cons ⟨_, rfl⟩ (.cons ⟨_, rfl⟩ (.cons ⟨_, rfl⟩ .nil))))))))))))))))⟩
    no_len := PySem.W.mg_none_of X G no_len
    no_range := PySem.W.mg_none_of X G no_range
    no_list := PySem.W.mg_none_of X G no_list
    no_sorted := PySem.W.mg_none_of X G no_sorted
    no_max := PySem.W.mg_none_of X G no_max
    no_all := PySem.W.mg_none_of X G no_all }
  exact ⟨_, fun s us hu => match us, hu with | [_], _ => .of_eq rfl, fun base _ _ => ok_answers T⟩
end Wr
open PySem PySem.W PyProof.Rows
set_option maxRecDepth 100000 in
set_option maxHeartbeats 8000000 in
theorem PySem.Challenge.cw_whorules_s01_answers_holds : PySem.Challenge.rw_whorules_s01_answers.Holds := by
  w_on; k_headS; (case hw => exact ⟨[.list []], by decide +kernel, by decide +kernel⟩)
  k_fillS
  refine L2.walk_specK (r := PySem.Challenge.rw_whorules_s01_answers) (k := 16) (CX := L2.CX0) (ps := ["calls"]) (sp := Wr.spAns) (by decide +kernel) rfl rfl ⟨rfl, by decide, by decide⟩ (fun w h Y => PySem.W.kIn_of Y) ?F ?S (fun _ _ _ _ z => z)
  case F =>
    intro w mg fa h Y KX G hmg
    refine' Wr.all_mk KX G hmg ?nc_Book ?nc_Way ?nc_Desk ?a_greatest_common ?l_greatest_common ?q_greatest_common ?k_greatest_common ?a_lowest ?l_lowest ?q_lowest ?k_lowest ?a_plus ?l_plus ?q_plus ?k_plus ?a_minus ?l_minus ?q_minus ?k_minus ?a_times ?l_times ?q_times ?k_times ?a_at_least ?l_at_least ?q_at_least ?k_at_least ?a_Book_init ?i_Book_init ?l_Book_init ?q_Book_init ?k_Book_init ?a_Book_has_person ?i_Book_has_person ?l_Book_has_person ?q_Book_has_person ?k_Book_has_person ?a_Book_has_company ?i_Book_has_company ?l_Book_has_company ?q_Book_has_company ?k_Book_has_company ?a_Book_has_holder ?i_Book_has_holder ?l_Book_has_holder ?q_Book_has_holder ?k_Book_has_holder ?a_Book_company_as_holder ?i_Book_company_as_holder ?l_Book_company_as_holder ?q_Book_company_as_holder ?k_Book_company_as_holder ?a_Book_part_of ?i_Book_part_of ?l_Book_part_of ?q_Book_part_of ?k_Book_part_of ?a_Book_give_part ?i_Book_give_part ?l_Book_give_part ?q_Book_give_part ?k_Book_give_part ?a_Book_held_by ?i_Book_held_by ?l_Book_held_by ?q_Book_held_by ?k_Book_held_by ?a_Book_held_by_others ?i_Book_held_by_others ?l_Book_held_by_others ?q_Book_held_by_others ?k_Book_held_by_others ?a_votes_of ?l_votes_of ?q_votes_of ?k_votes_of ?a_has_votes ?l_has_votes ?q_has_votes ?k_has_votes ?a_needed_of ?l_needed_of ?q_needed_of ?k_needed_of ?a_commanded ?l_commanded ?q_commanded ?k_commanded ?a_is_ruled_by_way_of ?l_is_ruled_by_way_of ?q_is_ruled_by_way_of ?k_is_ruled_by_way_of ?a_newly_ruled ?l_newly_ruled ?q_newly_ruled ?k_newly_ruled ?a_ruled_from ?l_ruled_from ?q_ruled_from ?k_ruled_from ?a_ruled_together ?l_ruled_together ?q_ruled_together ?k_ruled_together ?a_rulers_of ?l_rulers_of ?q_rulers_of ?k_rulers_of ?a_ruled_by_each_other ?l_ruled_by_each_other ?q_ruled_by_each_other ?k_ruled_by_each_other ?a_self_ruled ?l_self_ruled ?q_self_ruled ?k_self_ruled ?a_free_companies ?l_free_companies ?q_free_companies ?k_free_companies ?a_lack_of ?l_lack_of ?q_lack_of ?k_lack_of ?a_Way_init ?i_Way_init ?l_Way_init ?q_Way_init ?k_Way_init ?a_way_with ?l_way_with ?q_way_with ?k_way_with ?a_ways_onward ?l_ways_onward ?q_ways_onward ?k_ways_onward ?a_is_cheaper ?l_is_cheaper ?q_is_cheaper ?k_is_cheaper ?a_cheapest_that_rules ?l_cheapest_that_rules ?q_cheapest_that_rules ?k_cheapest_that_rules ?a_worth_going_on ?l_worth_going_on ?q_worth_going_on ?k_worth_going_on ?a_cheapest_way ?l_cheapest_way ?q_cheapest_way ?k_cheapest_way ?a_group_count ?l_group_count ?q_group_count ?k_group_count ?a_is_member ?l_is_member ?q_is_member ?k_is_member ?a_without ?l_without ?q_without ?k_without ?a_members_of ?l_members_of ?q_members_of ?k_members_of ?a_ruled_by_group ?l_ruled_by_group ?q_ruled_by_group ?k_ruled_by_group ?a_ruling_groups ?l_ruling_groups ?q_ruling_groups ?k_ruling_groups ?a_hangs_on ?l_hangs_on ?q_hangs_on ?k_hangs_on ?a_needs_all ?l_needs_all ?q_needs_all ?k_needs_all ?a_least_groups ?l_least_groups ?q_least_groups ?k_least_groups ?a_weight_of ?l_weight_of ?q_weight_of ?k_weight_of ?a_with_fraction ?l_with_fraction ?q_with_fraction ?k_with_fraction ?a_with_count ?l_with_count ?q_with_count ?k_with_count ?a_is_share ?l_is_share ?q_is_share ?k_is_share ?a_hold ?l_hold ?q_hold ?k_hold ?a_part ?l_part ?q_part ?k_part ?a_quorum ?l_quorum ?q_quorum ?k_quorum ?a_prices ?l_prices ?q_prices ?k_prices ?a_votes ?l_votes ?q_votes ?k_votes ?a_rules ?l_rules ?q_rules ?k_rules ?a_ruler ?l_ruler ?q_ruler ?k_ruler ?a_selfruled ?l_selfruled ?q_selfruled ?k_selfruled ?a_free ?l_free ?q_free ?k_free ?a_together ?l_together ?q_together ?k_together ?a_least ?l_least ?q_least ?k_least ?a_weight ?l_weight ?q_weight ?k_weight ?a_cheapest ?l_cheapest ?q_cheapest ?k_cheapest ?a_lacking ?l_lacking ?q_lacking ?k_lacking ?a_state ?l_state ?q_state ?k_state ?a_answer_call ?l_answer_call ?q_answer_call ?k_answer_call ?a_Desk_init ?i_Desk_init ?l_Desk_init ?q_Desk_init ?k_Desk_init ?a_Desk_begin ?i_Desk_begin ?l_Desk_begin ?q_Desk_begin ?k_Desk_begin ?a_Desk_answer ?i_Desk_answer ?l_Desk_answer ?q_Desk_answer ?k_Desk_answer ?a_start_of_given ?l_start_of_given ?q_start_of_given ?k_start_of_given ?a_count_of_given ?l_count_of_given ?q_count_of_given ?k_count_of_given ?a_answers ?l_answers ?q_answers ?k_answers ?pg_Book ?hd_Book ?po_Book ?sa_Book ?mk_Book ?kc_Book ?n_Book_people ?n_Book_companies ?n_Book_parts ?n_Book_quorum ?n_Book_prices ?pg_Way ?hd_Way ?po_Way ?sa_Way ?mk_Way ?kc_Way ?n_Way_bought ?n_Way_cost ?n_Way_ruled ?pg_Desk ?hd_Desk ?po_Desk ?sa_Desk ?mk_Desk ?kc_Desk ?n_Desk_book ?v_ZERO ?w_ZERO ?v_ONE ?w_ONE ?v_FIRST_QUORUM ?w_FIRST_QUORUM ?v_FIRST_PRICE ?v_NO_SUCH ?v_NOT_BEGUN ?v_NOT_RIGHT ?v_NONE_OR_TOO_MUCH ?v_MOST_LOWER ?v_MOST_PRICE ?v_CALLS ?w_CALLS ?v_MOST_PEOPLE ?v_MOST_COMPANIES ?v_BEGIN ?v_PRICES ?v_COUNTS ?w_COUNTS ?no_len ?no_range ?no_list ?no_sorted ?no_max ?no_all
    (case nc_Book => k_is)
    (case nc_Way => k_is)
    (case nc_Desk => k_is)
    (case a_greatest_common => k_is)
    (case l_greatest_common => k_is)
    (case q_greatest_common => k_is)
    (case k_greatest_common => k_is)
    (case a_lowest => k_is)
    (case l_lowest => k_is)
    (case q_lowest => k_is)
    (case k_lowest => k_is)
    (case a_plus => k_is)
    (case l_plus => k_is)
    (case q_plus => k_is)
    (case k_plus => k_is)
    (case a_minus => k_is)
    (case l_minus => k_is)
    (case q_minus => k_is)
    (case k_minus => k_is)
    (case a_times => k_is)
    (case l_times => k_is)
    (case q_times => k_is)
    (case k_times => k_is)
    (case a_at_least => k_is)
    (case l_at_least => k_is)
    (case q_at_least => k_is)
    (case k_at_least => k_is)
    (case a_Book_init => k_is)
    (case i_Book_init => k_is)
    (case l_Book_init => k_is)
    (case q_Book_init => k_is)
    (case k_Book_init => k_is)
    (case a_Book_has_person => k_is)
    (case i_Book_has_person => k_is)
    (case l_Book_has_person => k_is)
    (case q_Book_has_person => k_is)
    (case k_Book_has_person => k_is)
    (case a_Book_has_company => k_is)
    (case i_Book_has_company => k_is)
    (case l_Book_has_company => k_is)
    (case q_Book_has_company => k_is)
    (case k_Book_has_company => k_is)
    (case a_Book_has_holder => k_is)
    (case i_Book_has_holder => k_is)
    (case l_Book_has_holder => k_is)
    (case q_Book_has_holder => k_is)
    (case k_Book_has_holder => k_is)
    (case a_Book_company_as_holder => k_is)
    (case i_Book_company_as_holder => k_is)
    (case l_Book_company_as_holder => k_is)
    (case q_Book_company_as_holder => k_is)
    (case k_Book_company_as_holder => k_is)
    (case a_Book_part_of => k_is)
    (case i_Book_part_of => k_is)
    (case l_Book_part_of => k_is)
    (case q_Book_part_of => k_is)
    (case k_Book_part_of => k_is)
    (case a_Book_give_part => k_is)
    (case i_Book_give_part => k_is)
    (case l_Book_give_part => k_is)
    (case q_Book_give_part => k_is)
    (case k_Book_give_part => k_is)
    (case a_Book_held_by => k_is)
    (case i_Book_held_by => k_is)
    (case l_Book_held_by => k_is)
    (case q_Book_held_by => k_is)
    (case k_Book_held_by => k_is)
    (case a_Book_held_by_others => k_is)
    (case i_Book_held_by_others => k_is)
    (case l_Book_held_by_others => k_is)
    (case q_Book_held_by_others => k_is)
    (case k_Book_held_by_others => k_is)
    (case a_votes_of => k_is)
    (case l_votes_of => k_is)
    (case q_votes_of => k_is)
    (case k_votes_of => k_is)
    (case a_has_votes => k_is)
    (case l_has_votes => k_is)
    (case q_has_votes => k_is)
    (case k_has_votes => k_is)
    (case a_needed_of => k_is)
    (case l_needed_of => k_is)
    (case q_needed_of => k_is)
    (case k_needed_of => k_is)
    (case a_commanded => k_is)
    (case l_commanded => k_is)
    (case q_commanded => k_is)
    (case k_commanded => k_is)
    (case a_is_ruled_by_way_of => k_is)
    (case l_is_ruled_by_way_of => k_is)
    (case q_is_ruled_by_way_of => k_is)
    (case k_is_ruled_by_way_of => k_is)
    (case a_newly_ruled => k_is)
    (case l_newly_ruled => k_is)
    (case q_newly_ruled => k_is)
    (case k_newly_ruled => k_is)
    (case a_ruled_from => k_is)
    (case l_ruled_from => k_is)
    (case q_ruled_from => k_is)
    (case k_ruled_from => k_is)
    (case a_ruled_together => k_is)
    (case l_ruled_together => k_is)
    (case q_ruled_together => k_is)
    (case k_ruled_together => k_is)
    (case a_rulers_of => k_is)
    (case l_rulers_of => k_is)
    (case q_rulers_of => k_is)
    (case k_rulers_of => k_is)
    (case a_ruled_by_each_other => k_is)
    (case l_ruled_by_each_other => k_is)
    (case q_ruled_by_each_other => k_is)
    (case k_ruled_by_each_other => k_is)
    (case a_self_ruled => k_is)
    (case l_self_ruled => k_is)
    (case q_self_ruled => k_is)
    (case k_self_ruled => k_is)
    (case a_free_companies => k_is)
    (case l_free_companies => k_is)
    (case q_free_companies => k_is)
    (case k_free_companies => k_is)
    (case a_lack_of => k_is)
    (case l_lack_of => k_is)
    (case q_lack_of => k_is)
    (case k_lack_of => k_is)
    (case a_Way_init => k_is)
    (case i_Way_init => k_is)
    (case l_Way_init => k_is)
    (case q_Way_init => k_is)
    (case k_Way_init => k_is)
    (case a_way_with => k_is)
    (case l_way_with => k_is)
    (case q_way_with => k_is)
    (case k_way_with => k_is)
    (case a_ways_onward => k_is)
    (case l_ways_onward => k_is)
    (case q_ways_onward => k_is)
    (case k_ways_onward => k_is)
    (case a_is_cheaper => k_is)
    (case l_is_cheaper => k_is)
    (case q_is_cheaper => k_is)
    (case k_is_cheaper => k_is)
    (case a_cheapest_that_rules => k_is)
    (case l_cheapest_that_rules => k_is)
    (case q_cheapest_that_rules => k_is)
    (case k_cheapest_that_rules => k_is)
    (case a_worth_going_on => k_is)
    (case l_worth_going_on => k_is)
    (case q_worth_going_on => k_is)
    (case k_worth_going_on => k_is)
    (case a_cheapest_way => k_is)
    (case l_cheapest_way => k_is)
    (case q_cheapest_way => k_is)
    (case k_cheapest_way => k_is)
    (case a_group_count => k_is)
    (case l_group_count => k_is)
    (case q_group_count => k_is)
    (case k_group_count => k_is)
    (case a_is_member => k_is)
    (case l_is_member => k_is)
    (case q_is_member => k_is)
    (case k_is_member => k_is)
    (case a_without => k_is)
    (case l_without => k_is)
    (case q_without => k_is)
    (case k_without => k_is)
    (case a_members_of => k_is)
    (case l_members_of => k_is)
    (case q_members_of => k_is)
    (case k_members_of => k_is)
    (case a_ruled_by_group => k_is)
    (case l_ruled_by_group => k_is)
    (case q_ruled_by_group => k_is)
    (case k_ruled_by_group => k_is)
    (case a_ruling_groups => k_is)
    (case l_ruling_groups => k_is)
    (case q_ruling_groups => k_is)
    (case k_ruling_groups => k_is)
    (case a_hangs_on => k_is)
    (case l_hangs_on => k_is)
    (case q_hangs_on => k_is)
    (case k_hangs_on => k_is)
    (case a_needs_all => k_is)
    (case l_needs_all => k_is)
    (case q_needs_all => k_is)
    (case k_needs_all => k_is)
    (case a_least_groups => k_is)
    (case l_least_groups => k_is)
    (case q_least_groups => k_is)
    (case k_least_groups => k_is)
    (case a_weight_of => k_is)
    (case l_weight_of => k_is)
    (case q_weight_of => k_is)
    (case k_weight_of => k_is)
    (case a_with_fraction => k_is)
    (case l_with_fraction => k_is)
    (case q_with_fraction => k_is)
    (case k_with_fraction => k_is)
    (case a_with_count => k_is)
    (case l_with_count => k_is)
    (case q_with_count => k_is)
    (case k_with_count => k_is)
    (case a_is_share => k_is)
    (case l_is_share => k_is)
    (case q_is_share => k_is)
    (case k_is_share => k_is)
    (case a_hold => k_is)
    (case l_hold => k_is)
    (case q_hold => k_is)
    (case k_hold => k_is)
    (case a_part => k_is)
    (case l_part => k_is)
    (case q_part => k_is)
    (case k_part => k_is)
    (case a_quorum => k_is)
    (case l_quorum => k_is)
    (case q_quorum => k_is)
    (case k_quorum => k_is)
    (case a_prices => k_is)
    (case l_prices => k_is)
    (case q_prices => k_is)
    (case k_prices => k_is)
    (case a_votes => k_is)
    (case l_votes => k_is)
    (case q_votes => k_is)
    (case k_votes => k_is)
    (case a_rules => k_is)
    (case l_rules => k_is)
    (case q_rules => k_is)
    (case k_rules => k_is)
    (case a_ruler => k_is)
    (case l_ruler => k_is)
    (case q_ruler => k_is)
    (case k_ruler => k_is)
    (case a_selfruled => k_is)
    (case l_selfruled => k_is)
    (case q_selfruled => k_is)
    (case k_selfruled => k_is)
    (case a_free => k_is)
    (case l_free => k_is)
    (case q_free => k_is)
    (case k_free => k_is)
    (case a_together => k_is)
    (case l_together => k_is)
    (case q_together => k_is)
    (case k_together => k_is)
    (case a_least => k_is)
    (case l_least => k_is)
    (case q_least => k_is)
    (case k_least => k_is)
    (case a_weight => k_is)
    (case l_weight => k_is)
    (case q_weight => k_is)
    (case k_weight => k_is)
    (case a_cheapest => k_is)
    (case l_cheapest => k_is)
    (case q_cheapest => k_is)
    (case k_cheapest => k_is)
    (case a_lacking => k_is)
    (case l_lacking => k_is)
    (case q_lacking => k_is)
    (case k_lacking => k_is)
    (case a_state => k_is)
    (case l_state => k_is)
    (case q_state => k_is)
    (case k_state => k_is)
    (case a_answer_call => k_is)
    (case l_answer_call => k_is)
    (case q_answer_call => k_is)
    (case k_answer_call => k_is)
    (case a_Desk_init => k_is)
    (case i_Desk_init => k_is)
    (case l_Desk_init => k_is)
    (case q_Desk_init => k_is)
    (case k_Desk_init => k_is)
    (case a_Desk_begin => k_is)
    (case i_Desk_begin => k_is)
    (case l_Desk_begin => k_is)
    (case q_Desk_begin => k_is)
    (case k_Desk_begin => k_is)
    (case a_Desk_answer => k_is)
    (case i_Desk_answer => k_is)
    (case l_Desk_answer => k_is)
    (case q_Desk_answer => k_is)
    (case k_Desk_answer => k_is)
    (case a_start_of_given => k_is)
    (case l_start_of_given => k_is)
    (case q_start_of_given => k_is)
    (case k_start_of_given => k_is)
    (case a_count_of_given => k_is)
    (case l_count_of_given => k_is)
    (case q_count_of_given => k_is)
    (case k_count_of_given => k_is)
    (case a_answers => k_is)
    (case l_answers => k_is)
    (case q_answers => k_is)
    (case k_answers => k_is)
    (case pg_Book => k_is)
    (case hd_Book => k_is)
    (case po_Book => k_is)
    (case sa_Book => k_is)
    (case mk_Book => k_is)
    (case kc_Book => k_is)
    (case n_Book_people => k_is)
    (case n_Book_companies => k_is)
    (case n_Book_parts => k_is)
    (case n_Book_quorum => k_is)
    (case n_Book_prices => k_is)
    (case pg_Way => k_is)
    (case hd_Way => k_is)
    (case po_Way => k_is)
    (case sa_Way => k_is)
    (case mk_Way => k_is)
    (case kc_Way => k_is)
    (case n_Way_bought => k_is)
    (case n_Way_cost => k_is)
    (case n_Way_ruled => k_is)
    (case pg_Desk => k_is)
    (case hd_Desk => k_is)
    (case po_Desk => k_is)
    (case sa_Desk => k_is)
    (case mk_Desk => k_is)
    (case kc_Desk => k_is)
    (case n_Desk_book => k_is)
    (case v_ZERO => k_is)
    (case w_ZERO => k_is)
    (case v_ONE => k_is)
    (case w_ONE => k_is)
    (case v_FIRST_QUORUM => k_is)
    (case w_FIRST_QUORUM => k_is)
    (case v_FIRST_PRICE => k_is)
    (case v_NO_SUCH => k_is)
    (case v_NOT_BEGUN => k_is)
    (case v_NOT_RIGHT => k_is)
    (case v_NONE_OR_TOO_MUCH => k_is)
    (case v_MOST_LOWER => k_is)
    (case v_MOST_PRICE => k_is)
    (case v_CALLS => k_is)
    (case w_CALLS => k_is)
    (case v_MOST_PEOPLE => k_is)
    (case v_MOST_COMPANIES => k_is)
    (case v_BEGIN => k_is)
    (case v_PRICES => k_is)
    (case v_COUNTS => k_is)
    (case w_COUNTS => k_is)
    (case no_len => k_is)
    (case no_range => k_is)
    (case no_list => k_is)
    (case no_sorted => k_is)
    (case no_max => k_is)
    (case no_all => k_is)
  case S =>
    intro K H xs a hO hwi hask hx
    cases hx with
    | cons h1 h2 =>
      cases h2
      cases h1 with
      | lst hs ha =>
        have e := L2.ints_dw a.1 _ ha
        subst e
        have q : ((Codec.inLen 0 10400 a.1 && a.1.all (Codec.inInt 0 4294967295)) && true) = true := hwi
        rw [Bool.and_eq_true, Bool.and_eq_true] at q
        refine ⟨_, a.1, rfl, hs, fun x hx => ?_, hask, fun H' p hp => .lst (L2.SqL.of hp) (L2.dw_ints _)⟩
        have z := List.all_eq_true.mp q.1.2 x hx
        exact (Codec.inInt_iff.mp z).1
