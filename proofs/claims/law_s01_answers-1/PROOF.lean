import PyProof.Rows.All
import Wide.All
import OpenK.AllK
import Wide.FinOn
import Open.SpecLaws
import KE.OsGo
import HandS.ForSpec
import HandS.TryMany
import HandS.TupSets
import KE.SortData
import PyProof.WalksMore
import PyProof.TupleIter
import HandS.Rev
import HandS.RevTup
import PyProof.ListRange
import PyProof.ListNew
import HandS.Iter
import HandS.Walk
import KE.KDictZip
import HandS.ForMost
import HandS.Wide
import HandS.HeadHook1
import PySem.Challenge.RW_wholepointsdesk_s01_answers
set_option Elab.async false
set_option maxRecDepth 100000
set_option maxHeartbeats 4000000
section
namespace Pg
abbrev Pt := Int × Int
/-- on which side of the way from a to b a place lies -/
def tr (a b p : Pt) : Int := (b.1 - a.1) * (p.2 - a.2) - (b.2 - a.2) * (p.1 - a.1)
def lx (a b : Pt) : Prop := a.1 < b.1 ∨ (a.1 = b.1 ∧ a.2 < b.2)

theorem cross_eq (a b p : Pt) : Sq68.cross (Sq68.sub b a) (Sq68.sub p a) = tr a b p := rfl

theorem lx_trans {a b c : Pt} (h1 : lx a b) (h2 : lx b c) : lx a c := by
  unfold lx at *; omega
theorem lx_irrefl (a : Pt) : ¬ lx a a := by unfold lx; omega
theorem lx_tri (a b : Pt) : lx a b ∨ a = b ∨ lx b a := by
  unfold lx
  by_cases h : a = b
  · exact .inr (.inl h)
  · have : a.1 ≠ b.1 ∨ a.2 ≠ b.2 := by
      by_cases h1 : a.1 = b.1
      · refine .inr fun h2 => h (Prod.ext h1 h2)
      · exact .inl h1
    omega
theorem lx_ne {a b : Pt} (h : lx a b) : a ≠ b := fun e => lx_irrefl a (e ▸ h : lx a a)
theorem lx_asymm {a b : Pt} (h : lx a b) : ¬ lx b a := fun h2 => lx_irrefl a (lx_trans h h2)

/-- vectors to the right, or straight up -/
def vp (x y : Int) : Prop := 0 < x ∨ (x = 0 ∧ 0 < y)

theorem turn_id1 (u1 u2 v1 v2 w1 w2 : Int) :
    (u1*w2-u2*w1)*v1 = (u1*v2-u2*v1)*w1 + (v1*w2-v2*w1)*u1 := by grind

theorem pos_weak {u1 u2 v1 v2 w1 w2 : Int} (hu : vp u1 u2) (hv : vp v1 v2) (hw : vp w1 w2)
    (h1 : 0 ≤ u1*v2-u2*v1) (h2 : 0 ≤ v1*w2-v2*w1) : 0 ≤ u1*w2-u2*w1 := by
  unfold vp at *
  have id1 := turn_id1 u1 u2 v1 v2 w1 w2
  have u0 : 0 ≤ u1 := by omega
  have w0 : 0 ≤ w1 := by omega
  rcases hv with hv | ⟨hv, hv2⟩
  · refine Int.not_lt.1 fun hc => ?_
    have a := Int.mul_neg_of_neg_of_pos hc hv
    have b := Int.mul_nonneg h1 w0
    have c := Int.mul_nonneg h2 u0
    omega
  · subst hv
    have hw1 : w1 = 0 := by
      rcases hw with hw | hw
      · have := Int.mul_pos hv2 hw
        simp at h2; omega
      · exact hw.1
    subst hw1
    have w2p : 0 < w2 := by omega
    have := Int.mul_nonneg u0 (Int.le_of_lt w2p)
    simpa using this

theorem pos_strictR {u1 u2 v1 v2 w1 w2 : Int} (hu : vp u1 u2) (hv : vp v1 v2) (hw : vp w1 w2)
    (h1 : 0 ≤ u1*v2-u2*v1) (h2 : 0 < v1*w2-v2*w1) : 0 < u1*w2-u2*w1 := by
  have hwk := pos_weak hu hv hw h1 (Int.le_of_lt h2)
  unfold vp at *
  have id1 := turn_id1 u1 u2 v1 v2 w1 w2
  have u0 : 0 ≤ u1 := by omega
  have w0 : 0 ≤ w1 := by omega
  refine Int.lt_iff_le_and_ne.2 ⟨hwk, fun e => ?_⟩
  rw [← e] at id1
  have b := Int.mul_nonneg h1 w0
  have c := Int.mul_nonneg (Int.le_of_lt h2) u0
  have c0 : (v1*w2-v2*w1)*u1 = 0 := by omega
  have u10 : u1 = 0 := by
    rcases Int.mul_eq_zero.1 c0 with h | h
    · omega
    · exact h
  subst u10
  have u2p : 0 < u2 := by omega
  have v10 : v1 = 0 := by
    rcases hv with hv | hv
    · have := Int.mul_pos u2p hv
      simp at h1; omega
    · exact hv.1
  subst v10
  have v2p : 0 < v2 := by omega
  have := Int.mul_nonneg (Int.le_of_lt v2p) w0
  simp at h2; omega

theorem pos_strictL {u1 u2 v1 v2 w1 w2 : Int} (hu : vp u1 u2) (hv : vp v1 v2) (hw : vp w1 w2)
    (h1 : 0 < u1*v2-u2*v1) (h2 : 0 ≤ v1*w2-v2*w1) : 0 < u1*w2-u2*w1 := by
  have hwk := pos_weak hu hv hw (Int.le_of_lt h1) h2
  unfold vp at *
  have id1 := turn_id1 u1 u2 v1 v2 w1 w2
  have u0 : 0 ≤ u1 := by omega
  have w0 : 0 ≤ w1 := by omega
  refine Int.lt_iff_le_and_ne.2 ⟨hwk, fun e => ?_⟩
  rw [← e] at id1
  have b := Int.mul_nonneg (Int.le_of_lt h1) w0
  have c := Int.mul_nonneg h2 u0
  have b0 : (u1*v2-u2*v1)*w1 = 0 := by omega
  have w10 : w1 = 0 := by
    rcases Int.mul_eq_zero.1 b0 with h | h
    · omega
    · exact h
  subst w10
  have w2p : 0 < w2 := by omega
  have u10 : u1 = 0 := by
    have e' : u1 * w2 = 0 := by simpa using e.symm
    rcases Int.mul_eq_zero.1 e' with h | h
    · exact h
    · omega
  subst u10
  have u2p : 0 < u2 := by omega
  have v0 : 0 ≤ v1 := by omega
  have := Int.mul_nonneg (Int.le_of_lt u2p) v0
  simp at h1; omega

theorem vp_of_lx {a b : Pt} (h : lx a b) : vp (b.1 - a.1) (b.2 - a.2) := by
  unfold lx at h; unfold vp; omega

/-! turning -/
theorem tr_cyc (a b c : Pt) : tr b c a = tr a b c := by unfold tr; grind
theorem tr_swap (a b c : Pt) : tr a c b = - tr a b c := by unfold tr; grind
theorem tr_self1 (a b : Pt) : tr a b a = 0 := by unfold tr; grind
theorem tr_self2 (a b : Pt) : tr a b b = 0 := by unfold tr; grind

/-- all four in order: two bends to the left make one -/
theorem tr_on {x y z w : Pt} (hxy : lx x y) (hyz : lx y z) (hzw : lx z w) (h1 : 0 < tr x y z) (h2 : 0 < tr y z w) :
    0 < tr x y w := by
  have a := vp_of_lx hxy
  have b := vp_of_lx hyz
  have c := vp_of_lx hzw
  have k := pos_strictL (u1 := y.1 - x.1) (u2 := y.2 - x.2) (v1 := z.1 - y.1) (v2 := z.2 - y.2) (w1 := w.1 - z.1) (w2 := w.2 - z.2) a b c
    (by unfold tr at h1; grind) (by unfold tr at h2; grind)
  unfold tr at *; grind

/-- behind the last edge's left side a place ahead of it is left of what follows -/
theorem tr_before {s t p q : Pt} (hst : lx s t) (htp : lx t p) (hqt : lx q t) (h1 : 0 ≤ tr s t q) (h2 : 0 < tr s t p) :
    0 < tr t p q := by
  have a := vp_of_lx hst
  have b := vp_of_lx htp
  have c := vp_of_lx hqt
  have k := pos_strictR (u1 := t.1 - q.1) (u2 := t.2 - q.2) (v1 := t.1 - s.1) (v2 := t.2 - s.2) (w1 := p.1 - t.1) (w2 := p.2 - t.2) c a b
    (by unfold tr at h1; grind) (by unfold tr at h2; grind)
  unfold tr at *; grind

/-- a place behind a, left of an edge that bends to the right, is left of the straight way -/
theorem tr_after {a b p q : Pt} (hab : lx a b) (hap : lx a p) (haq : lx a q) (h1 : 0 ≤ tr a b q) (h2 : tr a b p ≤ 0) :
    0 ≤ tr a p q := by
  have x := vp_of_lx hab
  have y := vp_of_lx hap
  have z := vp_of_lx haq
  have k := pos_weak (u1 := p.1 - a.1) (u2 := p.2 - a.2) (v1 := b.1 - a.1) (v2 := b.2 - a.2) (w1 := q.1 - a.1) (w2 := q.2 - a.2) y x z
    (by unfold tr at h2; grind) (by unfold tr at h1; grind)
  unfold tr at *; grind
end Pg
end

section
namespace Pg
/-- the stack is told with the last one first -/
def popW (p : Pt) : List Pt → List Pt
  | b :: a :: r => if tr a b p ≤ 0 then popW p (a :: r) else b :: a :: r
  | [b] => [b]
  | [] => []
def bend (s : List Pt) (p : Pt) : List Pt := p :: popW p s
def bends (l : List Pt) : List Pt := (l.foldl bend []).reverse

def Ed (l : List Pt) (a b : Pt) : Prop := lx a b ∧ ∀ p ∈ l, 0 ≤ tr a b p ∧ (tr a b p = 0 → ¬ lx p a ∧ ¬ lx b p)

def Stk (l : List Pt) : List Pt → Prop
  | b :: a :: r => Ed l a b ∧ Stk l (a :: r)
  | [_] => True
  | [] => True

/-- every one of the stack's below the top bends to the left to p -/
def Top (p t : Pt) : List Pt → Prop
  | a :: _ => 0 < tr a t p
  | [] => True

theorem pop_inv (pre : List Pt) (p : Pt) (hp : ∀ q ∈ pre, lx q p) : ∀ (r : List Pt) (t : Pt),
    Stk pre (t :: r) → (∀ x ∈ t :: r, x ∈ pre) → (∀ q ∈ pre, lx t q → 0 ≤ tr t p q) →
    ∃ t' r', popW p (t :: r) = t' :: r' ∧ Stk pre (t' :: r') ∧ (∀ x ∈ t' :: r', x ∈ pre) ∧
      (∀ q ∈ pre, lx t' q → 0 ≤ tr t' p q) ∧ Top p t' r' ∧ (t' :: r').getLast? = (t :: r).getLast?
  | [], t => fun _ hm hq => ⟨t, [], rfl, trivial, hm, hq, trivial, rfl⟩
  | a :: r, t => fun hs hm hq => by
    unfold popW
    split
    · rename_i hle
      have hm' : ∀ x ∈ a :: r, x ∈ pre := fun x hx => hm x (List.mem_cons_of_mem _ hx)
      obtain ⟨t', r', e, h1, h2, h3, h4, h5⟩ := pop_inv pre p hp r a hs.2 hm' (fun q hqp haq =>
        tr_after hs.1.1 (hp a (hm' a (List.mem_cons_self))) haq (hs.1.2 q hqp).1 hle)
      refine ⟨t', r', e, h1, h2, h3, h4, ?_⟩
      rw [h5, List.getLast?_cons_cons]
    · rename_i hgt
      refine ⟨t, a :: r, rfl, hs, hm, hq, ?_, rfl⟩
      show 0 < tr a t p
      omega

theorem stk_ext (pre : List Pt) (p : Pt) : ∀ (r : List Pt) (t : Pt), Stk pre (t :: r) → (∀ x ∈ t :: r, x ∈ pre) →
    Top p t r → lx t p → Stk (pre ++ [p]) (t :: r)
  | [], _ => fun _ _ _ _ => trivial
  | a :: r, t => fun hs hm ht hp => by
    have ht' : 0 < tr a t p := ht
    have hat := hs.1.1
    refine ⟨⟨hat, fun q hq => ?_⟩, stk_ext pre p r a hs.2 (fun x hx => hm x (List.mem_cons_of_mem _ hx)) ?_ (lx_trans hat hp)⟩
    · rcases List.mem_append.1 hq with hq | hq
      · exact hs.1.2 q hq
      · have : q = p := by simpa using hq
        subst this
        exact ⟨by omega, fun e => by omega⟩
    · cases r with
      | nil => trivial
      | cons x r2 =>
        show 0 < tr x a p
        have hx := hs.2.1
        have ht2 := hx.2 t (hm t List.mem_cons_self)
        have : 0 < tr x a t := by
          rcases Int.lt_or_eq_of_le ht2.1 with h | h
          · exact h
          · exact absurd hat (ht2.2 h.symm).2
        exact tr_on hx.1 hat hp this ht'

structure Inv (pre S : List Pt) : Prop where
  stk : Stk pre S
  mem : ∀ x ∈ S, x ∈ pre
  top : ∃ t r, S = t :: r ∧ ∀ q ∈ pre, ¬ lx t q
  bot : ∃ b, S.getLast? = some b ∧ ∀ q ∈ pre, ¬ lx q b

theorem inv_one (p : Pt) : Inv [p] (bend [] p) where
  stk := trivial
  mem := by intro x hx; exact hx
  top := ⟨p, [], rfl, by intro q hq; have : q = p := by simpa using hq
                         subst this; exact lx_irrefl q⟩
  bot := ⟨p, rfl, by intro q hq; have : q = p := by simpa using hq
                     subst this; exact lx_irrefl q⟩

theorem inv_step {pre S : List Pt} {p : Pt} (h : Inv pre S) (hp : ∀ q ∈ pre, lx q p) : Inv (pre ++ [p]) (bend S p) := by
  obtain ⟨t, r, rfl, htop⟩ := h.top
  obtain ⟨b, hb, hbot⟩ := h.bot
  obtain ⟨t', r', e, h1, h2, h3, h4, h5⟩ := pop_inv pre p hp r t h.stk h.mem (fun q hq ht => absurd ht (htop q hq))
  have hbend : bend (t :: r) p = p :: t' :: r' := by unfold bend; rw [e]
  rw [hbend]
  have ht'p : lx t' p := hp t' (h2 t' List.mem_cons_self)
  refine ⟨⟨⟨ht'p, fun q hq => ?_⟩, stk_ext pre p r' t' h1 h2 h4 ht'p⟩, ?_, ?_, ?_⟩
  · rcases List.mem_append.1 hq with hq | hq
    · rcases lx_tri q t' with hl | hl | hl
      · cases r' with
        | nil =>
          exfalso
          have : b = t' := by
            rw [hb] at h5
            simpa using h5.symm
          subst this
          exact hbot q hq hl
        | cons a r2 =>
          have hpos := tr_before h1.1.1 ht'p hl (h1.1.2 q hq).1 h4
          exact ⟨by omega, fun e => by omega⟩
      · subst hl
        exact ⟨by rw [tr_self1]; omega, fun _ => ⟨lx_irrefl _, lx_asymm ht'p⟩⟩
      · exact ⟨h3 q hq hl, fun _ => ⟨lx_asymm hl, lx_asymm (hp q hq)⟩⟩
    · have : q = p := by simpa using hq
      subst this
      exact ⟨by rw [tr_self2]; omega, fun _ => ⟨lx_asymm ht'p, lx_irrefl _⟩⟩
  · intro x hx
    rcases List.mem_cons.1 hx with hx | hx
    · simp [hx]
    · exact List.mem_append_left _ (h2 x hx)
  · refine ⟨p, _, rfl, fun q hq => ?_⟩
    rcases List.mem_append.1 hq with hq | hq
    · exact lx_asymm (hp q hq)
    · have : q = p := by simpa using hq
      subst this
      exact lx_irrefl q
  · refine ⟨b, ?_, fun q hq => ?_⟩
    · rw [List.getLast?_cons_cons, h5, hb]
    · rcases List.mem_append.1 hq with hq | hq
      · exact hbot q hq
      · have : q = p := by simpa using hq
        subst this
        have hbm : b ∈ pre := by
          apply h.mem
          exact List.mem_of_getLast? hb
        exact lx_asymm (hp b hbm)

abbrev Sorted (l : List Pt) : Prop := l.Pairwise lx

theorem inv_fold : ∀ (rest pre S : List Pt), Inv pre S → Sorted (pre ++ rest) → Inv (pre ++ rest) (rest.foldl bend S)
  | [], pre, S => fun h _ => by simpa using h
  | p :: rest, pre, S => fun h hs => by
    have e : pre ++ p :: rest = (pre ++ [p]) ++ rest := by simp
    rw [e] at hs ⊢
    rw [List.foldl_cons]
    refine inv_fold rest (pre ++ [p]) (bend S p) (inv_step h fun q hq => ?_) hs
    exact (List.pairwise_append.1 (List.pairwise_append.1 hs).1).2.2 q hq p (by simp)

theorem inv_all {a : Pt} {r : List Pt} (h : Sorted (a :: r)) : Inv (a :: r) ((a :: r).foldl bend []) := by
  have := inv_fold r [a] (bend [] a) (inv_one a) h
  simpa using this

/-! in their order -/
def Path (E : Pt → Pt → Prop) : List Pt → Prop
  | a :: b :: r => E a b ∧ Path E (b :: r)
  | [_] => True
  | [] => True

theorem path_join {E : Pt → Pt → Prop} {m : Pt} {r : List Pt} : ∀ {l : List Pt}, Path E (l ++ [m]) → Path E (m :: r) → Path E (l ++ m :: r)
  | [], _, h => h
  | [_], h1, h2 => ⟨h1.1, h2⟩
  | _ :: b :: l, h1, h2 => ⟨h1.1, path_join (l := b :: l) h1.2 h2⟩

theorem path_mono {E F : Pt → Pt → Prop} (h : ∀ a b, E a b → F a b) : ∀ {l : List Pt}, Path E l → Path F l
  | [], _ => trivial
  | [_], _ => trivial
  | _ :: _ :: _, p => ⟨h _ _ p.1, path_mono h p.2⟩

theorem path_map {E F : Pt → Pt → Prop} {f : Pt → Pt} (h : ∀ a b, E a b → F (f a) (f b)) : ∀ {l : List Pt}, Path E l → Path F (l.map f)
  | [], _ => trivial
  | [_], _ => trivial
  | _ :: _ :: _, p => ⟨h _ _ p.1, path_map h p.2⟩

theorem stk_path (l : List Pt) : ∀ {S : List Pt}, Stk l S → Path (Ed l) S.reverse
  | [], _ => trivial
  | [_], _ => trivial
  | b :: a :: r, h => by
    have h2 := stk_path l h.2
    rw [List.reverse_cons] at h2
    rw [List.reverse_cons, List.reverse_cons, List.append_assoc]
    exact path_join h2 ⟨h.1, trivial⟩

/-- the way below: from the first to the last, every edge leaving all on its left -/
theorem bends_ok {a : Pt} {r : List Pt} (h : Sorted (a :: r)) (hr : r ≠ []) :
    ∃ c z, bends (a :: r) = a :: c ++ [z] ∧ Path (Ed (a :: r)) (bends (a :: r)) ∧ (∀ x ∈ bends (a :: r), x ∈ a :: r) ∧
      (a :: r).getLast? = some z := by
  have hi := inv_all h
  obtain ⟨t, s, hS, ht⟩ := hi.top
  obtain ⟨b, hb, hbb⟩ := hi.bot
  have hp : Path (Ed (a :: r)) (bends (a :: r)) := stk_path _ hi.stk
  have hm : ∀ x ∈ bends (a :: r), x ∈ a :: r := fun x hx => hi.mem x (List.mem_reverse.1 hx)
  have hba : b = a := by
    have hbm : b ∈ a :: r := hi.mem b (List.mem_of_getLast? hb)
    rcases List.mem_cons.1 hbm with h1 | h1
    · exact h1
    · exact absurd ((List.pairwise_cons.1 h).1 b h1) (hbb a List.mem_cons_self)
  subst hba
  obtain ⟨z, hz⟩ : ∃ z, (b :: r).getLast? = some z := ⟨_, List.getLast?_cons⟩
  have hzm : z ∈ b :: r := List.mem_of_getLast? hz
  have hzl : ∀ x ∈ b :: r, x = z ∨ lx x z := by
    intro x hx
    obtain ⟨ini, hini⟩ := List.getLast?_eq_some_iff.1 hz
    rw [hini] at hx h
    rcases List.mem_append.1 hx with hx | hx
    · exact .inr ((List.pairwise_append.1 h).2.2 x hx z (by simp))
    · exact .inl (by simpa using hx)
  have htz : t = z := by
    rcases hzl t (hi.mem t (by rw [hS]; exact List.mem_cons_self)) with h1 | h1
    · exact h1
    · exact absurd h1 (ht z hzm)
  subst htz
  have hbt : b ≠ t := by
    intro e
    subst e
    cases r with
    | nil => exact hr rfl
    | cons y r2 =>
      have := (List.pairwise_cons.1 h).1 y List.mem_cons_self
      exact ht y (by simp) this
  have hsne : ∃ c, s = c ++ [b] := by
    rw [hS] at hb
    cases s with
    | nil => simp at hb; exact absurd hb.symm hbt
    | cons y s2 =>
      rw [List.getLast?_cons_cons] at hb
      exact List.getLast?_eq_some_iff.1 hb
  obtain ⟨c, rfl⟩ := hsne
  refine ⟨c.reverse, t, ?_, hp, hm, hz⟩
  unfold bends
  rw [hS]
  simp
end Pg
end

section
namespace Pg
def dt (a b p : Pt) : Int := (p.1 - a.1) * (b.1 - a.1) + (p.2 - a.2) * (b.2 - a.2)

/-- none is to the right, and those in line are between -/
def Edge (l : List Pt) (a b : Pt) : Prop := a ≠ b ∧ ∀ p ∈ l, 0 ≤ tr a b p ∧ (tr a b p = 0 → 0 ≤ dt a b p ∧ dt a b p ≤ dt a b b)

theorem dot_nonneg {v1 v2 w1 w2 : Int} (hv : vp v1 v2) (hw : 0 < w1 ∨ (w1 = 0 ∧ 0 ≤ w2)) (h : v1 * w2 - v2 * w1 = 0) :
    0 ≤ w1 * v1 + w2 * v2 := by
  unfold vp at hv
  rcases hv with hv | ⟨hv, hv2⟩
  · have w0 : 0 ≤ w1 := by omega
    have a := Int.mul_nonneg w0 (Int.le_of_lt hv)
    have b : 0 ≤ w2 * v2 := by
      refine Int.not_lt.1 fun hc => ?_
      have h1 := Int.mul_neg_of_neg_of_pos hc hv
      have h2 : w2 * v2 * v1 = v2 * v2 * w1 := by grind
      have h3 : 0 ≤ v2 * v2 := by
        rcases Int.le_total 0 v2 with h | h
        · exact Int.mul_nonneg h h
        · have := Int.mul_nonneg (Int.neg_nonneg.2 h) (Int.neg_nonneg.2 h)
          simpa [Int.neg_mul_neg] using this
      have h4 := Int.mul_nonneg h3 w0
      omega
    omega
  · subst hv
    have : w1 = 0 := by
      rcases hw with hw | hw
      · have := Int.mul_pos hv2 hw
        simp at h; omega
      · exact hw.1
    subst this
    have : 0 ≤ w2 := by omega
    have := Int.mul_nonneg this (Int.le_of_lt hv2)
    simpa using this

theorem not_lx {a b : Pt} (h : ¬ lx b a) : 0 < b.1 - a.1 ∨ (b.1 - a.1 = 0 ∧ 0 ≤ b.2 - a.2) := by
  unfold lx at h; omega

theorem ed_edge {l : List Pt} {a b : Pt} (h : Ed l a b) : Edge l a b := by
  refine ⟨lx_ne h.1, fun p hp => ⟨(h.2 p hp).1, fun e => ?_⟩⟩
  have hb := (h.2 p hp).2 e
  have v := vp_of_lx h.1
  have w := not_lx hb.1
  have w' := not_lx hb.2
  unfold tr at e
  constructor
  · exact dot_nonneg v w (by grind)
  · have := dot_nonneg (w1 := b.1 - p.1) (w2 := b.2 - p.2) v w' (by grind)
    unfold dt; grind

theorem sq_zero {x y : Int} (h : x * x + y * y = 0) : x = 0 ∧ y = 0 := by
  have hx : 0 ≤ x * x := by
    rcases Int.le_total 0 x with h | h
    · exact Int.mul_nonneg h h
    · have := Int.mul_nonneg (Int.neg_nonneg.2 h) (Int.neg_nonneg.2 h)
      simpa [Int.neg_mul_neg] using this
  have hy : 0 ≤ y * y := by
    rcases Int.le_total 0 y with h | h
    · exact Int.mul_nonneg h h
    · have := Int.mul_nonneg (Int.neg_nonneg.2 h) (Int.neg_nonneg.2 h)
      simpa [Int.neg_mul_neg] using this
  constructor
  · have : x * x = 0 := by omega
    rcases Int.mul_eq_zero.1 this with h | h <;> exact h
  · have : y * y = 0 := by omega
    rcases Int.mul_eq_zero.1 this with h | h <;> exact h

theorem sq_nonneg (x : Int) : 0 ≤ x * x := by
  rcases Int.le_total 0 x with h | h
  · exact Int.mul_nonneg h h
  · have := Int.mul_nonneg (Int.neg_nonneg.2 h) (Int.neg_nonneg.2 h)
    simpa [Int.neg_mul_neg] using this

theorem same_vec {v1 v2 w1 w2 : Int} (hv : ¬ (v1 = 0 ∧ v2 = 0)) (hw : ¬ (w1 = 0 ∧ w2 = 0)) (hc : v1 * w2 - v2 * w1 = 0)
    (h0 : 0 ≤ w1 * v1 + w2 * v2) (h1 : w1 * v1 + w2 * v2 ≤ v1 * v1 + v2 * v2) (h2 : w1 * v1 + w2 * v2 ≤ w1 * w1 + w2 * w2) :
    v1 = w1 ∧ v2 = w2 := by
  have hvp : 0 < v1 * v1 + v2 * v2 := by
    have := sq_nonneg v1; have := sq_nonneg v2
    refine Int.lt_iff_le_and_ne.2 ⟨by omega, fun e => hv (sq_zero e.symm)⟩
  have hwp : 0 < w1 * w1 + w2 * w2 := by
    have := sq_nonneg w1; have := sq_nonneg w2
    refine Int.lt_iff_le_and_ne.2 ⟨by omega, fun e => hw (sq_zero e.symm)⟩
  have id : (w1 * v1 + w2 * v2) * (w1 * v1 + w2 * v2) = (v1 * v1 + v2 * v2) * (w1 * w1 + w2 * w2) := by
    have e : (v1 * w2 - v2 * w1) * (v1 * w2 - v2 * w1) = 0 := by rw [hc]; rfl
    grind
  generalize hd : w1 * v1 + w2 * v2 = d at *
  generalize hV : v1 * v1 + v2 * v2 = V at *
  generalize hW : w1 * w1 + w2 * w2 = W at *
  have dp : 0 < d := by
    refine Int.lt_iff_le_and_ne.2 ⟨h0, fun e => ?_⟩
    rw [← e] at id
    have := Int.mul_pos hvp hwp
    omega
  have e1 : d = V := by
    refine Int.le_antisymm h1 (Int.not_lt.1 fun hlt => ?_)
    have a := Int.mul_lt_mul_of_pos_right hlt dp
    have b := Int.mul_le_mul_of_nonneg_left h2 (Int.le_of_lt hvp)
    omega
  have e2 : d = W := by
    refine Int.le_antisymm h2 (Int.not_lt.1 fun hlt => ?_)
    have a := Int.mul_lt_mul_of_pos_right hlt dp
    have b := Int.mul_le_mul_of_nonneg_right h1 (Int.le_of_lt hwp)
    rw [Int.mul_comm W d] at a
    have c := Int.mul_comm d W
    omega
  have z : (v1 - w1) * (v1 - w1) + (v2 - w2) * (v2 - w2) = 0 := by grind
  have := sq_zero z
  omega

/-- what the next corner must be -/
def isNext (l : List Pt) (a b : Pt) : Bool := b != a && (Sq68.noneRight l a b && l.all fun p => Sq68.cross (Sq68.sub b a) (Sq68.sub p a) != 0 || decide ((Sq68.sub p a).1 * (Sq68.sub b a).1 + (Sq68.sub p a).2 * (Sq68.sub b a).2 ≤ (Sq68.sub b a).1 * (Sq68.sub b a).1 + (Sq68.sub b a).2 * (Sq68.sub b a).2))
theorem next_def (l : List Pt) (a : Pt) : Sq68.next l a = l.find? (isNext l a) := rfl

theorem isNext_iff (l : List Pt) (a b : Pt) : isNext l a b = true ↔
    b ≠ a ∧ (∀ p ∈ l, 0 ≤ tr a b p) ∧ ∀ p ∈ l, tr a b p = 0 → dt a b p ≤ dt a b b := by
  unfold isNext Sq68.noneRight
  simp only [Bool.and_eq_true, bne_iff_ne, List.all_eq_true, decide_eq_true_eq, Bool.or_eq_true, cross_eq]
  refine and_congr_right fun _ => ?_
  constructor
  · intro ⟨h0, h⟩
    refine ⟨fun p hp => of_decide_eq_true (h0 p hp), fun p hp e => ?_⟩
    rcases h p hp with h | h
    · exact absurd e h
    · exact h
  · intro ⟨h0, h⟩
    refine ⟨fun p hp => decide_eq_true (h0 p hp), fun p hp => ?_⟩
    by_cases e : tr a b p = 0
    · exact .inr (h p hp e)
    · exact .inl e

theorem edge_isNext {l : List Pt} {a b : Pt} (h : Edge l a b) : isNext l a b = true :=
  (isNext_iff l a b).2 ⟨fun e => h.1 e.symm, fun p hp => (h.2 p hp).1, fun p hp e => ((h.2 p hp).2 e).2⟩

theorem next_unique {l : List Pt} {a b c : Pt} (h : Edge l a b) (hb : b ∈ l) (hc : c ∈ l) (hn : isNext l a c = true) : c = b := by
  obtain ⟨n1, n2, n3⟩ := (isNext_iff l a c).1 hn
  have h1 := (h.2 c hc).1
  have h2 := n2 b hb
  have h3 : tr a b c = 0 := by rw [tr_swap] at h2; omega
  have h4 := (h.2 c hc).2 h3
  have h5 := n3 b hb (by rw [tr_swap, h3]; rfl)
  have := same_vec (v1 := b.1 - a.1) (v2 := b.2 - a.2) (w1 := c.1 - a.1) (w2 := c.2 - a.2)
    (fun e => h.1 (Prod.ext (by omega) (by omega))) (fun e => n1 (Prod.ext (by omega) (by omega))) h3 h4.1 h4.2
    (by unfold dt at h5; grind)
  exact Prod.ext (by omega) (by omega)

theorem find_one {p : Pt → Bool} {b : Pt} : ∀ {l : List Pt}, b ∈ l → p b = true → (∀ c ∈ l, p c = true → c = b) → l.find? p = some b
  | [], h, _, _ => absurd h (by simp)
  | x :: l, h, hb, hu => by
    rw [List.find?_cons]
    cases hx : p x with
    | true => rw [hu x List.mem_cons_self hx]
    | false =>
      have : b ∈ l := by
        rcases List.mem_cons.1 h with e | e
        · rw [← e, hb] at hx; exact absurd hx (by simp)
        · exact e
      exact find_one this hb fun c hc => hu c (List.mem_cons_of_mem _ hc)

theorem next_eq {l : List Pt} {a b : Pt} (h : Edge l a b) (hb : b ∈ l) : Sq68.next l a = some b := by
  rw [next_def]
  exact find_one hb (edge_isNext h) fun c hc hn => next_unique h hb hc hn

theorem edge_unique {l : List Pt} {a b c : Pt} (h : Edge l a b) (h' : Edge l a c) (hb : b ∈ l) (hc : c ∈ l) : c = b :=
  next_unique h hb hc (edge_isNext h')

theorem round_eq {l : List Pt} {s : Pt} (hs : s ∈ l) : ∀ (rest : List Pt) (a : Pt) (f : Nat), Path (Edge l) ((a :: rest) ++ [s]) →
    (∀ x ∈ rest, x ≠ s) → (∀ x ∈ rest, x ∈ l) → rest.length < f → Sq68.round l s f a = a :: rest
  | rest, a, 0 => fun _ _ _ h => absurd h (by omega)
  | [], a, f + 1 => fun h _ _ _ => by
    unfold Sq68.round
    have e : Edge l a s := h.1
    rw [next_eq e hs]
    simp
  | b :: rest, a, f + 1 => fun h hn hm hf => by
    unfold Sq68.round
    have e : Edge l a b := h.1
    rw [next_eq e (hm b List.mem_cons_self)]
    have hbs : b ≠ s := hn b List.mem_cons_self
    simp only [hbs, if_false]
    rw [round_eq hs rest b f h.2 (fun x hx => hn x (List.mem_cons_of_mem _ hx)) (fun x hx => hm x (List.mem_cons_of_mem _ hx)) (by simp at hf; omega)]

theorem nodup_le : ∀ {a b : List Pt}, a.Nodup → (∀ x ∈ a, x ∈ b) → a.length ≤ b.length
  | [], _, _, _ => by simp
  | x :: a, b, hn, hm => by
    have hxb : x ∈ b := hm x List.mem_cons_self
    have hn' := List.nodup_cons.1 hn
    have := nodup_le (a := a) (b := b.erase x) hn'.2 fun y hy => by
      have hyx : y ≠ x := fun e => hn'.1 (e ▸ hy)
      exact (List.mem_erase_of_ne hyx).2 (hm y (List.mem_cons_of_mem _ hy))
    rw [List.length_erase_of_mem hxb] at this
    have : 0 < b.length := List.length_pos_of_mem hxb
    simp; omega

/-! the other half, by turning all by half a turn -/
def neg (p : Pt) : Pt := (-p.1, -p.2)
theorem neg_neg (p : Pt) : neg (neg p) = p := by unfold neg; simp
theorem tr_neg (a b p : Pt) : tr (neg a) (neg b) (neg p) = tr a b p := by unfold tr neg; grind
theorem dt_neg (a b p : Pt) : dt (neg a) (neg b) (neg p) = dt a b p := by unfold dt neg; grind
theorem lx_neg {a b : Pt} : lx (neg a) (neg b) ↔ lx b a := by unfold lx neg; simp only; omega
theorem popW_neg (p : Pt) : ∀ s : List Pt, popW (neg p) (s.map neg) = (popW p s).map neg
  | [] => rfl
  | [_] => rfl
  | b :: a :: r => by
    show popW (neg p) (neg b :: neg a :: r.map neg) = _
    unfold popW
    rw [tr_neg]
    split
    · exact popW_neg p (a :: r)
    · rfl
theorem fold_neg : ∀ (l s : List Pt), (l.map neg).foldl bend (s.map neg) = (l.foldl bend s).map neg
  | [], _ => rfl
  | p :: l, s => by
    rw [List.map_cons, List.foldl_cons, List.foldl_cons, ← fold_neg l (bend s p)]
    congr 1
    show neg p :: popW (neg p) (s.map neg) = (p :: popW p s).map neg
    rw [popW_neg, List.map_cons]
theorem bends_neg (l : List Pt) : bends (l.map neg) = (bends l).map neg := by
  unfold bends
  rw [List.map_reverse, ← fold_neg l []]
  rfl
theorem map_neg_neg (l : List Pt) : (l.map neg).map neg = l := by
  rw [List.map_map]
  have : neg ∘ neg = id := by funext p; exact neg_neg p
  rw [this, List.map_id]
theorem edge_neg {l : List Pt} {a b : Pt} (h : Edge (l.map neg) a b) : Edge l (neg a) (neg b) := by
  refine ⟨fun e => h.1 ?_, fun p hp => ?_⟩
  · rw [← neg_neg a, ← neg_neg b, e]
  · have := h.2 (neg p) (List.mem_map_of_mem hp)
    rw [← tr_neg a b (neg p), ← dt_neg a b (neg p), ← dt_neg a b b, neg_neg] at this
    exact this

/-- the two ways from end to end, without their ends -/
def around (o : List Pt) : List Pt := (bends o).dropLast ++ (bends o.reverse).dropLast

theorem sorted_neg {o : List Pt} (h : Sorted o) : Sorted (o.reverse.map neg) := by
  unfold Sorted
  rw [List.pairwise_map, List.pairwise_reverse]
  exact h.imp fun hab => lx_neg.2 hab

theorem path_sorted {l c : List Pt} (h : Path (Ed l) c) : Sorted c := by
  induction c with
  | nil => exact List.Pairwise.nil
  | cons a r ih =>
    cases r with
    | nil => exact List.pairwise_singleton _ _
    | cons b r =>
      have := ih h.2
      refine List.pairwise_cons.2 ⟨fun x hx => ?_, this⟩
      rcases List.mem_cons.1 hx with e | hx
      · rw [e]; exact h.1.1
      · exact lx_trans h.1.1 ((List.pairwise_cons.1 this).1 x hx)

theorem sorted_nodup {c : List Pt} (h : Sorted c) : c.Nodup := h.imp fun hab => lx_ne hab

/-- of each but the last there is an edge on -/
theorem path_out {E : Pt → Pt → Prop} : ∀ {c : List Pt} {z : Pt}, Path E (c ++ [z]) → ∀ x ∈ c, ∃ y ∈ c ++ [z], E x y
  | [], _, _, _, hx => absurd hx (by simp)
  | [a], z, h, x, hx => by
    have : x = a := by simpa using hx
    subst this
    exact ⟨z, by simp, h.1⟩
  | a :: b :: c, z, h, x, hx => by
    rcases List.mem_cons.1 hx with e | hx
    · subst e
      exact ⟨b, by simp, h.1⟩
    · obtain ⟨y, hy, e⟩ := path_out (c := b :: c) h.2 x hx
      exact ⟨y, List.mem_cons_of_mem _ hy, e⟩

/-- all that is to be known of the cycle -/
structure Cyc (o c : List Pt) : Prop where
  ex : ∃ a r, c = a :: r ∧ r ≠ [] ∧ o.head? = some a ∧ Path (Edge o) ((a :: r) ++ [a])
  nd : c.Nodup
  mem : ∀ x ∈ c, x ∈ o

theorem around_cyc {a : Pt} {r : List Pt} (h : Sorted (a :: r)) (hr : r ≠ []) : Cyc (a :: r) (around (a :: r)) := by
  obtain ⟨c, z, e1, p1, m1, l1⟩ := bends_ok h hr
  -- the reversed one
  obtain ⟨ini, hini⟩ := List.getLast?_eq_some_iff.1 l1
  have hini_ne : ini ≠ [] := by
    intro e
    rw [e] at hini
    simp at hini
    exact hr hini.2
  obtain ⟨i0, irest, rfl⟩ := List.exists_cons_of_ne_nil hini_ne
  have hi0 : i0 = a := by simpa using (List.cons.inj hini).1.symm
  subst hi0
  have hrev : (i0 :: r).reverse = z :: (irest.reverse ++ [i0]) := by rw [hini]; simp
  have hs2 := sorted_neg h
  rw [hrev, List.map_cons] at hs2
  obtain ⟨c2, z2, e2, p2, m2, l2⟩ := bends_ok hs2 (by simp)
  have hz2 : z2 = neg i0 := by
    rw [List.map_append, ← List.cons_append, List.map_cons, List.map_nil, List.getLast?_concat] at l2
    exact (Option.some.inj l2).symm
  subst hz2
  have hup : bends (i0 :: r).reverse = z :: (c2.map neg) ++ [i0] := by
    have : (i0 :: r).reverse = ((i0 :: r).reverse.map neg).map neg := (map_neg_neg _).symm
    rw [this, bends_neg, hrev, List.map_cons, e2]
    simp [neg_neg]
  have hseteq : ∀ x, x ∈ neg z :: List.map neg (irest.reverse ++ [i0]) ↔ x ∈ (i0 :: r).map neg := by
    intro x
    rw [← List.map_cons, ← hrev, List.map_reverse, List.mem_reverse]
  have p2' : Path (Edge (i0 :: r)) (z :: (c2.map neg) ++ [i0]) := by
    have : Path (Edge ((i0 :: r).map neg)) (bends (neg z :: List.map neg (irest.reverse ++ [i0]))) :=
      path_mono (fun a b hab => ⟨(ed_edge hab).1, fun p hp => (ed_edge hab).2 p ((hseteq p).2 hp)⟩) p2
    have := path_map (f := neg) (F := Edge (i0 :: r)) (fun a b hab => edge_neg hab) this
    rw [e2] at this
    simpa [neg_neg] using this
  have p1' : Path (Edge (i0 :: r)) (i0 :: c ++ [z]) := by
    rw [← e1]
    exact path_mono (fun a b hab => ed_edge hab) p1
  have har : around (i0 :: r) = (i0 :: c) ++ (z :: c2.map neg) := by
    unfold around
    rw [e1, hup, List.dropLast_concat, List.dropLast_concat]
  have hpath : Path (Edge (i0 :: r)) ((i0 :: (c ++ z :: c2.map neg)) ++ [i0]) := by
    have := path_join (l := i0 :: c) (m := z) (r := c2.map neg ++ [i0]) p1' p2'
    simpa using this
  have hm2 : ∀ x ∈ z :: c2.map neg, x ∈ i0 :: r := by
    intro x hx
    have : neg x ∈ neg z :: c2 ++ [neg i0] := by
      rcases List.mem_cons.1 hx with e | hx
      · rw [e]; simp
      · obtain ⟨y, hy, e⟩ := List.mem_map.1 hx
        rw [← e, neg_neg]
        simp [hy]
    have := m2 (neg x) (e2 ▸ this)
    have := (hseteq (neg x)).1 this
    obtain ⟨y, hy, e⟩ := List.mem_map.1 this
    rw [← neg_neg x, ← e, neg_neg]
    exact hy
  have hm1 : ∀ x ∈ i0 :: c, x ∈ i0 :: r := fun x hx => m1 x (e1 ▸ List.mem_append_left _ hx)
  have s1 : Sorted (i0 :: c ++ [z]) := e1 ▸ path_sorted p1
  have s2 : Sorted (neg z :: c2 ++ [neg i0]) := e2 ▸ path_sorted p2
  have nd1 : (i0 :: c).Nodup := sorted_nodup (List.pairwise_append.1 s1).1
  have nd2 : (z :: c2.map neg).Nodup := by
    have : ((neg z :: c2).map neg).Nodup := by
      rw [List.Nodup, List.pairwise_map]
      exact ((List.pairwise_append.1 s2).1).imp fun hab => fun e => lx_ne hab (by have := congrArg neg e; rwa [neg_neg, neg_neg] at this)
    simpa [neg_neg] using this
  have disj : ∀ x ∈ i0 :: c, ∀ y ∈ z :: c2.map neg, x ≠ y := by
    intro x hx y hy e
    subst e
    obtain ⟨b1, hb1, E1⟩ := path_out (e1 ▸ p1) x hx
    have hx' : neg x ∈ neg z :: c2 := by
      rcases List.mem_cons.1 hy with e | hy
      · rw [e]; simp
      · obtain ⟨y, hy, e⟩ := List.mem_map.1 hy
        rw [← e, neg_neg]
        simp [hy]
    obtain ⟨b2, hb2, E2⟩ := path_out (e2 ▸ p2) (neg x) hx'
    have hb1m : b1 ∈ i0 :: r := m1 b1 (e1 ▸ hb1)
    have E2' : Edge (i0 :: r) x (neg b2) := by
      have : Edge ((i0 :: r).map neg) (neg x) b2 := ⟨(ed_edge E2).1, fun p hp => (ed_edge E2).2 p ((hseteq p).2 hp)⟩
      have := edge_neg this
      rwa [neg_neg] at this
    have hb2m : neg b2 ∈ i0 :: r := by
      have := (hseteq b2).1 (m2 b2 (e2 ▸ hb2))
      obtain ⟨y, hy, e⟩ := List.mem_map.1 this
      rw [← e, neg_neg]; exact hy
    have := edge_unique (ed_edge E1) E2' hb1m hb2m
    have l1 : lx x b1 := E1.1
    have l2 : lx (neg x) b2 := E2.1
    rw [← neg_neg b2, lx_neg, this] at l2
    exact lx_asymm l1 l2
  refine ⟨⟨i0, c ++ z :: c2.map neg, by rw [har]; simp, by simp, rfl, hpath⟩, ?_, ?_⟩
  · rw [har, List.nodup_append]
    exact ⟨nd1, nd2, disj⟩
  · rw [har]
    intro x hx
    rcases List.mem_append.1 hx with hx | hx
    · exact hm1 x hx
    · exact hm2 x hx

/-- a cycle of such edges is what goes round gives -/
theorem round_cyc {a : Pt} {r c : List Pt} (h : Cyc (a :: r) c) : Sq68.round (a :: r) a (r.length + 1) a = c := by
  obtain ⟨b, s, e, _, hb, hp⟩ := h.ex
  have : b = a := by simpa using hb.symm
  subst this
  have hn := h.nd
  rw [e] at hn ⊢
  have hm : ∀ x ∈ b :: s, x ∈ b :: r := fun x hx => h.mem x (e ▸ hx)
  have hlen := nodup_le hn hm
  refine round_eq List.mem_cons_self s b _ hp ?_ (fun x hx => hm x (List.mem_cons_of_mem _ hx)) (by simp at hlen ⊢; omega)
  intro x hx ex
  exact (List.nodup_cons.1 hn).1 (ex ▸ hx)
end Pg
end

section
namespace Pg
theorem before_iff (a b : Pt) : Sq68.before a b = true ↔ lx a b := by
  unfold Sq68.before lx
  simp

theorem mem_put (x y : Pt) : ∀ l : List Pt, y ∈ Sq68.put x l ↔ y = x ∨ y ∈ l
  | [] => by simp [Sq68.put]
  | z :: l => by
    unfold Sq68.put
    split
    · rename_i h; subst h; simp
    · split
      · simp
      · simp only [List.mem_cons, mem_put x y l]
        constructor
        · rintro (h | h | h) <;> simp [h]
        · rintro (h | h | h) <;> simp [h]

theorem put_sorted (x : Pt) : ∀ l : List Pt, Sorted l → Sorted (Sq68.put x l)
  | [], _ => List.pairwise_singleton _ _
  | z :: l, h => by
    unfold Sq68.put
    have hz := List.pairwise_cons.1 h
    split
    · exact h
    · rename_i hne
      split
      · rename_i hb
        refine List.pairwise_cons.2 ⟨fun y hy => ?_, h⟩
        have hxz := (before_iff x z).1 hb
        rcases List.mem_cons.1 hy with e | hy
        · rw [e]; exact hxz
        · exact lx_trans hxz (hz.1 y hy)
      · rename_i hb
        refine List.pairwise_cons.2 ⟨fun y hy => ?_, put_sorted x l hz.2⟩
        rcases (mem_put x y l).1 hy with e | hy
        · rw [e]
          rcases lx_tri z x with h | h | h
          · exact h
          · exact absurd h.symm hne
          · exact absurd ((before_iff x z).2 h) hb
        · exact hz.1 y hy

theorem fold_put : ∀ (l s : List Pt), Sorted s → Sorted (l.foldl (fun s p => Sq68.put p s) s) ∧
    ∀ y, y ∈ l.foldl (fun s p => Sq68.put p s) s ↔ y ∈ l ∨ y ∈ s
  | [], s, h => ⟨h, fun y => by simp⟩
  | p :: l, s, h => by
    have := fold_put l (Sq68.put p s) (put_sorted p s h)
    refine ⟨this.1, fun y => ?_⟩
    rw [List.foldl_cons, this.2 y, mem_put]
    simp only [List.mem_cons]
    constructor
    · rintro (h | h | h) <;> simp [h]
    · rintro ((h | h) | h) <;> simp [h]

theorem inOrder_sorted (l : List Pt) : Sorted (Sq68.inOrder l) := (fold_put l [] List.Pairwise.nil).1
theorem mem_inOrder (l : List Pt) (y : Pt) : y ∈ Sq68.inOrder l ↔ y ∈ l := by
  have := (fold_put l [] List.Pairwise.nil).2 y
  simpa [Sq68.inOrder] using this

theorem sorted_unique : ∀ {a b : List Pt}, Sorted a → Sorted b → (∀ x, x ∈ a ↔ x ∈ b) → a = b
  | [], [], _, _, _ => rfl
  | [], y :: b, _, _, h => absurd ((h y).2 List.mem_cons_self) (by simp)
  | x :: a, [], _, _, h => absurd ((h x).1 List.mem_cons_self) (by simp)
  | x :: a, y :: b, ha, hb, h => by
    have ha' := List.pairwise_cons.1 ha
    have hb' := List.pairwise_cons.1 hb
    have e : x = y := by
      rcases List.mem_cons.1 ((h x).1 List.mem_cons_self) with e | hx
      · exact e
      · rcases List.mem_cons.1 ((h y).2 List.mem_cons_self) with e | hy
        · exact e.symm
        · exact absurd (hb'.1 x hx) (lx_asymm (ha'.1 y hy))
    subst e
    congr 1
    refine sorted_unique ha'.2 hb'.2 fun z => ?_
    have hz := h z
    simp only [List.mem_cons] at hz
    constructor
    · intro hza
      rcases hz.1 (.inr hza) with e | hzb
      · exact absurd (e ▸ ha'.1 z hza) (lx_irrefl _)
      · exact hzb
    · intro hzb
      rcases hz.2 (.inr hzb) with e | hza
      · exact absurd (e ▸ hb'.1 z hzb) (lx_irrefl _)
      · exact hza

theorem inOrder_of {l o : List Pt} (h : Sorted o) (hm : ∀ x, x ∈ o ↔ x ∈ l) : Sq68.inOrder l = o :=
  sorted_unique (inOrder_sorted l) h fun x => by rw [mem_inOrder, hm]

theorem corners_set {l m : List Pt} (h : ∀ x, x ∈ l ↔ x ∈ m) : Sq68.corners l = Sq68.corners m := by
  have : Sq68.inOrder l = Sq68.inOrder m := inOrder_of (inOrder_sorted m) fun x => by rw [mem_inOrder, h]
  unfold Sq68.corners
  rw [this]

/-- the corners of what is no single place are such a cycle, and the two half ways give it -/
theorem corners_cyc {l : List Pt} (h : 2 ≤ (Sq68.inOrder l).length) :
    Cyc (Sq68.inOrder l) (Sq68.corners l) ∧ around (Sq68.inOrder l) = Sq68.corners l := by
  have hs := inOrder_sorted l
  unfold Sq68.corners
  revert h hs
  generalize Sq68.inOrder l = o
  intro h hs
  match o, h, hs with
  | a :: r, h, hs =>
    have hr : r ≠ [] := by intro e; subst e; simp at h
    have c := around_cyc hs hr
    have e := round_cyc c
    show Cyc (a :: r) (Sq68.round (a :: r) a (r.length + 1) a) ∧ _ = Sq68.round (a :: r) a (r.length + 1) a
    rw [e]
    exact ⟨c, rfl⟩

theorem corners_of_cyc {l c : List Pt} (h : Cyc (Sq68.inOrder l) c) : Sq68.corners l = c := by
  unfold Sq68.corners
  revert h
  generalize Sq68.inOrder l = o
  intro h
  match o, h with
  | [], h => obtain ⟨a, r, _, _, e, _⟩ := h.ex; simp at e
  | a :: r, h => exact round_cyc h

/-! Twice the area. -/
def pathSum : List Pt → Int
  | a :: b :: r => Sq68.cross a b + pathSum (b :: r)
  | [_] => 0
  | [] => 0
def trSum (o : Pt) : List Pt → Int
  | a :: b :: r => tr a b o + trSum o (b :: r)
  | [_] => 0
  | [] => 0

theorem zip_sum (s : Pt) : ∀ (l : List Pt) (p : Pt), ((((p :: l).zip (l ++ [s])).map fun e => Sq68.cross e.1 e.2)).sum = pathSum ((p :: l) ++ [s])
  | [], p => by simp [pathSum]
  | q :: l, p => by
    have := zip_sum s l q
    rw [List.cons_append, List.zip_cons_cons, List.map_cons, List.sum_cons, this]
    rfl

theorem twice_path (a : Pt) (r : List Pt) : Sq68.twice (a :: r) = pathSum ((a :: r) ++ [a]) := zip_sum a r a

theorem trSum_path (o : Pt) : ∀ (r : List Pt) (a z : Pt), trSum o ((a :: r) ++ [z]) = pathSum ((a :: r) ++ [z]) + Sq68.cross z o - Sq68.cross a o
  | [], a, z => by
    simp only [List.cons_append, List.nil_append, trSum, pathSum]
    unfold tr Sq68.cross
    grind
  | b :: r, a, z => by
    have := trSum_path o r b z
    simp only [List.cons_append, trSum, pathSum] at this ⊢
    rw [this]
    unfold tr Sq68.cross
    grind

theorem twice_tr (o a : Pt) (r : List Pt) : Sq68.twice (a :: r) = trSum o ((a :: r) ++ [a]) := by
  rw [twice_path, trSum_path]
  omega

theorem trSum_nonneg {l : List Pt} {o : Pt} (ho : o ∈ l) : ∀ {c : List Pt}, Path (Edge l) c → 0 ≤ trSum o c
  | [], _ => by simp [trSum]
  | [_], _ => by simp [trSum]
  | a :: b :: r, h => by
    have := trSum_nonneg ho h.2
    have := (h.1.2 o ho).1
    simp only [trSum]
    omega

/-- two edges one behind the other bend -/
theorem bend_pos {l : List Pt} {a b c : Pt} (h1 : Edge l a b) (h2 : Edge l b c) (ha : a ∈ l) (hc : c ∈ l) (hac : a ≠ c) : 0 < tr a b c := by
  refine Int.lt_iff_le_and_ne.2 ⟨(h1.2 c hc).1, fun e => ?_⟩
  have k1 := (h1.2 c hc).2 e.symm
  have e2 : tr b c a = 0 := by rw [tr_cyc]; exact e.symm
  have k2 := (h2.2 a ha).2 e2
  have := same_vec (v1 := b.1 - a.1) (v2 := b.2 - a.2) (w1 := c.1 - a.1) (w2 := c.2 - a.2)
    (fun e => h1.1 (Prod.ext (by omega) (by omega))) (fun e => hac (Prod.ext (by omega) (by omega))) e.symm k1.1 k1.2
    (by have := k2.2; unfold dt at this; grind)
  exact h2.1 (Prod.ext (by omega) (by omega))

theorem twice_pos {o c : List Pt} (h : Cyc o c) (h3 : 3 ≤ c.length) : 0 < Sq68.twice c := by
  obtain ⟨a, r, e, _, _, hp⟩ := h.ex
  subst e
  match r, h3, hp, h with
  | b :: d :: r, _, hp, h =>
    have ha := h.mem a (by simp)
    have hd := h.mem d (by simp)
    have hnd := h.nd
    have had : a ≠ d := by
      intro e
      subst e
      simp at hnd
    have hb := bend_pos hp.1 hp.2.1 ha hd had
    rw [twice_tr a]
    show 0 < tr a b a + (tr b d a + trSum a (d :: (r ++ [a])))
    have t0 : tr a b a = 0 := tr_self1 a b
    have t1 : tr b d a = tr a b d := tr_cyc a b d
    have : 0 ≤ trSum a (d :: (r ++ [a])) := trSum_nonneg ha hp.2.2
    omega

theorem twice_small {c : List Pt} (h : c.length < 3) : Sq68.twice c = 0 := by
  match c, h with
  | [], _ => rfl
  | [a], _ => rw [twice_path]; simp only [List.cons_append, List.nil_append, pathSum]; unfold Sq68.cross; grind
  | [a, b], _ => rw [twice_path]; simp only [List.cons_append, List.nil_append, pathSum]; unfold Sq68.cross; grind

theorem round_len1 (a : Pt) : Sq68.corners [a] = [a] := by
  have hi : Sq68.inOrder [a] = [a] := rfl
  unfold Sq68.corners
  rw [hi]
  show Sq68.round [a] a 1 a = [a]
  unfold Sq68.round
  have : Sq68.next [a] a = none := by
    rw [next_def, List.find?_cons]
    have : isNext [a] a a = false := by
      unfold isNext; simp
    rw [this]; rfl
  rw [this]

theorem around_short {o : List Pt} (h : o.length < 2) : around o = [] := by
  match o, h with
  | [], _ => rfl
  | [a], _ => rfl

theorem corners_short {l : List Pt} (h : (Sq68.inOrder l).length < 2) : (Sq68.corners l).length < 2 := by
  revert h
  unfold Sq68.corners
  generalize hq : Sq68.inOrder l = o
  intro h
  match o, h with
  | [], _ => simp
  | [a], _ =>
    have := round_len1 a
    unfold Sq68.corners at this
    have hi : Sq68.inOrder [a] = [a] := rfl
    rw [hi] at this
    rw [this]; simp

/-- what the program asks (fewer than three corners) is what the specification asks (no area) -/
theorem around_flat (l : List Pt) : (around (Sq68.inOrder l)).length < 3 ↔ Sq68.twice (Sq68.corners l) = 0 := by
  by_cases h : 2 ≤ (Sq68.inOrder l).length
  · obtain ⟨c, e⟩ := corners_cyc h
    rw [e]
    constructor
    · exact twice_small
    · intro ht
      refine Nat.not_le.1 fun h3 => ?_
      have := twice_pos c h3
      omega
  · have h' : (Sq68.inOrder l).length < 2 := by omega
    rw [around_short h', twice_small (Nat.lt_succ_of_lt (corners_short h'))]
    simp
theorem around_eq {l : List Pt} (h : 3 ≤ (around (Sq68.inOrder l)).length) : around (Sq68.inOrder l) = Sq68.corners l := by
  by_cases h2 : 2 ≤ (Sq68.inOrder l).length
  · exact (corners_cyc h2).2
  · rw [around_short (by omega)] at h
    simp at h

/-! Larger, by a number above 0. -/
def big (k : Int) (p : Pt) : Pt := (p.1 * k, p.2 * k)
theorem tr_big (k : Int) (a b p : Pt) : tr (big k a) (big k b) (big k p) = tr a b p * (k * k) := by unfold tr big; grind
theorem dt_big (k : Int) (a b p : Pt) : dt (big k a) (big k b) (big k p) = dt a b p * (k * k) := by unfold dt big; grind
theorem mul_lt_iff {k : Int} (hk : 0 < k) (a b : Int) : a * k < b * k ↔ a < b :=
  ⟨fun h => Int.lt_of_mul_lt_mul_right h (Int.le_of_lt hk), fun h => Int.mul_lt_mul_of_pos_right h hk⟩
theorem mul_eq_iff {k : Int} (hk : 0 < k) (a b : Int) : a * k = b * k ↔ a = b :=
  ⟨fun h => Int.eq_of_mul_eq_mul_right (by omega) h, fun h => by rw [h]⟩
theorem lx_big {k : Int} (hk : 0 < k) {a b : Pt} : lx (big k a) (big k b) ↔ lx a b := by
  unfold lx big
  simp only [mul_lt_iff hk, mul_eq_iff hk]
theorem big_inj {k : Int} (hk : 0 < k) {a b : Pt} (h : big k a = big k b) : a = b := by
  have h1 := congrArg Prod.fst h
  have h2 := congrArg Prod.snd h
  exact Prod.ext ((mul_eq_iff hk _ _).1 h1) ((mul_eq_iff hk _ _).1 h2)
theorem edge_big {k : Int} (hk : 0 < k) {l : List Pt} {a b : Pt} (h : Edge l a b) : Edge (l.map (big k)) (big k a) (big k b) := by
  have hkk : 0 < k * k := Int.mul_pos hk hk
  refine ⟨fun e => h.1 (big_inj hk e), fun p hp => ?_⟩
  obtain ⟨q, hq, e⟩ := List.mem_map.1 hp
  subst e
  rw [tr_big, dt_big, dt_big]
  have := h.2 q hq
  refine ⟨Int.mul_nonneg this.1 (Int.le_of_lt hkk), fun e => ?_⟩
  have e' : tr a b q = 0 := by
    rcases Int.mul_eq_zero.1 e with h | h
    · exact h
    · omega
  have := this.2 e'
  exact ⟨Int.mul_nonneg this.1 (Int.le_of_lt hkk), Int.mul_le_mul_of_nonneg_right this.2 (Int.le_of_lt hkk)⟩

theorem inOrder_big {k : Int} (hk : 0 < k) (l : List Pt) : Sq68.inOrder (l.map (big k)) = (Sq68.inOrder l).map (big k) := by
  refine inOrder_of ?_ fun x => ?_
  · unfold Sorted
    rw [List.pairwise_map]
    exact (inOrder_sorted l).imp fun h => (lx_big hk).2 h
  · simp only [List.mem_map, mem_inOrder]

theorem cyc_map {f : Pt → Pt} {o c : List Pt} (hf : ∀ a b, f a = f b → a = b) (he : ∀ a b, Edge o a b → Edge (o.map f) (f a) (f b)) (h : Cyc o c) :
    Cyc (o.map f) (c.map f) := by
  obtain ⟨a, r, e, hr, hh, hp⟩ := h.ex
  refine ⟨⟨f a, r.map f, by rw [e]; rfl, by simpa using hr, by rw [List.head?_map, hh]; rfl, ?_⟩, ?_, ?_⟩
  · have := path_map (f := f) (F := Edge (o.map f)) he hp
    simpa using this
  · rw [List.Nodup, List.pairwise_map]
    exact h.nd.imp fun hab e => hab (hf _ _ e)
  · intro x hx
    obtain ⟨y, hy, e⟩ := List.mem_map.1 hx
    exact e ▸ List.mem_map_of_mem (h.mem y hy)

theorem corners_big {k : Int} (hk : 0 < k) (l : List Pt) : Sq68.corners (l.map (big k)) = (Sq68.corners l).map (big k) := by
  by_cases h : 2 ≤ (Sq68.inOrder l).length
  · apply corners_of_cyc
    rw [inOrder_big hk]
    exact cyc_map (fun a b e => big_inj hk e) (fun a b e => edge_big hk e) (corners_cyc h).1
  · have : ∃ o, Sq68.inOrder l = o ∧ o.length < 2 := ⟨_, rfl, by omega⟩
    obtain ⟨o, ho, hl⟩ := this
    have hb := inOrder_big hk l
    rw [ho] at hb
    match o, hl with
    | [], _ =>
      unfold Sq68.corners
      rw [hb, ho]; rfl
    | [a], _ =>
      have e1 : Sq68.corners l = Sq68.corners [a] := by
        unfold Sq68.corners
        rw [ho]; rfl
      have e2 : Sq68.corners (l.map (big k)) = Sq68.corners [big k a] := by
        unfold Sq68.corners
        rw [hb]; rfl
      rw [e1, e2, round_len1, round_len1]; rfl
end Pg
end

section
namespace Pg
open Sq71 (Frac Place Polygon)
/-- the common divisor of all numbers of some places -/
def gAll (c : List Pt) : Nat := c.foldl (fun g p => Nat.gcd g (Nat.gcd p.1.natAbs p.2.natAbs)) 0
/-- in no more parts than needed -/
def red (D : Nat) (c : List Pt) : Polygon :=
  ⟨D / Nat.gcd D (gAll c), c.map fun p => (p.1 / (Nat.gcd D (gAll c) : Nat), p.2 / (Nat.gcd D (gAll c) : Nat))⟩

theorem gfold_mul (k : Nat) : ∀ (c : List Pt) (g : Nat),
    (c.map (big k)).foldl (fun g p => Nat.gcd g (Nat.gcd p.1.natAbs p.2.natAbs)) (g * k) = c.foldl (fun g p => Nat.gcd g (Nat.gcd p.1.natAbs p.2.natAbs)) g * k
  | [], g => rfl
  | p :: c, g => by
    rw [List.map_cons, List.foldl_cons, List.foldl_cons, ← gfold_mul k c]
    congr 1
    unfold big
    simp only [Int.natAbs_mul, Int.natAbs_natCast]
    rw [Nat.gcd_mul_right, Nat.gcd_mul_right]

theorem gAll_big (k : Nat) (c : List Pt) : gAll (c.map (big k)) = gAll c * k := by
  have := gfold_mul k c 0
  rw [Nat.zero_mul] at this
  exact this

theorem gcd_pos_left {D g : Nat} (h : 0 < D) : 0 < Nat.gcd D g := Nat.gcd_pos_of_pos_left _ h

theorem red_big {D k : Nat} (hD : 0 < D) (hk : 0 < k) (c : List Pt) : red (D * k) (c.map (big k)) = red D c := by
  unfold red
  rw [gAll_big, Nat.gcd_mul_right]
  have hg := gcd_pos_left (g := gAll c) hD
  congr 1
  · exact Nat.mul_div_mul_right _ _ hk
  · rw [List.map_map]
    apply List.map_congr_left
    intro p _
    simp only [Function.comp, big, Int.natCast_mul]
    have hk' : (0 : Int) < (k : Int) := by omega
    rw [Int.mul_ediv_mul_of_pos_left _ _ hk', Int.mul_ediv_mul_of_pos_left _ _ hk']

/-- Two ways to tell the same places. -/
theorem red_same {s t : Nat} (hs : 0 < s) (ht : 0 < t) {P L : List Pt} (h : ∀ x, x ∈ P.map (big t) ↔ x ∈ L.map (big s)) :
    red s (Sq68.corners P) = red t (Sq68.corners L) := by
  have e : (Sq68.corners P).map (big t) = (Sq68.corners L).map (big s) := by
    rw [← corners_big (by omega), ← corners_big (by omega)]
    exact corners_set h
  rw [← red_big hs ht, ← red_big ht hs, e, Nat.mul_comm]

theorem lcmAll_dvd : ∀ (l : List Nat) (a : Nat), a ∣ l.foldl Nat.lcm a ∧ ∀ x ∈ l, x ∣ l.foldl Nat.lcm a
  | [], a => ⟨Nat.dvd_refl _, by simp⟩
  | y :: l, a => by
    have h := lcmAll_dvd l (Nat.lcm a y)
    rw [List.foldl_cons]
    refine ⟨Nat.dvd_trans (Nat.dvd_lcm_left a y) h.1, fun x hx => ?_⟩
    rcases List.mem_cons.1 hx with e | hx
    · rw [e]; exact Nat.dvd_trans (Nat.dvd_lcm_right a y) h.1
    · exact h.2 x hx
theorem lcmAll_pos : ∀ (l : List Nat) (a : Nat), 0 < a → (∀ x ∈ l, 0 < x) → 0 < l.foldl Nat.lcm a
  | [], a, h, _ => h
  | y :: l, a, h, hl => lcmAll_pos l (Nat.lcm a y) (Nat.lcm_pos h (hl y (by simp))) fun x hx => hl x (by simp [hx])

/-- a fraction is a number told times s -/
def Is (s : Nat) (f : Frac) (n : Int) : Prop := 0 < f.d ∧ f.n * (s : Int) = n * (f.d : Int)
/-- places are these, told times s -/
structure Tells (s : Nat) (ps : List Place) (P : List Pt) : Prop where
  to : ∀ p ∈ ps, ∃ q ∈ P, Is s p.1 q.1 ∧ Is s p.2 q.2
  back : ∀ q ∈ P, ∃ p ∈ ps, Is s p.1 q.1 ∧ Is s p.2 q.2

theorem polygon_eq {s : Nat} (hs : 0 < s) {ps : List Place} {P : List Pt} (h : Tells s ps P) :
    Sq71.polygon ps = red s (Sq68.corners P) := by
  have hD : 0 < Sq71.lcmAll (ps.flatMap fun p => [p.1.d, p.2.d]) := by
    apply lcmAll_pos _ _ (by omega)
    intro x hx
    obtain ⟨p, hp, hx⟩ := List.mem_flatMap.1 hx
    obtain ⟨q, _, h1, h2⟩ := h.to p hp
    simp only [List.mem_cons, List.not_mem_nil, or_false] at hx
    rcases hx with e | e
    · rw [e]; exact h1.1
    · rw [e]; exact h2.1
  have hd : ∀ p ∈ ps, p.1.d ∣ Sq71.lcmAll (ps.flatMap fun p => [p.1.d, p.2.d]) ∧ p.2.d ∣ Sq71.lcmAll (ps.flatMap fun p => [p.1.d, p.2.d]) := by
    intro p hp
    have := (lcmAll_dvd (ps.flatMap fun p => [p.1.d, p.2.d]) 1).2
    exact ⟨this _ (List.mem_flatMap.2 ⟨p, hp, by simp⟩), this _ (List.mem_flatMap.2 ⟨p, hp, by simp⟩)⟩
  show red (Sq71.lcmAll (ps.flatMap fun p => [p.1.d, p.2.d])) (Sq68.corners (ps.map fun p =>
    ((p.1.n * ((Sq71.lcmAll (ps.flatMap fun p => [p.1.d, p.2.d]) / p.1.d : Nat) : Int), p.2.n * ((Sq71.lcmAll (ps.flatMap fun p => [p.1.d, p.2.d]) / p.2.d : Nat) : Int)) : Pt))) = _
  revert hD hd
  generalize Sq71.lcmAll (ps.flatMap fun p => [p.1.d, p.2.d]) = D
  intro hD hd
  have up : ∀ (f : Frac) (n : Int), Is s f n → f.d ∣ D → f.n * ((D / f.d : Nat) : Int) * (s : Int) = n * (D : Int) := by
    intro f n hf hdv
    obtain ⟨m, hm⟩ := hdv
    have : D / f.d = m := by rw [hm]; exact Nat.mul_div_cancel_left _ hf.1
    rw [this, hm, Int.natCast_mul]
    have := hf.2
    grind
  refine red_same hD hs fun x => ?_
  simp only [List.mem_map]
  constructor
  · rintro ⟨y, ⟨p, hp, rfl⟩, rfl⟩
    obtain ⟨q, hq, h1, h2⟩ := h.to p hp
    refine ⟨q, hq, ?_⟩
    unfold big
    exact Prod.ext (up _ _ h1 (hd p hp).1).symm (up _ _ h2 (hd p hp).2).symm
  · rintro ⟨q, hq, rfl⟩
    obtain ⟨p, hp, h1, h2⟩ := h.back q hq
    refine ⟨_, ⟨p, hp, rfl⟩, ?_⟩
    unfold big
    exact Prod.ext (up _ _ h1 (hd p hp).1) (up _ _ h2 (hd p hp).2)

/-! What is known of a polygon in no more parts than needed. -/
theorem gAll_dvd : ∀ (c : List Pt) (g : Nat), (c.foldl (fun g p => Nat.gcd g (Nat.gcd p.1.natAbs p.2.natAbs)) g) ∣ g ∧
    ∀ p ∈ c, (c.foldl (fun g p => Nat.gcd g (Nat.gcd p.1.natAbs p.2.natAbs)) g) ∣ p.1.natAbs ∧ (c.foldl (fun g p => Nat.gcd g (Nat.gcd p.1.natAbs p.2.natAbs)) g) ∣ p.2.natAbs
  | [], g => ⟨Nat.dvd_refl _, by simp⟩
  | q :: c, g => by
    have h := gAll_dvd c (Nat.gcd g (Nat.gcd q.1.natAbs q.2.natAbs))
    rw [List.foldl_cons]
    refine ⟨Nat.dvd_trans h.1 (Nat.gcd_dvd_left _ _), fun p hp => ?_⟩
    rcases List.mem_cons.1 hp with e | hp
    · rw [e]
      have := Nat.dvd_trans h.1 (Nat.gcd_dvd_right _ _)
      exact ⟨Nat.dvd_trans this (Nat.gcd_dvd_left _ _), Nat.dvd_trans this (Nat.gcd_dvd_right _ _)⟩
    · exact h.2 p hp

theorem red_big_back {D : Nat} (hD : 0 < D) (c : List Pt) :
    (red D c).cs.map (big (Nat.gcd D (gAll c) : Nat)) = c ∧ (red D c).D * Nat.gcd D (gAll c) = D ∧ 0 < (red D c).D := by
  have hg := gcd_pos_left (g := gAll c) hD
  have hdv : Nat.gcd D (gAll c) ∣ D := Nat.gcd_dvd_left _ _
  refine ⟨?_, Nat.div_mul_cancel hdv, Nat.div_pos (Nat.le_of_dvd hD hdv) hg⟩
  show (c.map _).map _ = c
  rw [List.map_map]
  have : ∀ p ∈ c, ((big (Nat.gcd D (gAll c) : Nat)) ∘ fun p : Pt => ((p.1 / (Nat.gcd D (gAll c) : Nat), p.2 / (Nat.gcd D (gAll c) : Nat)) : Pt)) p = id p := by
    intro p hp
    have h := (gAll_dvd c 0).2 p hp
    have hd := Nat.gcd_dvd_right D (gAll c)
    have h1 : ((Nat.gcd D (gAll c) : Nat) : Int) ∣ p.1 := Int.ofNat_dvd_left.2 (Nat.dvd_trans hd h.1)
    have h2 : ((Nat.gcd D (gAll c) : Nat) : Int) ∣ p.2 := Int.ofNat_dvd_left.2 (Nat.dvd_trans hd h.2)
    exact Prod.ext (Int.ediv_mul_cancel h1) (Int.ediv_mul_cancel h2)
  rw [List.map_congr_left this, List.map_id]

theorem pathSum_big (k : Int) : ∀ c : List Pt, pathSum (c.map (big k)) = pathSum c * (k * k)
  | [] => by simp [pathSum]
  | [_] => by simp [pathSum]
  | a :: b :: r => by
    have := pathSum_big k (b :: r)
    simp only [List.map_cons, pathSum] at this ⊢
    rw [this]
    unfold Sq68.cross big
    grind
theorem twice_big (k : Int) (c : List Pt) : Sq68.twice (c.map (big k)) = Sq68.twice c * (k * k) := by
  cases c with
  | nil => simp [Sq68.twice, Sq68.edges]
  | cons a r =>
    rw [List.map_cons, twice_path, twice_path, ← pathSum_big]
    simp

/-- no area: as told, or in no more parts than needed -/
theorem twice_red {D : Nat} (hD : 0 < D) (c : List Pt) : Sq68.twice (red D c).cs = 0 ↔ Sq68.twice c = 0 := by
  have h := (red_big_back hD c).1
  have hg : (0 : Int) < (Nat.gcd D (gAll c) : Nat) := by have := gcd_pos_left (g := gAll c) hD; omega
  have e : Sq68.twice c = Sq68.twice (red D c).cs * (((Nat.gcd D (gAll c) : Nat) : Int) * (Nat.gcd D (gAll c) : Nat)) := by
    rw [← twice_big, h]
  rw [e]
  constructor
  · intro h0; rw [h0]; simp
  · intro h0
    rcases Int.mul_eq_zero.1 h0 with h | h
    · exact h
    · have := Int.mul_pos hg hg; omega

theorem red_length (D : Nat) (c : List Pt) : (red D c).cs.length = c.length := by simp [red]

/-- the program's way to the common divisor: beginning with the scale -/
theorem spare_eq : ∀ (c : List Pt) (D g : Nat),
    c.foldl (fun g p => Nat.gcd g (Nat.gcd p.1.natAbs p.2.natAbs)) (Nat.gcd D g) = Nat.gcd D (c.foldl (fun g p => Nat.gcd g (Nat.gcd p.1.natAbs p.2.natAbs)) g)
  | [], D, g => rfl
  | p :: c, D, g => by
    rw [List.foldl_cons, List.foldl_cons, ← spare_eq c D, Nat.gcd_assoc]
theorem spare_all (c : List Pt) (D : Nat) : c.foldl (fun g p => Nat.gcd g (Nat.gcd p.1.natAbs p.2.natAbs)) D = Nat.gcd D (gAll c) := by
  have := spare_eq c D 0
  rwa [Nat.gcd_zero_right] at this

/-! Fractions. -/
theorem frac_is {d : Nat} (hd : 0 < d) (n : Int) : 0 < (Sq71.frac n d).d ∧ (Sq71.frac n d).n * (d : Int) = n * ((Sq71.frac n d).d : Int) := by
  unfold Sq71.frac
  split
  · rename_i h; subst h; simp
  · have hg : 0 < Nat.gcd n.natAbs d := Nat.gcd_pos_of_pos_right _ hd
    have h1 : Nat.gcd n.natAbs d ∣ d := Nat.gcd_dvd_right _ _
    have h2 : Nat.gcd n.natAbs d ∣ n.natAbs := Nat.gcd_dvd_left _ _
    refine ⟨Nat.div_pos (Nat.le_of_dvd hd h1) hg, ?_⟩
    show n / (Nat.gcd n.natAbs d : Nat) * (d : Int) = n * ((d / Nat.gcd n.natAbs d : Nat) : Int)
    obtain ⟨m, hm⟩ := Int.ofNat_dvd_left.2 h2
    obtain ⟨e, he⟩ := h1
    have hd' : d / Nat.gcd n.natAbs d = e := by
      conv => lhs; lhs; rw [he]
      exact Nat.mul_div_cancel_left _ hg
    have hn' : n / (Nat.gcd n.natAbs d : Nat) = m := by
      conv => lhs; lhs; rw [hm]
      exact Int.mul_ediv_cancel_left _ (by omega)
    rw [hd', hn']
    generalize Nat.gcd n.natAbs d = g at *
    subst he
    rw [hm, Int.natCast_mul]
    grind
theorem is_frac {s : Nat} (hs : 0 < s) (n : Int) : Is s (Sq71.frac n s) n := frac_is hs n

/-- begin: the places handed in, told times q -/
theorem polygon_begin {q : Nat} (hq : 0 < q) (l : List Pt) :
    Sq71.polygon (l.map fun c => (Sq71.frac c.1 q, Sq71.frac c.2 q)) = red q (Sq68.corners l) := by
  apply polygon_eq hq
  constructor
  · intro p hp
    obtain ⟨c, hc, e⟩ := List.mem_map.1 hp
    subst e
    exact ⟨c, hc, is_frac hq _, is_frac hq _⟩
  · intro c hc
    exact ⟨_, List.mem_map_of_mem hc, is_frac hq _, is_frac hq _⟩
end Pg
end

section
namespace Pg
open Sq71 (Frac Place Polygon)
def val (f : Frac) : Rat := (f.n : Rat) / ((f.d : Nat) : Rat)
def Ok (f : Frac) : Prop := 0 < f.d

theorem natCast_ne {d : Nat} (h : 0 < d) : ((d : Nat) : Rat) ≠ 0 := by
  intro e
  have : d = 0 := by exact_mod_cast e
  omega
theorem natCast_pos' {d : Nat} (h : 0 < d) : (0 : Rat) < ((d : Nat) : Rat) := by exact_mod_cast h

theorem ok_frac {n : Int} {d : Nat} (hd : 0 < d) : Ok (Sq71.frac n d) := (frac_is hd n).1
theorem val_frac {n : Int} {d : Nat} (hd : 0 < d) : val (Sq71.frac n d) = (n : Rat) / (d : Rat) := by
  have h := frac_is hd n
  have h1 := natCast_ne hd
  have h2 := natCast_ne h.1
  have h3 : ((Sq71.frac n d).n : Rat) * ((d : Nat) : Rat) = (n : Rat) * (((Sq71.frac n d).d : Nat) : Rat) := by exact_mod_cast h.2
  unfold val
  grind
theorem val_whole (n : Int) : val (Sq71.whole n) = (n : Rat) := by
  show (n : Rat) / ((1 : Nat) : Rat) = n
  have : ((1 : Nat) : Rat) = 1 := rfl
  rw [this]; grind
theorem ok_whole (n : Int) : Ok (Sq71.whole n) := Nat.one_pos
theorem ok_add {a b : Frac} (ha : Ok a) (hb : Ok b) : Ok (a.add b) := ok_frac (Nat.mul_pos ha hb)
theorem ok_sub {a b : Frac} (ha : Ok a) (hb : Ok b) : Ok (a.sub b) := ok_frac (Nat.mul_pos ha hb)
theorem ok_mul {a b : Frac} (ha : Ok a) (hb : Ok b) : Ok (a.mul b) := ok_frac (Nat.mul_pos ha hb)
theorem ok_div {a b : Frac} (ha : Ok a) (hb : b.n ≠ 0) : Ok (a.div b) := by
  unfold Frac.div
  have : 0 < b.n.natAbs := by omega
  split <;> exact ok_frac (Nat.mul_pos ha this)
theorem val_add {a b : Frac} (ha : Ok a) (hb : Ok b) : val (a.add b) = val a + val b := by
  have h1 := natCast_ne ha
  have h2 := natCast_ne hb
  unfold Frac.add
  rw [val_frac (Nat.mul_pos ha hb)]
  unfold val
  simp only [Rat.intCast_add, Rat.intCast_mul, Rat.natCast_mul, Rat.intCast_natCast]
  grind
theorem val_sub {a b : Frac} (ha : Ok a) (hb : Ok b) : val (a.sub b) = val a - val b := by
  have h1 := natCast_ne ha
  have h2 := natCast_ne hb
  unfold Frac.sub
  rw [val_frac (Nat.mul_pos ha hb)]
  unfold val
  simp only [Rat.intCast_sub, Rat.intCast_mul, Rat.natCast_mul, Rat.intCast_natCast]
  grind
theorem val_mul {a b : Frac} (ha : Ok a) (hb : Ok b) : val (a.mul b) = val a * val b := by
  have h1 := natCast_ne ha
  have h2 := natCast_ne hb
  unfold Frac.mul
  rw [val_frac (Nat.mul_pos ha hb)]
  unfold val
  simp only [Rat.intCast_mul, Rat.natCast_mul]
  grind
theorem val_div {a b : Frac} (ha : Ok a) (hb : Ok b) (h0 : b.n ≠ 0) : val (a.div b) = val a / val b := by
  have h1 := natCast_ne ha
  have h2 := natCast_ne hb
  have h3 : ((b.n : Int) : Rat) ≠ 0 := by intro e; exact h0 (by exact_mod_cast e)
  have hp : 0 < b.n.natAbs := by omega
  unfold Frac.div
  split
  · rename_i h
    rw [val_frac (Nat.mul_pos ha hp)]
    have e : ((b.n.natAbs : Nat) : Rat) = (b.n : Rat) := by
      have : ((b.n.natAbs : Nat) : Int) = b.n := by omega
      rw [← Rat.intCast_natCast, this]
    unfold val
    simp only [Rat.intCast_mul, Rat.natCast_mul, Rat.intCast_natCast, e]
    grind
  · rename_i h
    rw [val_frac (Nat.mul_pos ha hp)]
    have e : ((b.n.natAbs : Nat) : Rat) = -(b.n : Rat) := by
      have : ((b.n.natAbs : Nat) : Int) = -b.n := by omega
      rw [← Rat.intCast_natCast, this, Rat.intCast_neg]
    unfold val
    simp only [Rat.intCast_mul, Rat.natCast_mul, Rat.intCast_natCast, Rat.intCast_neg, e]
    grind
/-- a fraction told times s, by its value -/
theorem is_val {s : Nat} (hs : 0 < s) {f : Frac} (hf : Ok f) {n : Int} : Is s f n ↔ val f = (n : Rat) / (s : Rat) := by
  have h1 := natCast_ne hs
  have h2 := natCast_ne hf
  unfold Is val
  constructor
  · intro ⟨_, h⟩
    have h3 : (f.n : Rat) * ((s : Nat) : Rat) = (n : Rat) * ((f.d : Nat) : Rat) := by exact_mod_cast h
    grind
  · intro h
    refine ⟨hf, ?_⟩
    have h3 : (f.n : Rat) * ((s : Nat) : Rat) = (n : Rat) * ((f.d : Nat) : Rat) := by grind
    exact_mod_cast h3
theorem val_n {f : Frac} (hf : Ok f) {n : Int} {s : Nat} (hs : 0 < s) (h : val f = (n : Rat) / (s : Rat)) : (0 ≤ f.n ↔ 0 ≤ n) ∧ (f.n = 0 ↔ n = 0) := by
  have e := ((is_val hs hf).2 h).2
  have hs' : (0 : Int) < (s : Int) := by omega
  have hd' : (0 : Int) < (f.d : Int) := by have : 0 < f.d := hf; omega
  refine ⟨⟨fun h0 => ?_, fun h0 => ?_⟩, ⟨fun h0 => ?_, fun h0 => ?_⟩⟩
  · refine Int.not_lt.1 fun hc => ?_
    have a := Int.mul_nonneg h0 (Int.le_of_lt hs')
    have b := Int.mul_neg_of_neg_of_pos hc hd'
    omega
  · refine Int.not_lt.1 fun hc => ?_
    have a := Int.mul_nonneg h0 (Int.le_of_lt hd')
    have b := Int.mul_neg_of_neg_of_pos hc hs'
    omega
  · rw [h0] at e
    have : n * (f.d : Int) = 0 := by simpa using e.symm
    rcases Int.mul_eq_zero.1 this with h | h
    · exact h
    · omega
  · rw [h0] at e
    have : f.n * (s : Int) = 0 := by simpa using e
    rcases Int.mul_eq_zero.1 this with h | h
    · exact h
    · omega
end Pg
end

section
namespace Pg
open Sq71 (Frac Place Polygon)
abbrev Tri := Int × Int × Int
/-- how far beyond the line -/
def exc (D a b c : Int) (p : Pt) : Int := a * p.1 + b * p.2 - c * D
def crossing (s : Pt) (se : Int) (e : Pt) (ee : Int) : Tri :=
  ((if ee - se > 0 then 1 else -1) * (s.1 * ee - e.1 * se), (if ee - se > 0 then 1 else -1) * (s.2 * ee - e.2 * se), (if ee - se > 0 then 1 else -1) * (ee - se))
def leftOf (D a b c : Int) (e : Pt × Pt) : List Tri :=
  (if exc D a b c e.1 * exc D a b c e.2 < 0 then [crossing e.1 (exc D a b c e.1) e.2 (exc D a b c e.2)] else []) ++
  (if exc D a b c e.2 ≤ 0 then [(e.2.1, e.2.2, 1)] else [])
/-- each with the one before it, of the first the last -/
def before2 (cs : List Pt) : List (Pt × Pt) := (cs.drop (cs.length - 1) ++ cs.take (cs.length - 1)).zip cs
def left (D a b c : Int) (cs : List Pt) : List Tri := (before2 cs).flatMap (leftOf D a b c)
def shared (l : List Tri) : Nat := l.foldl (fun s t => Nat.lcm s t.2.2.natAbs) 1
def placesOf (l : List Tri) : List Pt := l.map fun t => (t.1 * ((shared l : Int) / t.2.2), t.2.1 * ((shared l : Int) / t.2.2))

theorem shared_dvd : ∀ (l : List Tri) (a : Nat), a ∣ l.foldl (fun s t => Nat.lcm s t.2.2.natAbs) a ∧ ∀ t ∈ l, t.2.2.natAbs ∣ l.foldl (fun s t => Nat.lcm s t.2.2.natAbs) a
  | [], a => ⟨Nat.dvd_refl _, by simp⟩
  | y :: l, a => by
    have h := shared_dvd l (Nat.lcm a y.2.2.natAbs)
    rw [List.foldl_cons]
    refine ⟨Nat.dvd_trans (Nat.dvd_lcm_left a _) h.1, fun x hx => ?_⟩
    rcases List.mem_cons.1 hx with e | hx
    · rw [e]; exact Nat.dvd_trans (Nat.dvd_lcm_right a _) h.1
    · exact h.2 x hx
theorem shared_pos : ∀ (l : List Tri) (a : Nat), 0 < a → (∀ t ∈ l, 0 < t.2.2) → 0 < l.foldl (fun s t => Nat.lcm s t.2.2.natAbs) a
  | [], a, h, _ => h
  | y :: l, a, h, hl => shared_pos l (Nat.lcm a y.2.2.natAbs) (Nat.lcm_pos h (by have := hl y (by simp); omega)) fun x hx => hl x (by simp [hx])

theorem crossing_pos {s : Pt} {se : Int} {e : Pt} {ee : Int} (h : se * ee < 0) : 0 < (crossing s se e ee).2.2 := by
  have hne : ee ≠ se := by
    intro e
    subst e
    have := sq_nonneg ee
    omega
  unfold crossing
  simp only
  split <;> omega
theorem left_pos {D a b c : Int} {cs : List Pt} : ∀ t ∈ left D a b c cs, 0 < t.2.2 := by
  intro t ht
  obtain ⟨e, _, he⟩ := List.mem_flatMap.1 ht
  unfold leftOf at he
  rcases List.mem_append.1 he with he | he
  · split at he
    · rename_i h
      have : t = _ := List.mem_singleton.1 he
      rw [this]; exact crossing_pos h
    · simp at he
  · split at he
    · have : t = _ := List.mem_singleton.1 he
      rw [this]
      exact Int.one_pos
    · simp at he

/-- a place is a triple -/
def PT (D : Nat) (p : Place) (t : Tri) : Prop :=
  Ok p.1 ∧ Ok p.2 ∧ val p.1 = (t.1 : Rat) / ((D : Nat) * (t.2.2 : Rat)) ∧ val p.2 = (t.2.1 : Rat) / ((D : Nat) * (t.2.2 : Rat))

theorem tri_is {D : Nat} (hD : 0 < D) {l : List Tri} (hl : ∀ t ∈ l, 0 < t.2.2) {t : Tri} (ht : t ∈ l) {f : Frac} (hf : Ok f) {x : Int}
    (h : val f = (x : Rat) / ((D : Nat) * (t.2.2 : Rat))) : Is (D * shared l) f (x * ((shared l : Int) / t.2.2)) := by
  have hs : 0 < shared l := shared_pos l 1 (by omega) hl
  have ht0 := hl t ht
  rw [is_val (Nat.mul_pos hD hs) hf, h]
  have hd : t.2.2.natAbs ∣ shared l := (shared_dvd l 1).2 t ht
  obtain ⟨m, hm⟩ := hd
  have hm' : (shared l : Int) = t.2.2 * (m : Int) := by
    rw [hm, Int.natCast_mul]
    congr 1
    omega
  have hq : (shared l : Int) / t.2.2 = m := by rw [hm']; exact Int.mul_ediv_cancel_left _ (by omega)
  rw [hq]
  have h1 := natCast_ne hD
  have h2 := natCast_ne hs
  have h3 : ((t.2.2 : Int) : Rat) ≠ 0 := by
    intro e
    have : t.2.2 = 0 := by exact_mod_cast e
    omega
  have h4 : ((shared l : Nat) : Rat) = (t.2.2 : Rat) * ((m : Nat) : Rat) := by
    exact_mod_cast hm'
  rw [Rat.natCast_mul, Rat.intCast_mul, h4, Rat.intCast_natCast]
  rw [h4] at h2
  have h5 : ((m : Nat) : Rat) ≠ 0 := by intro e; rw [e] at h2; simp at h2
  grind

theorem tells_tri {D : Nat} (hD : 0 < D) {l : List Tri} (hl : ∀ t ∈ l, 0 < t.2.2) {ps : List Place}
    (h1 : ∀ p ∈ ps, ∃ t ∈ l, PT D p t) (h2 : ∀ t ∈ l, ∃ p ∈ ps, PT D p t) : Tells (D * shared l) ps (placesOf l) := by
  constructor
  · intro p hp
    obtain ⟨t, ht, a, b, c, d⟩ := h1 p hp
    exact ⟨_, List.mem_map_of_mem ht, tri_is hD hl ht a c, tri_is hD hl ht b d⟩
  · intro q hq
    obtain ⟨t, ht, e⟩ := List.mem_map.1 hq
    subst e
    obtain ⟨p, hp, a, b, c, d⟩ := h2 t ht
    exact ⟨p, hp, tri_is hD hl ht a c, tri_is hD hl ht b d⟩

/-! pairs -/
theorem before2_snoc (init : List Pt) (z : Pt) : before2 (init ++ [z]) = (z :: init).zip (init ++ [z]) := by
  unfold before2; simp
theorem zip_snoc {α β : Type} : ∀ (a : List α) (b : List β) (x : α) (y : β), a.length = b.length → (a ++ [x]).zip (b ++ [y]) = a.zip b ++ [(x, y)]
  | [], [], _, _, _ => rfl
  | p :: a, q :: b, x, y, h => by
    have := zip_snoc a b x y (by simpa using h)
    simp [this]
theorem pairs_same (cs : List Pt) (e : Pt × Pt) : e ∈ cs.zip (cs.drop 1 ++ cs.take 1) ↔ e ∈ before2 cs := by
  cases cs with
  | nil => simp [before2]
  | cons a r =>
    obtain ⟨init, z, hz⟩ : ∃ init z, a :: r = init ++ [z] := ⟨(a :: r).dropLast, (a :: r).getLast (by simp), (List.dropLast_concat_getLast (by simp)).symm⟩
    have hl : init.length = r.length := by
      have := congrArg List.length hz
      simp at this; omega
    have e1 : (a :: r).zip ((a :: r).drop 1 ++ (a :: r).take 1) = init.zip r ++ [(z, a)] := by
      show (a :: r).zip (r ++ [a]) = _
      rw [hz]
      exact zip_snoc init r z a hl
    have e2 : before2 (a :: r) = (z, a) :: init.zip r := by
      rw [hz, before2_snoc, ← hz]
      rfl
    rw [e1, e2]
    simp only [List.mem_append, List.mem_cons, List.not_mem_nil, or_false]
    exact or_comm
theorem before2_second {cs : List Pt} {u : Pt} (h : u ∈ cs) : ∃ w, (w, u) ∈ before2 cs := by
  have hl : (cs.drop (cs.length - 1) ++ cs.take (cs.length - 1)).length = cs.length := by simp
  obtain ⟨i, hi, e⟩ := List.mem_iff_getElem.1 h
  refine ⟨(cs.drop (cs.length - 1) ++ cs.take (cs.length - 1))[i]'(by rw [hl]; exact hi), ?_⟩
  unfold before2
  rw [List.mem_iff_getElem]
  refine ⟨i, by simp; omega, ?_⟩
  rw [List.getElem_zip, e]
theorem before2_mem {cs : List Pt} {e : Pt × Pt} (h : e ∈ before2 cs) : e.1 ∈ cs ∧ e.2 ∈ cs := by
  unfold before2 at h
  have := List.of_mem_zip (a := e.1) (b := e.2) h
  refine ⟨?_, this.2⟩
  rcases List.mem_append.1 this.1 with h | h
  · exact List.mem_of_mem_drop h
  · exact List.mem_of_mem_take h

/-! one edge -/
def pl (D : Nat) (u : Pt) : Place := (Sq71.frac u.1 D, Sq71.frac u.2 D)
def side (a b c : Int) (q : Place) : Frac := ((Sq71.whole c).sub (q.1.mul (Sq71.whole a))).sub (q.2.mul (Sq71.whole b))
def meet (a b c : Int) (e : Place × Place) : Place :=
  ((e.1.1.add ((e.2.1.sub e.1.1).mul ((side a b c e.1).div ((side a b c e.1).sub (side a b c e.2))))),
   (e.1.2.add ((e.2.2.sub e.1.2).mul ((side a b c e.1).div ((side a b c e.1).sub (side a b c e.2))))))
def cutOf (a b c : Int) (e : Place × Place) : List Place :=
  (if (decide (0 ≤ (side a b c e.1).n)) != (decide (0 ≤ (side a b c e.2).n)) then [meet a b c e] else []) ++ (if 0 ≤ (side a b c e.2).n then [e.2] else [])
theorem cut_def (a b c : Int) (p : Polygon) : Sq71.cut a b c p = (p.places.zip (p.places.drop 1 ++ p.places.take 1)).flatMap (cutOf a b c) := rfl

theorem ok_pl {D : Nat} (hD : 0 < D) (u : Pt) : Ok (pl D u).1 ∧ Ok (pl D u).2 := ⟨ok_frac hD, ok_frac hD⟩
theorem pt_pl {D : Nat} (hD : 0 < D) (u : Pt) : PT D (pl D u) (u.1, u.2, 1) := by
  refine ⟨ok_frac hD, ok_frac hD, ?_, ?_⟩
  · show val (Sq71.frac u.1 D) = _
    rw [val_frac hD]; simp
  · show val (Sq71.frac u.2 D) = _
    rw [val_frac hD]; simp
theorem ok_side {a b c : Int} {D : Nat} (hD : 0 < D) (u : Pt) : Ok (side a b c (pl D u)) :=
  ok_sub (ok_sub (ok_whole _) (ok_mul (ok_frac hD) (ok_whole _))) (ok_mul (ok_frac hD) (ok_whole _))
theorem val_side {a b c : Int} {D : Nat} (hD : 0 < D) (u : Pt) : val (side a b c (pl D u)) = ((-(exc D a b c u) : Int) : Rat) / (D : Rat) := by
  unfold side pl
  have h1 := natCast_ne hD
  rw [val_sub (ok_sub (ok_whole _) (ok_mul (ok_frac hD) (ok_whole _))) (ok_mul (ok_frac hD) (ok_whole _)),
    val_sub (ok_whole _) (ok_mul (ok_frac hD) (ok_whole _)), val_mul (ok_frac hD) (ok_whole _), val_mul (ok_frac hD) (ok_whole _),
    val_whole, val_whole, val_whole, val_frac hD, val_frac hD]
  unfold exc
  simp only [Rat.intCast_neg, Rat.intCast_sub, Rat.intCast_add, Rat.intCast_mul, Rat.intCast_natCast]
  grind
theorem side_n {a b c : Int} {D : Nat} (hD : 0 < D) (u : Pt) : 0 ≤ (side a b c (pl D u)).n ↔ exc D a b c u ≤ 0 := by
  rw [(val_n (ok_side hD u) hD (val_side hD u)).1]
  omega

/-- where the line is met -/
theorem meet_val {a b c : Int} {D : Nat} (hD : 0 < D) (u v : Pt) (h : exc D a b c u ≠ exc D a b c v) :
    Ok (meet a b c (pl D u, pl D v)).1 ∧ Ok (meet a b c (pl D u, pl D v)).2 ∧
    val (meet a b c (pl D u, pl D v)).1 = ((u.1 * exc D a b c v - v.1 * exc D a b c u : Int) : Rat) / ((D : Nat) * ((exc D a b c v - exc D a b c u : Int) : Rat)) ∧
    val (meet a b c (pl D u, pl D v)).2 = ((u.2 * exc D a b c v - v.2 * exc D a b c u : Int) : Rat) / ((D : Nat) * ((exc D a b c v - exc D a b c u : Int) : Rat)) := by
  have h1 := natCast_ne hD
  have os := ok_sub (ok_side (a := a) (b := b) (c := c) hD u) (ok_side (a := a) (b := b) (c := c) hD v)
  have vs : val ((side a b c (pl D u)).sub (side a b c (pl D v))) = ((exc D a b c v - exc D a b c u : Int) : Rat) / (D : Rat) := by
    rw [val_sub (ok_side hD u) (ok_side hD v), val_side hD, val_side hD]
    simp only [Rat.intCast_neg, Rat.intCast_sub]
    grind
  have hn : ((side a b c (pl D u)).sub (side a b c (pl D v))).n ≠ 0 := by
    intro e
    have := (val_n os hD vs).2.1 e
    omega
  have od := ok_div (ok_side (a := a) (b := b) (c := c) hD u) hn
  have vd := val_div (ok_side (a := a) (b := b) (c := c) hD u) os hn
  rw [vs, val_side hD] at vd
  have hne : ((exc D a b c v - exc D a b c u : Int) : Rat) ≠ 0 := by
    intro e
    have : exc D a b c v - exc D a b c u = 0 := by exact_mod_cast e
    omega
  have og : ∀ x y : Int, Ok ((Sq71.frac x D).add (((Sq71.frac y D).sub (Sq71.frac x D)).mul ((side a b c (pl D u)).div ((side a b c (pl D u)).sub (side a b c (pl D v)))))) :=
    fun x y => ok_add (ok_frac hD) (ok_mul (ok_sub (ok_frac hD) (ok_frac hD)) od)
  have vg : ∀ x y : Int, val ((Sq71.frac x D).add (((Sq71.frac y D).sub (Sq71.frac x D)).mul ((side a b c (pl D u)).div ((side a b c (pl D u)).sub (side a b c (pl D v)))))) =
      ((x * exc D a b c v - y * exc D a b c u : Int) : Rat) / ((D : Nat) * ((exc D a b c v - exc D a b c u : Int) : Rat)) := by
    intro x y
    rw [val_add (ok_frac hD) (ok_mul (ok_sub (ok_frac hD) (ok_frac hD)) od), val_mul (ok_sub (ok_frac hD) (ok_frac hD)) od, val_sub (ok_frac hD) (ok_frac hD),
      val_frac hD, val_frac hD, vd]
    simp only [Rat.intCast_neg, Rat.intCast_sub, Rat.intCast_mul] at hne ⊢
    grind
  exact ⟨og _ _, og _ _, vg _ _, vg _ _⟩

theorem crossing_pt {a b c : Int} {D : Nat} (hD : 0 < D) (u v : Pt) (h : exc D a b c u ≠ exc D a b c v) :
    PT D (meet a b c (pl D u, pl D v)) (crossing u (exc D a b c u) v (exc D a b c v)) := by
  obtain ⟨o1, o2, v1, v2⟩ := meet_val hD u v h
  have h1 := natCast_ne hD
  have hne : ((exc D a b c v - exc D a b c u : Int) : Rat) ≠ 0 := by
    intro e
    have : exc D a b c v - exc D a b c u = 0 := by exact_mod_cast e
    omega
  refine ⟨o1, o2, ?_, ?_⟩
  · rw [v1]
    unfold crossing
    split
    · simp only [Int.one_mul]
    · simp only [Rat.intCast_neg, Rat.intCast_sub, Rat.intCast_mul, Int.neg_mul, Int.one_mul] at hne ⊢
      grind
  · rw [v2]
    unfold crossing
    split
    · simp only [Int.one_mul]
    · simp only [Rat.intCast_neg, Rat.intCast_sub, Rat.intCast_mul, Int.neg_mul, Int.one_mul] at hne ⊢
      grind

theorem meet_at_first {a b c : Int} {D : Nat} (hD : 0 < D) (u v : Pt) (h0 : exc D a b c u = 0) (h : exc D a b c v ≠ 0) :
    PT D (meet a b c (pl D u, pl D v)) (u.1, u.2, 1) := by
  obtain ⟨o1, o2, v1, v2⟩ := meet_val (a := a) (b := b) (c := c) hD u v (by omega)
  have h1 := natCast_ne hD
  have hne : ((exc D a b c v : Int) : Rat) ≠ 0 := by
    intro e
    exact h (by exact_mod_cast e)
  rw [h0] at v1 v2
  refine ⟨o1, o2, ?_, ?_⟩
  · rw [v1]
    simp only [Rat.intCast_mul, Int.mul_zero, Int.sub_zero, Rat.intCast_one]
    grind
  · rw [v2]
    simp only [Rat.intCast_mul, Int.mul_zero, Int.sub_zero, Rat.intCast_one]
    grind
theorem meet_at_second {a b c : Int} {D : Nat} (hD : 0 < D) (u v : Pt) (h0 : exc D a b c v = 0) (h : exc D a b c u ≠ 0) :
    PT D (meet a b c (pl D u, pl D v)) (v.1, v.2, 1) := by
  obtain ⟨o1, o2, v1, v2⟩ := meet_val (a := a) (b := b) (c := c) hD u v (by omega)
  have h1 := natCast_ne hD
  have hne : ((exc D a b c u : Int) : Rat) ≠ 0 := by
    intro e
    exact h (by exact_mod_cast e)
  rw [h0] at v1 v2
  refine ⟨o1, o2, ?_, ?_⟩
  · rw [v1]
    simp only [Rat.intCast_mul, Int.mul_zero, Int.zero_sub, Rat.intCast_one, Rat.intCast_neg]
    grind
  · rw [v2]
    simp only [Rat.intCast_mul, Int.mul_zero, Int.zero_sub, Rat.intCast_one, Rat.intCast_neg]
    grind

theorem neg_mul_cases {x y : Int} : x * y < 0 ↔ (x < 0 ∧ 0 < y) ∨ (0 < x ∧ y < 0) := by
  constructor
  · intro h
    rcases Int.lt_trichotomy x 0 with hx | hx | hx
    · left
      refine ⟨hx, Int.not_le.1 fun hy => ?_⟩
      have := Int.mul_nonneg (Int.neg_nonneg.2 (Int.le_of_lt hx)) (Int.neg_nonneg.2 hy)
      rw [Int.neg_mul_neg] at this
      omega
    · subst hx; simp at h
    · right
      refine ⟨hx, Int.not_le.1 fun hy => ?_⟩
      have := Int.mul_nonneg (Int.le_of_lt hx) hy
      omega
  · rintro (⟨hx, hy⟩ | ⟨hx, hy⟩)
    · exact Int.mul_neg_of_neg_of_pos hx hy
    · exact Int.mul_neg_of_pos_of_neg hx hy

theorem zip_map2 {α β : Type} (f : α → β) : ∀ (a b : List α), (a.map f).zip (b.map f) = (a.zip b).map fun e => (f e.1, f e.2)
  | [], _ => by simp
  | _ :: _, [] => by simp
  | x :: a, y :: b => by simp [zip_map2 f a b]

/-- what is left, told by triples -/
theorem cut_tells {D : Nat} (hD : 0 < D) (a b c : Int) (cs : List Pt) :
    Tells (D * shared (left D a b c cs)) (Sq71.cut a b c ⟨D, cs⟩) (placesOf (left D a b c cs)) := by
  have hpl : (Polygon.places ⟨D, cs⟩) = cs.map (pl D) := rfl
  have hz : ∀ e, e ∈ (Polygon.places ⟨D, cs⟩).zip ((Polygon.places ⟨D, cs⟩).drop 1 ++ (Polygon.places ⟨D, cs⟩).take 1) ↔
      ∃ w ∈ before2 cs, e = (pl D w.1, pl D w.2) := by
    intro e
    rw [hpl, ← List.map_drop, ← List.map_take, ← List.map_append, zip_map2, List.mem_map]
    constructor
    · rintro ⟨w, hw, rfl⟩
      exact ⟨w, (pairs_same cs w).1 hw, rfl⟩
    · rintro ⟨w, hw, rfl⟩
      exact ⟨w, (pairs_same cs w).2 hw, rfl⟩
  apply tells_tri hD left_pos
  · intro p hp
    rw [cut_def] at hp
    obtain ⟨e, he, hp⟩ := List.mem_flatMap.1 hp
    obtain ⟨⟨u, v⟩, hw, rfl⟩ := (hz e).1 he
    unfold cutOf at hp
    rw [List.mem_append] at hp
    simp only [side_n hD] at hp
    rcases hp with hp | hp
    · split at hp
      · rename_i hb
        have hp : p = _ := List.mem_singleton.1 hp
        subst hp
        have hs : ¬ (exc D a b c u ≤ 0 ↔ exc D a b c v ≤ 0) := by
          intro h
          simp [h] at hb
        have hne : exc D a b c u ≠ exc D a b c v := by omega
        by_cases hu : exc D a b c u = 0
        · obtain ⟨w, hwu⟩ := before2_second (before2_mem hw).1
          refine ⟨(u.1, u.2, 1), List.mem_flatMap.2 ⟨(w, u), hwu, ?_⟩, meet_at_first hD u v hu (by omega)⟩
          unfold leftOf
          rw [List.mem_append]
          right
          simp [hu]
        · by_cases hv : exc D a b c v = 0
          · refine ⟨(v.1, v.2, 1), List.mem_flatMap.2 ⟨(u, v), hw, ?_⟩, meet_at_second hD u v hv hu⟩
            unfold leftOf
            rw [List.mem_append]
            right
            simp [hv]
          · refine ⟨_, List.mem_flatMap.2 ⟨(u, v), hw, ?_⟩, crossing_pt hD u v hne⟩
            unfold leftOf
            rw [List.mem_append]
            left
            have : exc D a b c u * exc D a b c v < 0 := neg_mul_cases.2 (by omega)
            simp [this]
      · simp at hp
    · split at hp
      · rename_i hv
        have hp : p = _ := List.mem_singleton.1 hp
        subst hp
        refine ⟨(v.1, v.2, 1), List.mem_flatMap.2 ⟨(u, v), hw, ?_⟩, pt_pl hD v⟩
        unfold leftOf
        rw [List.mem_append]
        right
        simp [hv]
      · simp at hp
  · intro t ht
    obtain ⟨⟨u, v⟩, hw, ht⟩ := List.mem_flatMap.1 ht
    have he := (hz (pl D u, pl D v)).2 ⟨(u, v), hw, rfl⟩
    rw [cut_def]
    unfold leftOf at ht
    rcases List.mem_append.1 ht with ht | ht
    · split at ht
      · rename_i hlt
        have ht : t = _ := List.mem_singleton.1 ht
        subst ht
        have hc := neg_mul_cases.1 hlt
        simp only at hc
        refine ⟨_, List.mem_flatMap.2 ⟨_, he, ?_⟩, crossing_pt hD u v (by omega)⟩
        unfold cutOf
        rw [List.mem_append]
        left
        simp only [side_n hD]
        have : (decide (exc D a b c u ≤ 0) != decide (exc D a b c v ≤ 0)) = true := by
          rcases hc with hc | hc
          · simp [show exc D a b c u ≤ 0 by omega, show ¬ exc D a b c v ≤ 0 by omega]
          · simp [show ¬ exc D a b c u ≤ 0 by omega, show exc D a b c v ≤ 0 by omega]
        simp [this]
      · simp at ht
    · split at ht
      · rename_i hv
        have ht : t = _ := List.mem_singleton.1 ht
        subst ht
        refine ⟨_, List.mem_flatMap.2 ⟨_, he, ?_⟩, pt_pl hD v⟩
        unfold cutOf
        rw [List.mem_append]
        right
        simp only [side_n hD]
        simp [hv]
      · simp at ht

theorem polygon_cut {D : Nat} (hD : 0 < D) (a b c : Int) (cs : List Pt) :
    Sq71.polygon (Sq71.cut a b c ⟨D, cs⟩) = red (D * shared (left D a b c cs)) (Sq68.corners (placesOf (left D a b c cs))) :=
  polygon_eq (Nat.mul_pos hD (shared_pos _ 1 (by omega) left_pos)) (cut_tells hD a b c cs)
end Pg
end

section
namespace Pg
open Sq71 (Polygon)
/-- how far a whole point is on the inner side of an edge, k times as large, in D-th parts -/
def sd (D k x y : Int) (e : Pt × Pt) : Int := (e.2.1 - e.1.1) * (D * y - k * e.1.2) - (e.2.2 - e.1.2) * (D * x - k * e.1.1)
def inE (st : Bool) (D k x y : Int) (e : Pt × Pt) : Prop := if st = true then 0 < sd D k x y e else 0 ≤ sd D k x y e

abbrev Bnd := Option Int × Option Int
def sat (b : Bnd) (y : Int) : Prop := (∀ z, b.1 = some z → z ≤ y) ∧ (∀ z, b.2 = some z → y ≤ z)
def satO (m : Option Bnd) (y : Int) : Prop := match m with
  | none => False
  | some b => sat b y

/-- one edge of the specification's column -/
def colStep (D kk : Int) (st : Bool) (x : Int) (m : Option Bnd) (e : Pt × Pt) : Option Bnd := m.bind fun b =>
    let v := Sq68.sub e.2 e.1
    let t := v.2 * (D * x - kk * e.1.1) + v.1 * (kk * e.1.2)
    if v.1 = 0 then (let side := -v.2 * (D * x - kk * e.1.1)
      if (if st = true then decide (0 < side) else decide (0 ≤ side)) = true then some b else none)
    else if 0 < v.1 then
      let lo := if st = true then t / (v.1 * D) + 1 else Sq71.up t (v.1 * D)
      some (match b.1 with
        | none => (some lo, b.2)
        | some z => (some (max z lo), b.2))
    else
      let hi := if st = true then Sq71.up (-t) (-v.1 * D) - 1 else -t / (-v.1 * D)
      some (match b.2 with
        | none => (b.1, some hi)
        | some z => (b.1, some (min z hi)))
def colEnd (m : Option Bnd) : Option (Int × Int) := m.bind fun b => match b with
  | (some lo, some hi) => if lo ≤ hi then some (lo, hi) else none
  | _ => none
theorem column_def (p : Polygon) (k : Nat) (st : Bool) (x : Int) :
    Sq71.column p k st x = colEnd ((Sq68.edges p.cs).foldl (colStep p.D k st x) (some (none, none))) := rfl

theorem le_up {a b y : Int} (hb : 0 < b) : Sq71.up a b ≤ y ↔ a ≤ y * b := by
  unfold Sq71.up
  constructor
  · intro h
    have := Int.lt_mul_ediv_self_add (x := -a) hb
    have h2 : (-y) * b ≤ (-a) / b * b := Int.mul_le_mul_of_nonneg_right (by omega) (Int.le_of_lt hb)
    have h3 : (-a) / b * b ≤ -a := Int.ediv_mul_le (-a) (by omega)
    have h4 : (-y) * b = -(y * b) := Int.neg_mul y b
    omega
  · intro h
    have h1 : (-y) * b ≤ -a := by rw [Int.neg_mul]; omega
    have := (Int.le_ediv_iff_mul_le hb).2 h1
    omega
theorem le_fl {a b y : Int} (hb : 0 < b) : y ≤ a / b ↔ y * b ≤ a := Int.le_ediv_iff_mul_le hb
theorem fl_lt {a b y : Int} (hb : 0 < b) : a / b + 1 ≤ y ↔ a < y * b := by
  have := (le_fl (a := a) (y := y) hb)
  omega
theorem lt_up {a b y : Int} (hb : 0 < b) : y ≤ Sq71.up a b - 1 ↔ y * b < a := by
  have := le_up (a := a) (y := y) hb
  omega

theorem sat_lo {b : Bnd} {lo y : Int} : sat (match b.1 with
        | none => (some lo, b.2)
        | some z => (some (max z lo), b.2)) y ↔ sat b y ∧ lo ≤ y := by
  obtain ⟨b1, b2⟩ := b
  cases b1 with
  | none =>
    unfold sat
    simp only [Option.some.injEq, reduceCtorEq, false_implies, forall_eq']
    constructor
    · intro ⟨h1, h2⟩; exact ⟨⟨fun _ => trivial, h2⟩, h1⟩
    · intro ⟨⟨_, h2⟩, h1⟩; exact ⟨h1, h2⟩
  | some z =>
    unfold sat
    simp only [Option.some.injEq, forall_eq']
    constructor
    · intro ⟨h1, h2⟩; exact ⟨⟨by omega, h2⟩, by omega⟩
    · intro ⟨⟨h1, h2⟩, h3⟩; exact ⟨by omega, h2⟩
theorem sat_hi {b : Bnd} {hi y : Int} : sat (match b.2 with
        | none => (b.1, some hi)
        | some z => (b.1, some (min z hi))) y ↔ sat b y ∧ y ≤ hi := by
  obtain ⟨b1, b2⟩ := b
  cases b2 with
  | none =>
    unfold sat
    simp only [Option.some.injEq, reduceCtorEq, false_implies, forall_eq']
    constructor
    · intro ⟨h1, h2⟩; exact ⟨⟨h1, fun _ => trivial⟩, h2⟩
    · intro ⟨⟨h1, _⟩, h2⟩; exact ⟨h1, h2⟩
  | some z =>
    unfold sat
    simp only [Option.some.injEq, forall_eq']
    constructor
    · intro ⟨h1, h2⟩; exact ⟨⟨h1, by omega⟩, by omega⟩
    · intro ⟨⟨h1, h2⟩, h3⟩; exact ⟨h1, by omega⟩

theorem colStep_none (D kk : Int) (st : Bool) (x : Int) (e : Pt × Pt) : colStep D kk st x none e = none := rfl
theorem colStep_zero {D kk : Int} {st : Bool} {x : Int} {b : Bnd} {e : Pt × Pt} (h : e.2.1 - e.1.1 = 0) :
    colStep D kk st x (some b) e = if (if st = true then decide (0 < -(e.2.2 - e.1.2) * (D * x - kk * e.1.1)) else decide (0 ≤ -(e.2.2 - e.1.2) * (D * x - kk * e.1.1))) = true then some b else none := if_pos h
def tt (D kk x : Int) (e : Pt × Pt) : Int := (e.2.2 - e.1.2) * (D * x - kk * e.1.1) + (e.2.1 - e.1.1) * (kk * e.1.2)
theorem colStep_pos {D kk : Int} {st : Bool} {x : Int} {b : Bnd} {e : Pt × Pt} (h : 0 < e.2.1 - e.1.1) :
    colStep D kk st x (some b) e = some (match b.1 with
        | none => (some (if st = true then tt D kk x e / ((e.2.1 - e.1.1) * D) + 1 else Sq71.up (tt D kk x e) ((e.2.1 - e.1.1) * D)), b.2)
        | some z => (some (max z (if st = true then tt D kk x e / ((e.2.1 - e.1.1) * D) + 1 else Sq71.up (tt D kk x e) ((e.2.1 - e.1.1) * D))), b.2)) :=
  (if_neg (by show ¬ (e.2.1 - e.1.1 = 0); omega)).trans (if_pos h)
theorem colStep_neg {D kk : Int} {st : Bool} {x : Int} {b : Bnd} {e : Pt × Pt} (h : e.2.1 - e.1.1 < 0) :
    colStep D kk st x (some b) e = some (match b.2 with
        | none => (b.1, some (if st = true then Sq71.up (-tt D kk x e) (-(e.2.1 - e.1.1) * D) - 1 else -tt D kk x e / (-(e.2.1 - e.1.1) * D)))
        | some z => (b.1, some (min z (if st = true then Sq71.up (-tt D kk x e) (-(e.2.1 - e.1.1) * D) - 1 else -tt D kk x e / (-(e.2.1 - e.1.1) * D))))) :=
  (if_neg (by show ¬ (e.2.1 - e.1.1 = 0); omega)).trans (if_neg (by show ¬ (0 < e.2.1 - e.1.1); omega))

theorem colStep_sat {D kk : Int} (hD : 0 < D) (st : Bool) (x y : Int) (m : Option Bnd) (e : Pt × Pt) :
    satO (colStep D kk st x m e) y ↔ satO m y ∧ inE st D kk x y e := by
  cases m with
  | none => simp [colStep, satO]
  | some b =>
    show satO (colStep D kk st x (some b) e) y ↔ sat b y ∧ _
    rcases Int.lt_trichotomy (e.2.1 - e.1.1) 0 with hp | h0 | hp
    · rw [colStep_neg hp]
      show sat _ y ↔ _
      rw [sat_hi]
      refine and_congr_right fun _ => ?_
      have hm : 0 < -(e.2.1 - e.1.1) * D := Int.mul_pos (by omega) hD
      cases st with
      | true =>
        unfold inE
        simp only [if_true]
        rw [lt_up hm]
        unfold sd tt
        constructor <;> intro h <;> grind
      | false =>
        unfold inE
        simp only [Bool.false_eq_true, if_false]
        rw [le_fl hm]
        unfold sd tt
        constructor <;> intro h <;> grind
    · rw [colStep_zero h0]
      have hsd : sd D kk x y e = -(e.2.2 - e.1.2) * (D * x - kk * e.1.1) := by unfold sd; rw [h0]; grind
      cases st with
      | true =>
        unfold inE
        simp only [if_true, hsd, decide_eq_true_eq]
        split
        · rename_i h; exact ⟨fun s => ⟨s, h⟩, fun s => s.1⟩
        · rename_i h; exact ⟨fun s => s.elim, fun s => absurd s.2 h⟩
      | false =>
        unfold inE
        simp only [Bool.false_eq_true, if_false, hsd, decide_eq_true_eq]
        split
        · rename_i h; exact ⟨fun s => ⟨s, h⟩, fun s => s.1⟩
        · rename_i h; exact ⟨fun s => s.elim, fun s => absurd s.2 h⟩
    · rw [colStep_pos hp]
      show sat _ y ↔ _
      rw [sat_lo]
      refine and_congr_right fun _ => ?_
      have hm : 0 < (e.2.1 - e.1.1) * D := Int.mul_pos hp hD
      cases st with
      | true =>
        unfold inE
        simp only [if_true]
        rw [fl_lt hm]
        unfold sd tt
        constructor <;> intro h <;> grind
      | false =>
        unfold inE
        simp only [Bool.false_eq_true, if_false]
        rw [le_up hm]
        unfold sd tt
        constructor <;> intro h <;> grind

theorem colFold_sat {D kk : Int} (hD : 0 < D) (st : Bool) (x y : Int) : ∀ (es : List (Pt × Pt)) (m : Option Bnd),
    satO (es.foldl (colStep D kk st x) m) y ↔ satO m y ∧ ∀ e ∈ es, inE st D kk x y e
  | [], m => by simp
  | e :: es, m => by
    rw [List.foldl_cons, colFold_sat hD st x y es, colStep_sat hD]
    simp only [List.mem_cons, forall_eq_or_imp]
    exact and_assoc

/-- both bounds are there, if edges go both ways -/
def hasB (m : Option Bnd) : Prop := ∀ b, m = some b → b.1.isSome = true ∧ b.2.isSome = true
theorem colStep_keeps1 {D kk : Int} (st : Bool) (x : Int) (e : Pt × Pt) (m : Option Bnd)
    (h : (∀ b, m = some b → b.1.isSome = true) ∨ 0 < e.2.1 - e.1.1) : ∀ b, colStep D kk st x m e = some b → b.1.isSome = true := by
  intro b hb
  cases m with
  | none => simp [colStep] at hb
  | some a =>
    rcases Int.lt_trichotomy (e.2.1 - e.1.1) 0 with hp | h0 | hp
    · rw [colStep_neg hp] at hb
      rcases h with h | h
      · rw [← Option.some.inj hb]
        have := h a rfl
        split <;> exact this
      · omega
    · rw [colStep_zero h0] at hb
      rcases h with h | h
      · have hab : a = b := by
          split at hb <;> split at hb <;> first | exact Option.some.inj hb | exact absurd hb (by simp)
        exact hab ▸ h a rfl
      · omega
    · rw [colStep_pos hp] at hb
      rw [← Option.some.inj hb]
      split <;> rfl
theorem colStep_keeps2 {D kk : Int} (st : Bool) (x : Int) (e : Pt × Pt) (m : Option Bnd)
    (h : (∀ b, m = some b → b.2.isSome = true) ∨ e.2.1 - e.1.1 < 0) : ∀ b, colStep D kk st x m e = some b → b.2.isSome = true := by
  intro b hb
  cases m with
  | none => simp [colStep] at hb
  | some a =>
    rcases Int.lt_trichotomy (e.2.1 - e.1.1) 0 with hp | h0 | hp
    · rw [colStep_neg hp] at hb
      rw [← Option.some.inj hb]
      split <;> rfl
    · rw [colStep_zero h0] at hb
      rcases h with h | h
      · have hab : a = b := by
          split at hb <;> split at hb <;> first | exact Option.some.inj hb | exact absurd hb (by simp)
        exact hab ▸ h a rfl
      · omega
    · rw [colStep_pos hp] at hb
      rcases h with h | h
      · rw [← Option.some.inj hb]
        have := h a rfl
        split <;> exact this
      · omega
theorem colFold_has1 {D kk : Int} (st : Bool) (x : Int) : ∀ (es : List (Pt × Pt)) (m : Option Bnd),
    ((∀ b, m = some b → b.1.isSome = true) ∨ ∃ e ∈ es, 0 < e.2.1 - e.1.1) → ∀ b, es.foldl (colStep D kk st x) m = some b → b.1.isSome = true
  | [], m, h, b, hb => by
    rcases h with h | ⟨e, he, _⟩
    · exact h b hb
    · simp at he
  | e :: es, m, h, b, hb => by
    rw [List.foldl_cons] at hb
    refine colFold_has1 st x es _ ?_ b hb
    rcases h with h | ⟨f, hf, hp⟩
    · exact .inl (colStep_keeps1 st x e m (.inl h))
    · rcases List.mem_cons.1 hf with rfl | hf
      · exact .inl (colStep_keeps1 st x f m (.inr hp))
      · exact .inr ⟨f, hf, hp⟩
theorem colFold_has2 {D kk : Int} (st : Bool) (x : Int) : ∀ (es : List (Pt × Pt)) (m : Option Bnd),
    ((∀ b, m = some b → b.2.isSome = true) ∨ ∃ e ∈ es, e.2.1 - e.1.1 < 0) → ∀ b, es.foldl (colStep D kk st x) m = some b → b.2.isSome = true
  | [], m, h, b, hb => by
    rcases h with h | ⟨e, he, _⟩
    · exact h b hb
    · simp at he
  | e :: es, m, h, b, hb => by
    rw [List.foldl_cons] at hb
    refine colFold_has2 st x es _ ?_ b hb
    rcases h with h | ⟨f, hf, hp⟩
    · exact .inl (colStep_keeps2 st x e m (.inl h))
    · rcases List.mem_cons.1 hf with rfl | hf
      · exact .inl (colStep_keeps2 st x f m (.inr hp))
      · exact .inr ⟨f, hf, hp⟩

/-- edges go both ways -/
structure Both (es : List (Pt × Pt)) : Prop where
  up : ∃ e ∈ es, 0 < e.2.1 - e.1.1
  down : ∃ e ∈ es, e.2.1 - e.1.1 < 0

/-- a column is just the whole numbers y on the inner side of all edges -/
theorem column_some {p : Polygon} {k : Nat} {st : Bool} {x lo hi : Int} (hD : 0 < p.D) (hB : Both (Sq68.edges p.cs)) :
    Sq71.column p k st x = some (lo, hi) ↔ lo ≤ hi ∧ ∀ y, (lo ≤ y ∧ y ≤ hi) ↔ ∀ e ∈ Sq68.edges p.cs, inE st p.D k x y e := by
  have hD' : (0 : Int) < (p.D : Int) := by omega
  rw [column_def]
  have hs := fun y => colFold_sat (kk := k) hD' st x y (Sq68.edges p.cs) (some (none, none))
  have h1 := colFold_has1 (D := p.D) (kk := k) st x (Sq68.edges p.cs) (some (none, none)) (.inr hB.up)
  have h2 := colFold_has2 (D := p.D) (kk := k) st x (Sq68.edges p.cs) (some (none, none)) (.inr hB.down)
  revert hs h1 h2
  generalize (Sq68.edges p.cs).foldl (colStep p.D k st x) (some (none, none)) = m
  intro hs h1 h2
  have hs' : ∀ y, satO m y ↔ ∀ e ∈ Sq68.edges p.cs, inE st p.D k x y e := by
    intro y
    rw [hs y]
    exact ⟨fun h => h.2, fun h => ⟨⟨by simp, by simp⟩, h⟩⟩
  cases m with
  | none =>
    simp only [colEnd, Option.bind_none]
    constructor
    · intro h; exact absurd h (by simp)
    · intro ⟨hle, h⟩
      exact absurd ((hs' lo).2 ((h lo).1 ⟨by omega, hle⟩)) (by simp [satO])
  | some b =>
    obtain ⟨b1, b2⟩ := b
    have g1 := h1 _ rfl
    have g2 := h2 _ rfl
    obtain ⟨l, rfl⟩ := Option.isSome_iff_exists.1 g1
    obtain ⟨h, rfl⟩ := Option.isSome_iff_exists.1 g2
    have hs2 : ∀ y, (l ≤ y ∧ y ≤ h) ↔ ∀ e ∈ Sq68.edges p.cs, inE st p.D k x y e := by
      intro y
      rw [← hs' y]
      simp [satO, sat]
    simp only [colEnd, Option.bind_some]
    constructor
    · intro hc
      split at hc
      · have := Option.some.inj hc
        have e1 : l = lo := congrArg Prod.fst this
        have e2 : h = hi := congrArg Prod.snd this
        subst e1 e2
        exact ⟨by assumption, hs2⟩
      · exact absurd hc (by simp)
    · intro ⟨hle, hh⟩
      have a1 := (hs2 lo).2 ((hh lo).1 ⟨by omega, hle⟩)
      have a2 := (hs2 hi).2 ((hh hi).1 ⟨hle, by omega⟩)
      have a3 := (hh l).2 ((hs2 l).1 ⟨by omega, by omega⟩)
      have a4 := (hh h).2 ((hs2 h).1 ⟨by omega, by omega⟩)
      rw [if_pos (by omega)]
      congr 2 <;> omega
theorem column_none {p : Polygon} {k : Nat} {st : Bool} {x : Int} (hD : 0 < p.D) (hB : Both (Sq68.edges p.cs)) :
    Sq71.column p k st x = none ↔ ∀ y, ¬ ∀ e ∈ Sq68.edges p.cs, inE st p.D k x y e := by
  have hD' : (0 : Int) < (p.D : Int) := by omega
  rw [column_def]
  have hs := fun y => colFold_sat (kk := k) hD' st x y (Sq68.edges p.cs) (some (none, none))
  have h1 := colFold_has1 (D := p.D) (kk := k) st x (Sq68.edges p.cs) (some (none, none)) (.inr hB.up)
  have h2 := colFold_has2 (D := p.D) (kk := k) st x (Sq68.edges p.cs) (some (none, none)) (.inr hB.down)
  revert hs h1 h2
  generalize (Sq68.edges p.cs).foldl (colStep p.D k st x) (some (none, none)) = m
  intro hs h1 h2
  have hs' : ∀ y, satO m y ↔ ∀ e ∈ Sq68.edges p.cs, inE st p.D k x y e := by
    intro y
    rw [hs y]
    exact ⟨fun h => h.2, fun h => ⟨⟨by simp, by simp⟩, h⟩⟩
  cases m with
  | none =>
    simp only [colEnd, Option.bind_none, true_iff]
    intro y h
    exact (hs' y).2 h
  | some b =>
    obtain ⟨b1, b2⟩ := b
    have g1 := h1 _ rfl
    have g2 := h2 _ rfl
    obtain ⟨l, rfl⟩ := Option.isSome_iff_exists.1 g1
    obtain ⟨h, rfl⟩ := Option.isSome_iff_exists.1 g2
    have hs2 : ∀ y, (l ≤ y ∧ y ≤ h) ↔ ∀ e ∈ Sq68.edges p.cs, inE st p.D k x y e := by
      intro y
      rw [← hs' y]
      simp [satO, sat]
    simp only [colEnd, Option.bind_some]
    constructor
    · intro hc y hy
      have := (hs2 y).2 hy
      rw [if_pos (by omega)] at hc
      exact absurd hc (by simp)
    · intro hh
      rw [if_neg]
      intro hle
      exact hh l ((hs2 l).1 ⟨by omega, hle⟩)
end Pg
end

section
namespace Pg
/-- a polygon's corners by themselves: each edge leaves all corners on its left -/
structure Conv (c : List Pt) : Prop where
  len : 3 ≤ c.length
  nd : c.Nodup
  path : ∃ a r, c = a :: r ∧ Path (Edge c) (c ++ [a])

theorem edge_sub {l m : List Pt} (h : ∀ x ∈ m, x ∈ l) {a b : Pt} (e : Edge l a b) : Edge m a b := ⟨e.1, fun p hp => e.2 p (h p hp)⟩
theorem cyc_conv {o c : List Pt} (h : Cyc o c) (h3 : 3 ≤ c.length) : Conv c := by
  obtain ⟨a, r, e, _, _, hp⟩ := h.ex
  refine ⟨h3, h.nd, a, r, e, ?_⟩
  rw [← e] at hp
  exact path_mono (fun a b q => edge_sub h.mem q) hp

/-- the i-th corner, round and round -/
def cr (c : List Pt) (i : Nat) : Pt := c.getD (i % c.length) (0, 0)
theorem cr_mem {c : List Pt} (h : 0 < c.length) (i : Nat) : cr c i ∈ c := by
  unfold cr
  have : i % c.length < c.length := Nat.mod_lt _ h
  rw [List.getD_eq_getElem?_getD, List.getElem?_eq_getElem this]
  exact List.getElem_mem _
theorem cr_get {c : List Pt} {i : Nat} (h : i < c.length) : c[i]? = some (cr c i) := by
  unfold cr
  rw [Nat.mod_eq_of_lt h, List.getD_eq_getElem?_getD, List.getElem?_eq_getElem h]
  rfl
theorem path_get {E : Pt → Pt → Prop} : ∀ {l : List Pt} {i : Nat} {x y : Pt}, Path E l → l[i]? = some x → l[i + 1]? = some y → E x y
  | [], _, _, _, _, h, _ => by simp at h
  | [_], i, _, _, _, _, h => by simp at h
  | a :: b :: r, 0, x, y, p, h1, h2 => by
    have e1 : a = x := by simpa using h1
    have e2 : b = y := by simpa using h2
    subst e1 e2
    exact p.1
  | a :: b :: r, i + 1, x, y, p, h1, h2 => path_get (l := b :: r) (i := i) p.2 (by simpa using h1) (by simpa using h2)
theorem conv_edge {c : List Pt} (h : Conv c) (i : Nat) : Edge c (cr c i) (cr c (i + 1)) := by
  obtain ⟨a, r, e, hp⟩ := h.path
  have hn := h.len
  have hi : i % c.length < c.length := Nat.mod_lt _ (by omega)
  have e1 : cr c i = cr c (i % c.length) := by unfold cr; rw [Nat.mod_mod]
  have e2 : cr c (i + 1) = cr c (i % c.length + 1) := by unfold cr; rw [Nat.mod_add_mod]
  rw [e1, e2]
  generalize i % c.length = j at hi
  refine path_get (i := j) hp ?_ ?_
  · rw [List.getElem?_append_left hi]
    exact cr_get hi
  · by_cases hj : j + 1 < c.length
    · rw [List.getElem?_append_left hj]
      exact cr_get hj
    · have hj2 : j + 1 = c.length := by omega
      rw [hj2, List.getElem?_append_right (Nat.le_refl _), Nat.sub_self]
      have : cr c c.length = a := by
        unfold cr
        rw [Nat.mod_self, e]
        rfl
      rw [this]
      rfl
theorem cr_inj {c : List Pt} (h : Conv c) {i j : Nat} (hi : i < c.length) (hj : j < c.length) (e : cr c i = cr c j) : i = j := by
  have h1 := cr_get hi
  have h2 := cr_get hj
  rw [e, ← h2] at h1
  exact (List.getElem?_inj hi h.nd).1 h1
theorem cr_shift {c : List Pt} (i : Nat) : cr c (i + c.length) = cr c i := by
  unfold cr; rw [Nat.add_mod_right]
theorem cr_ne {c : List Pt} (h : Conv c) {i j : Nat} (h1 : i < j) (h2 : j < i + c.length) : cr c i ≠ cr c j := by
  intro e
  have hn := h.len
  have e1 : cr c i = cr c (i % c.length) := by unfold cr; rw [Nat.mod_mod]
  have e2 : cr c j = cr c (j % c.length) := by unfold cr; rw [Nat.mod_mod]
  rw [e1, e2] at e
  have := cr_inj h (Nat.mod_lt _ (by omega)) (Nat.mod_lt _ (by omega)) e
  have h3 := Nat.div_add_mod i c.length
  have h4 := Nat.div_add_mod j c.length
  have h5 : c.length * (i / c.length) < c.length * (j / c.length) := by omega
  have h6 : i / c.length < j / c.length := Nat.lt_of_mul_lt_mul_left h5
  have h7 : c.length * (i / c.length + 1) ≤ c.length * (j / c.length) := Nat.mul_le_mul_left _ h6
  rw [Nat.mul_add, Nat.mul_one] at h7
  omega

/-- a corner that is on no end of an edge is strictly to its left -/
theorem edge_strict {c : List Pt} {a b p q : Pt} (hab : Edge c a b) (hpq : Edge c p q) (ha : a ∈ c) (hb : b ∈ c) (hp : p ∈ c) (hq : q ∈ c) (hpa : p ≠ a) (hpb : p ≠ b) : 0 < tr a b p := by
  refine Int.lt_iff_le_and_ne.2 ⟨(hab.2 p hp).1, fun e => ?_⟩
  have e : tr a b p = 0 := e.symm
  have bt := (hab.2 p hp).2 e
  -- p between a and b; both are left of p q
  have h1 := hpq.2 a ha
  have h2 := hpq.2 b hb
  unfold dt at bt
  -- u = a - p, v = b - p are opposite
  have opp : (a.1 - p.1) * (b.1 - p.1) + (a.2 - p.2) * (b.2 - p.2) < 0 := by
    refine Int.not_le.1 fun hge => ?_
    have hcr : (a.1 - p.1) * (b.2 - p.2) - (a.2 - p.2) * (b.1 - p.1) = 0 := by unfold tr at e; grind
    have s := same_vec (v1 := a.1 - p.1) (v2 := a.2 - p.2) (w1 := b.1 - p.1) (w2 := b.2 - p.2)
      (fun z => hpa (Prod.ext (by omega) (by omega))) (fun z => hpb (Prod.ext (by omega) (by omega))) hcr (by grind) (by grind) (by grind)
    exact hab.1 (Prod.ext (by omega) (by omega))
  -- d = q - p: cross(d, u) >= 0, cross(d, v) >= 0, u and v opposite, so both 0
  have hd1 := h1.1
  have hd2 := h2.1
  have hcr : (a.1 - p.1) * (b.2 - p.2) - (a.2 - p.2) * (b.1 - p.1) = 0 := by unfold tr at e; grind
  have z : tr p q a = 0 ∧ tr p q b = 0 := by
    -- cross(d,u) * (u.v) = cross(d,v) * (u.u)
    have i1 : tr p q a * ((a.1 - p.1) * (b.1 - p.1) + (a.2 - p.2) * (b.2 - p.2)) = tr p q b * ((a.1 - p.1) * (a.1 - p.1) + (a.2 - p.2) * (a.2 - p.2)) := by
      unfold tr
      grind
    have i2 : tr p q b * ((a.1 - p.1) * (b.1 - p.1) + (a.2 - p.2) * (b.2 - p.2)) = tr p q a * ((b.1 - p.1) * (b.1 - p.1) + (b.2 - p.2) * (b.2 - p.2)) := by
      unfold tr
      grind
    have n1 : 0 ≤ (a.1 - p.1) * (a.1 - p.1) + (a.2 - p.2) * (a.2 - p.2) := by
      have := sq_nonneg (a.1 - p.1); have := sq_nonneg (a.2 - p.2); omega
    have n2 : 0 ≤ (b.1 - p.1) * (b.1 - p.1) + (b.2 - p.2) * (b.2 - p.2) := by
      have := sq_nonneg (b.1 - p.1); have := sq_nonneg (b.2 - p.2); omega
    constructor
    · refine Int.le_antisymm (Int.not_lt.1 fun hlt => ?_) hd1
      have := Int.mul_neg_of_pos_of_neg hlt opp
      have := Int.mul_nonneg hd2 n1
      omega
    · refine Int.le_antisymm (Int.not_lt.1 fun hlt => ?_) hd2
      have := Int.mul_neg_of_pos_of_neg hlt opp
      have := Int.mul_nonneg hd1 n2
      omega
  have b1 := (h1.2 z.1).1
  have b2 := (h2.2 z.2).1
  -- dot(d, u) >= 0 and dot(d, v) >= 0, u and v opposite and in line with d
  unfold dt at b1 b2
  have za : (q.1 - p.1) * (a.2 - p.2) - (q.2 - p.2) * (a.1 - p.1) = 0 := z.1
  have i3 : ((a.1 - p.1) * (q.1 - p.1) + (a.2 - p.2) * (q.2 - p.2)) * ((b.1 - p.1) * (q.1 - p.1) + (b.2 - p.2) * (q.2 - p.2)) =
      ((a.1 - p.1) * (b.1 - p.1) + (a.2 - p.2) * (b.2 - p.2)) * ((q.1 - p.1) * (q.1 - p.1) + (q.2 - p.2) * (q.2 - p.2)) := by
    have zb : (q.1 - p.1) * (b.2 - p.2) - (q.2 - p.2) * (b.1 - p.1) = 0 := z.2
    grind
  have n3 : 0 < (q.1 - p.1) * (q.1 - p.1) + (q.2 - p.2) * (q.2 - p.2) := by
    have := sq_nonneg (q.1 - p.1); have := sq_nonneg (q.2 - p.2)
    refine Int.lt_iff_le_and_ne.2 ⟨by omega, fun e => ?_⟩
    have := sq_zero e.symm
    exact hpq.1 (Prod.ext (by omega) (by omega))
  have l1 := Int.mul_nonneg b1 b2
  have l2 := Int.mul_neg_of_neg_of_pos opp n3
  omega

/-- three corners in their order -/
theorem tri_pos {c : List Pt} (h : Conv c) {i j k : Nat} (hij : i < j) (hjk : j < k) (hk : k < i + c.length) : 0 < tr (cr c i) (cr c j) (cr c k) := by
  have hn := h.len
  have mem := fun i => cr_mem (c := c) (by omega) i
  -- A: from the first edge
  have A : ∀ m, i + 1 < m → m < i + c.length → 0 < tr (cr c i) (cr c (i + 1)) (cr c m) := fun m h1 h2 =>
    edge_strict (conv_edge h i) (conv_edge h m) (mem _) (mem _) (mem _) (mem _) (fun e => cr_ne h (by omega) h2 e.symm) (fun e => cr_ne h h1 (by omega) e.symm)
  -- B: each edge seen from the first
  have B : ∀ m, i < m → m + 1 < i + c.length → 0 < tr (cr c i) (cr c m) (cr c (m + 1)) := fun m h1 h2 => by
    rw [← tr_cyc]
    exact edge_strict (conv_edge h m) (conv_edge h i) (mem _) (mem _) (mem _) (mem _) (cr_ne h h1 (by omega)) (cr_ne h (by omega) h2)
  induction k with
  | zero => omega
  | succ k ih =>
    by_cases e : j = k
    · subst e
      exact B j hij (by omega)
    · have hjk' : j < k := by omega
      have h1 := ih hjk' (by omega)
      have h2 := B k (by omega) hk
      by_cases e1 : j = i + 1
      · subst e1
        exact A (k + 1) (by omega) hk
      · have a1 := A j (by omega) (by omega)
        have a2 := A k (by omega) (by omega)
        have a3 := A (k + 1) (by omega) hk
        -- Pluecker
        have id : tr (cr c i) (cr c j) (cr c (k + 1)) * tr (cr c i) (cr c (i + 1)) (cr c k) =
            tr (cr c i) (cr c j) (cr c k) * tr (cr c i) (cr c (i + 1)) (cr c (k + 1)) + tr (cr c i) (cr c k) (cr c (k + 1)) * tr (cr c i) (cr c (i + 1)) (cr c j) := by
          unfold tr
          grind
        have p1 := Int.mul_pos h1 a3
        have p2 := Int.mul_pos h2 a1
        refine Int.not_le.1 fun hle => ?_
        have := Int.mul_nonneg (Int.neg_nonneg.2 hle) (Int.le_of_lt a2)
        rw [Int.neg_mul] at this
        omega
end Pg
end

section
namespace Pg
theorem quad (D a b c : Int) (p q r s : Pt) : exc D a b c p * tr q r s + exc D a b c r * tr p q s = exc D a b c q * tr p r s + exc D a b c s * tr p q r := by
  unfold exc tr
  grind
theorem no_alt {cs : List Pt} (h : Conv cs) {D a b c : Int} {i j k l : Nat} (h1 : i < j) (h2 : j < k) (h3 : k < l) (h4 : l < i + cs.length)
    (e1 : 0 < exc D a b c (cr cs i)) (e2 : exc D a b c (cr cs j) ≤ 0) (e3 : 0 < exc D a b c (cr cs k)) (e4 : exc D a b c (cr cs l) ≤ 0) : False := by
  have q := quad D a b c (cr cs i) (cr cs j) (cr cs k) (cr cs l)
  have t1 := tri_pos h h2 h3 (by omega)
  have t2 := tri_pos h h1 (show j < l by omega) h4
  have t3 := tri_pos h (show i < k by omega) h3 h4
  have t4 := tri_pos h h1 h2 (by omega)
  have m1 := Int.mul_pos e1 t1
  have m2 := Int.mul_pos e3 t2
  have m3 := Int.mul_nonneg (Int.neg_nonneg.2 e2) (Int.le_of_lt t3)
  have m4 := Int.mul_nonneg (Int.neg_nonneg.2 e4) (Int.le_of_lt t4)
  rw [Int.neg_mul] at m3 m4
  omega
theorem no_alt2 {cs : List Pt} (h : Conv cs) {D a b c : Int} {i j k l : Nat} (h1 : i < j) (h2 : j < k) (h3 : k < l) (h4 : l < i + cs.length)
    (e1 : exc D a b c (cr cs i) ≤ 0) (e2 : 0 < exc D a b c (cr cs j)) (e3 : exc D a b c (cr cs k) ≤ 0) (e4 : 0 < exc D a b c (cr cs l)) : False := by
  have q := quad D a b c (cr cs i) (cr cs j) (cr cs k) (cr cs l)
  have t1 := tri_pos h h2 h3 (by omega)
  have t2 := tri_pos h h1 (show j < l by omega) h4
  have t3 := tri_pos h (show i < k by omega) h3 h4
  have t4 := tri_pos h h1 h2 (by omega)
  have m1 := Int.mul_nonneg (Int.neg_nonneg.2 e1) (Int.le_of_lt t1)
  have m2 := Int.mul_nonneg (Int.neg_nonneg.2 e3) (Int.le_of_lt t2)
  have m3 := Int.mul_pos e2 t3
  have m4 := Int.mul_pos e4 t4
  rw [Int.neg_mul] at m1 m2
  omega

/-- what holds at one place at most is counted once at most -/
theorem count_one {α : Type} {p : α → Bool} : ∀ {l : List α}, (∀ (i j : Nat) (x y : α), i < j → l[i]? = some x → l[j]? = some y → p x = true → p y = true → False) → l.countP p ≤ 1
  | [], _ => by simp
  | a :: l, h => by
    rw [List.countP_cons]
    by_cases ha : p a = true
    · have : l.countP p = 0 := by
        rw [List.countP_eq_zero]
        intro x hx hp
        obtain ⟨j, hj, e⟩ := List.mem_iff_getElem.1 hx
        exact h 0 (j + 1) a x (by omega) rfl (by rw [List.getElem?_cons_succ, List.getElem?_eq_getElem hj, e]) ha hp
      rw [this, if_pos ha]
      omega
    · rw [if_neg ha]
      exact count_one fun i j x y hij hx hy => h (i + 1) (j + 1) x y (by omega) (by simpa using hx) (by simpa using hy)

theorem before2_at {cs : List Pt} {k : Nat} {e : Pt × Pt} (h : (before2 cs)[k]? = some e) : k < cs.length ∧ e.1 = cr cs (k + cs.length - 1) ∧ e.2 = cr cs (k + cs.length) := by
  unfold before2 at h
  rw [List.getElem?_zip_eq_some] at h
  obtain ⟨h1, h2⟩ := h
  have hk : k < cs.length := (List.getElem?_eq_some_iff.1 h2).1
  refine ⟨hk, ?_, ?_⟩
  · have e1 : cr cs (k + cs.length - 1) = cr cs ((k + cs.length - 1) % cs.length) := by unfold cr; rw [Nat.mod_mod]
    cases k with
    | zero =>
      rw [List.getElem?_append_left (by simp; omega), List.getElem?_drop, Nat.add_zero] at h1
      rw [e1, Nat.zero_add, Nat.mod_eq_of_lt (by omega)]
      rw [cr_get (by omega)] at h1
      exact (Option.some.inj h1).symm
    | succ k =>
      have hd : (cs.drop (cs.length - 1)).length = 1 := by simp; omega
      rw [List.getElem?_append_right (by omega), hd, Nat.add_sub_cancel, List.getElem?_take, if_pos (by omega), cr_get (by omega)] at h1
      have : k + 1 + cs.length - 1 = k + cs.length := by omega
      rw [this, cr_shift]
      exact (Option.some.inj h1).symm
  · rw [cr_shift]
    rw [cr_get hk] at h2
    exact (Option.some.inj h2).symm
theorem before2_len (cs : List Pt) : (before2 cs).length = cs.length := by
  unfold before2
  rw [List.length_zip]
  simp

def dn (D a b c : Int) (e : Pt × Pt) : Bool := decide (0 < exc D a b c e.1 ∧ exc D a b c e.2 < 0)
def upw (D a b c : Int) (e : Pt × Pt) : Bool := decide (exc D a b c e.1 < 0 ∧ 0 < exc D a b c e.2)
def crs (D a b c : Int) (e : Pt × Pt) : Bool := decide (exc D a b c e.1 * exc D a b c e.2 < 0)
def kp (D a b c : Int) (e : Pt × Pt) : Bool := decide (exc D a b c e.2 ≤ 0)

theorem dn_one {cs : List Pt} (h : Conv cs) (D a b c : Int) : (before2 cs).countP (dn D a b c) ≤ 1 := by
  have hn := h.len
  refine count_one fun i j x y hij hx hy px py => ?_
  obtain ⟨k1, x1, x2⟩ := before2_at hx
  obtain ⟨k2, y1, y2⟩ := before2_at hy
  have px := of_decide_eq_true px
  have py := of_decide_eq_true py
  rw [x1, x2] at px
  rw [y1, y2] at py
  generalize hn' : cs.length = n at *
  have e1 : i + n ≠ j + n - 1 := fun e => by rw [e] at px; omega
  have e2 : j + n ≠ i + n - 1 + n := fun e => by
    rw [e, ← hn', cr_shift, hn'] at py
    omega
  exact no_alt h (i := i + n - 1) (j := i + n) (k := j + n - 1) (l := j + n) (by omega) (by omega) (by omega) (by omega) px.1 (by omega) py.1 (by omega)
theorem up_one {cs : List Pt} (h : Conv cs) (D a b c : Int) : (before2 cs).countP (upw D a b c) ≤ 1 := by
  have hn := h.len
  refine count_one fun i j x y hij hx hy px py => ?_
  obtain ⟨k1, x1, x2⟩ := before2_at hx
  obtain ⟨k2, y1, y2⟩ := before2_at hy
  have px := of_decide_eq_true px
  have py := of_decide_eq_true py
  rw [x1, x2] at px
  rw [y1, y2] at py
  generalize hn' : cs.length = n at *
  have e1 : i + n ≠ j + n - 1 := fun e => by rw [e] at px; omega
  have e2 : j + n ≠ i + n - 1 + n := fun e => by
    rw [e, ← hn', cr_shift, hn'] at py
    omega
  exact no_alt2 h (i := i + n - 1) (j := i + n) (k := j + n - 1) (l := j + n) (by omega) (by omega) (by omega) (by omega) (by omega) px.2 (by omega) py.2

theorem crs_le (D a b c : Int) : ∀ l : List (Pt × Pt), l.countP (crs D a b c) ≤ l.countP (dn D a b c) + l.countP (upw D a b c)
  | [] => by simp
  | e :: l => by
    have ih := crs_le D a b c l
    rw [List.countP_cons, List.countP_cons, List.countP_cons]
    by_cases h : crs D a b c e = true
    · have := neg_mul_cases.1 (of_decide_eq_true h)
      rcases this with t | t
      · have : upw D a b c e = true := decide_eq_true t
        rw [if_pos h, if_pos this]
        omega
      · have : dn D a b c e = true := decide_eq_true t
        rw [if_pos h, if_pos this]
        omega
    · rw [if_neg h]
      omega
theorem left_count (D a b c : Int) : ∀ l : List (Pt × Pt), (l.flatMap (leftOf D a b c)).length = l.countP (crs D a b c) + l.countP (kp D a b c)
  | [] => by simp
  | e :: l => by
    rw [List.flatMap_cons, List.length_append, left_count D a b c l, List.countP_cons, List.countP_cons]
    unfold leftOf crs kp
    rw [List.length_append]
    by_cases h1 : exc D a b c e.1 * exc D a b c e.2 < 0 <;> by_cases h2 : exc D a b c e.2 ≤ 0 <;> simp [h1, h2] <;> omega
/-- what a cut leaves is one place more at most -/
theorem left_len {cs : List Pt} (h : Conv cs) (D a b c : Int) : (left D a b c cs).length ≤ cs.length + 1 := by
  unfold left
  rw [left_count]
  have h1 := crs_le D a b c (before2 cs)
  have h2 := dn_one h D a b c
  have h3 := up_one h D a b c
  have h4 : (before2 cs).countP (kp D a b c) ≤ cs.length := by
    rw [← before2_len cs]
    exact List.countP_le_length
  by_cases h0 : (before2 cs).countP (crs D a b c) = 0
  · omega
  · -- some corner is cut off
    have : (before2 cs).countP (kp D a b c) < cs.length := by
      refine Nat.lt_of_le_of_ne h4 fun e => h0 ?_
      rw [← before2_len cs] at e
      rw [List.countP_eq_length] at e
      rw [List.countP_eq_zero]
      intro x hx hc
      have k2 := of_decide_eq_true (e x hx)
      obtain ⟨w, hw⟩ := before2_second (before2_mem hx).1
      have k1 : exc D a b c x.1 ≤ 0 := of_decide_eq_true (e _ hw)
      have := neg_mul_cases.1 (of_decide_eq_true hc)
      omega
    omega

/-! what stays true of the corners -/
theorem corners_len (l : List Pt) : (Sq68.corners l).length ≤ l.length := by
  by_cases h : 2 ≤ (Sq68.inOrder l).length
  · have c := (corners_cyc h).1
    exact nodup_le c.nd fun x hx => (mem_inOrder l x).1 (c.mem x hx)
  · have h1 := corners_short (l := l) (by omega)
    have h2 : (Sq68.corners l).length ≤ (Sq68.inOrder l).length := by
      revert h
      unfold Sq68.corners
      generalize hq : Sq68.inOrder l = o
      intro h
      match o, h with
      | [], _ => simp
      | [a], _ =>
        have := round_len1 a
        unfold Sq68.corners at this
        have hi : Sq68.inOrder [a] = [a] := rfl
        rw [hi] at this
        rw [this]
        exact Nat.le_refl _
      | a :: b :: r, h => simp at h
    have h3 := nodup_le (sorted_nodup (inOrder_sorted l)) fun x hx => (mem_inOrder l x).1 hx
    omega
theorem corners_sub (l : List Pt) : ∀ x ∈ Sq68.corners l, x ∈ l := by
  intro x hx
  by_cases h : 2 ≤ (Sq68.inOrder l).length
  · exact (mem_inOrder l x).1 ((corners_cyc h).1.mem x hx)
  · revert h hx
    have hm := fun x => mem_inOrder l x
    unfold Sq68.corners
    revert hm
    generalize hq : Sq68.inOrder l = o
    intro hm hx h
    match o, h, hm, hx with
    | [], _, _, hx => simp at hx
    | [a], _, hm, hx =>
      have := round_len1 a
      unfold Sq68.corners at this
      have hi : Sq68.inOrder [a] = [a] := rfl
      rw [hi] at this
      simp only at hx this
      rw [this] at hx
      exact (hm x).1 hx
    | a :: b :: r, h, _, _ => simp at h
theorem corners_conv {l : List Pt} (h : Sq68.twice (Sq68.corners l) ≠ 0) : Conv (Sq68.corners l) := by
  have h3 : 3 ≤ (Sq68.corners l).length := Nat.not_lt.1 fun hlt => h (twice_small hlt)
  have h2 : 2 ≤ (Sq68.inOrder l).length := by
    have := corners_short (l := l)
    omega
  exact cyc_conv (corners_cyc h2).1 h3
theorem edge_big_back {k : Int} (hk : 0 < k) {l : List Pt} {a b : Pt} (h : Edge (l.map (big k)) (big k a) (big k b)) : Edge l a b := by
  have hkk : 0 < k * k := Int.mul_pos hk hk
  refine ⟨fun e => h.1 (by rw [e]), fun p hp => ?_⟩
  have := h.2 (big k p) (List.mem_map_of_mem hp)
  rw [tr_big, dt_big, dt_big] at this
  refine ⟨Int.not_lt.1 fun hlt => ?_, fun e => ?_⟩
  · have := Int.mul_neg_of_neg_of_pos hlt hkk
    omega
  · have q := this.2 (by rw [e]; simp)
    exact ⟨Int.not_lt.1 fun hlt => by have := Int.mul_neg_of_neg_of_pos hlt hkk; omega, Int.le_of_mul_le_mul_right q.2 hkk⟩
theorem path_map_back {E F : Pt → Pt → Prop} {f : Pt → Pt} (h : ∀ a b, F (f a) (f b) → E a b) : ∀ {l : List Pt}, Path F (l.map f) → Path E l
  | [], _ => trivial
  | [_], _ => trivial
  | _ :: _ :: _, p => ⟨h _ _ p.1, path_map_back h p.2⟩
theorem conv_big_back {k : Int} (hk : 0 < k) {c : List Pt} (h : Conv (c.map (big k))) : Conv c := by
  obtain ⟨a, r, e, hp⟩ := h.path
  refine ⟨by simpa using h.len, ?_, ?_⟩
  · have := h.nd
    rw [List.Nodup, List.pairwise_map] at this
    exact this.imp fun hab e => hab (by rw [e])
  · match c, e with
    | b :: s, e =>
      have eb : big k b = a := (List.cons.inj e).1
      refine ⟨b, s, rfl, ?_⟩
      rw [← eb] at hp
      have : List.map (big k) (b :: s) ++ [big k b] = List.map (big k) (b :: s ++ [b]) := by simp
      rw [this] at hp
      exact path_map_back (f := big k) (F := Edge (List.map (big k) (b :: s))) (fun x y q => edge_big_back hk q) hp
theorem red_conv {D : Nat} (hD : 0 < D) {c : List Pt} (h : Conv c) : Conv (red D c).cs := by
  have e := (red_big_back hD c).1
  have hg : (0 : Int) < (Nat.gcd D (gAll c) : Nat) := by have := gcd_pos_left (g := gAll c) hD; omega
  exact conv_big_back hg (by rw [e]; exact h)
/-- moved -/
def mv (r u : Int) (p : Pt) : Pt := (p.1 + r, p.2 + u)
theorem conv_mv {c : List Pt} (h : Conv c) (r u : Int) : Conv (c.map (mv r u)) := by
  obtain ⟨a, s, e, hp⟩ := h.path
  have et : ∀ a b p, tr (mv r u a) (mv r u b) (mv r u p) = tr a b p := by intro a b p; unfold tr mv; grind
  have ed : ∀ a b p, dt (mv r u a) (mv r u b) (mv r u p) = dt a b p := by intro a b p; unfold dt mv; grind
  have ei : ∀ a b, mv r u a = mv r u b → a = b := by
    intro a b e
    have h1 := congrArg Prod.fst e
    have h2 := congrArg Prod.snd e
    unfold mv at h1 h2
    simp only at h1 h2
    exact Prod.ext (by omega) (by omega)
  refine ⟨by simpa using h.len, ?_, mv r u a, s.map (mv r u), by rw [e]; rfl, ?_⟩
  · rw [List.Nodup, List.pairwise_map]
    exact h.nd.imp fun hab q => hab (ei _ _ q)
  · have : c.map (mv r u) ++ [mv r u a] = (c ++ [a]).map (mv r u) := by simp
    rw [this]
    refine path_map (fun x y q => ?_) hp
    refine ⟨fun z => q.1 (ei _ _ z), fun p hp => ?_⟩
    obtain ⟨p', hp', rfl⟩ := List.mem_map.1 hp
    rw [et, ed, ed]
    exact q.2 p' hp'
end Pg
end

section
namespace Pg
open Sq71 (Polygon)
/-- no corner's number beyond M -/
def Bdd (M : Nat) (g : Polygon) : Prop := ∀ c ∈ g.cs, c.1.natAbs ≤ M * g.D ∧ c.2.natAbs ≤ M * g.D
theorem red_bdd {M D : Nat} (hD : 0 < D) {c : List Pt} (h : ∀ p ∈ c, p.1.natAbs ≤ M * D ∧ p.2.natAbs ≤ M * D) : Bdd M (red D c) := by
  obtain ⟨e1, e2, _⟩ := red_big_back hD c
  have hg := gcd_pos_left (g := gAll c) hD
  intro p hp
  have hm : big (Nat.gcd D (gAll c) : Nat) p ∈ (red D c).cs.map (big (Nat.gcd D (gAll c) : Nat)) := List.mem_map_of_mem hp
  rw [e1] at hm
  have := h _ hm
  unfold big at this
  simp only [Int.natAbs_mul, Int.natAbs_natCast] at this
  generalize hgg : Nat.gcd D (gAll c) = g at *
  have e3 : M * D = M * (red D c).D * g := by rw [Nat.mul_assoc, e2]
  rw [e3] at this
  exact ⟨Nat.le_of_mul_le_mul_right this.1 hg, Nat.le_of_mul_le_mul_right this.2 hg⟩
theorem cross_bd {s e se ee : Int} {M : Nat} (hs : s.natAbs ≤ M) (he : e.natAbs ≤ M) (h : se * ee < 0) : (s * ee - e * se).natAbs ≤ M * (ee - se).natAbs := by
  have h1 : (s * ee).natAbs ≤ M * ee.natAbs := by rw [Int.natAbs_mul]; exact Nat.mul_le_mul_right _ hs
  have h2 : (e * se).natAbs ≤ M * se.natAbs := by rw [Int.natAbs_mul]; exact Nat.mul_le_mul_right _ he
  have h3 : (ee - se).natAbs = ee.natAbs + se.natAbs := by
    rcases neg_mul_cases.1 h with t | t <;> omega
  rw [h3, Nat.mul_add]
  omega
theorem left_bd {M : Nat} {D a b c : Int} {cs : List Pt} (h : ∀ p ∈ cs, p.1.natAbs ≤ M ∧ p.2.natAbs ≤ M) : ∀ t ∈ left D a b c cs, t.1.natAbs ≤ M * t.2.2.natAbs ∧ t.2.1.natAbs ≤ M * t.2.2.natAbs := by
  intro t ht
  obtain ⟨e, he, ht⟩ := List.mem_flatMap.1 ht
  have hm := before2_mem he
  unfold leftOf at ht
  rcases List.mem_append.1 ht with ht | ht
  · split at ht
    · rename_i hneg
      have ht : t = _ := List.mem_singleton.1 ht
      subst ht
      have b1 := cross_bd (h _ hm.1).1 (h _ hm.2).1 hneg
      have b2 := cross_bd (h _ hm.1).2 (h _ hm.2).2 hneg
      unfold crossing
      simp only
      split
      · simp only [Int.one_mul]
        exact ⟨b1, b2⟩
      · simp only [Int.neg_mul, Int.one_mul, Int.natAbs_neg]
        exact ⟨b1, b2⟩
    · simp at ht
  · split at ht
    · have ht : t = _ := List.mem_singleton.1 ht
      subst ht
      have := h _ hm.2
      show e.2.1.natAbs ≤ M * (1 : Int).natAbs ∧ e.2.2.natAbs ≤ M * (1 : Int).natAbs
      simpa using this
    · simp at ht
theorem places_bd {M : Nat} {D a b c : Int} {cs : List Pt} (h : ∀ p ∈ cs, p.1.natAbs ≤ M ∧ p.2.natAbs ≤ M) :
    ∀ p ∈ placesOf (left D a b c cs), p.1.natAbs ≤ M * shared (left D a b c cs) ∧ p.2.natAbs ≤ M * shared (left D a b c cs) := by
  intro p hp
  obtain ⟨t, ht, rfl⟩ := List.mem_map.1 hp
  have hb := left_bd h t ht
  have hpos := left_pos t ht
  obtain ⟨m, hm⟩ : t.2.2.natAbs ∣ shared (left D a b c cs) := (shared_dvd _ 1).2 t ht
  have e : (shared (left D a b c cs) : Int) / t.2.2 = m := by
    have : (shared (left D a b c cs) : Int) = t.2.2 * (m : Int) := by
      rw [hm, Int.natCast_mul]
      congr 1
      omega
    rw [this]
    exact Int.mul_ediv_cancel_left _ (by omega)
  simp only
  rw [e, Int.natAbs_mul, Int.natAbs_mul, Int.natAbs_natCast, hm, ← Nat.mul_assoc]
  exact ⟨Nat.mul_le_mul_right _ hb.1, Nat.mul_le_mul_right _ hb.2⟩

/-! within a box that's 24 wide and high -/
def Box (g : Polygon) : Prop := ∃ mx my : Int, ∀ c ∈ g.cs, (c.1 - mx * g.D).natAbs ≤ 12 * g.D ∧ (c.2 - my * g.D).natAbs ≤ 12 * g.D
theorem red_box {D : Nat} (hD : 0 < D) {c : List Pt} {mx my : Int} (h : ∀ p ∈ c, (p.1 - mx * D).natAbs ≤ 12 * D ∧ (p.2 - my * D).natAbs ≤ 12 * D) : Box (red D c) := by
  obtain ⟨e1, e2, _⟩ := red_big_back hD c
  have hg := gcd_pos_left (g := gAll c) hD
  refine ⟨mx, my, fun p hp => ?_⟩
  have hm : big (Nat.gcd D (gAll c) : Nat) p ∈ (red D c).cs.map (big (Nat.gcd D (gAll c) : Nat)) := List.mem_map_of_mem hp
  rw [e1] at hm
  have := h _ hm
  generalize hgg : Nat.gcd D (gAll c) = g at *
  have e3 : 12 * D = 12 * (red D c).D * g := by rw [Nat.mul_assoc, e2]
  have e4 : (D : Int) = ((red D c).D : Int) * (g : Int) := by rw [← Int.natCast_mul, e2]
  unfold big at this
  simp only at this
  have k1 : p.1 * (g : Int) - mx * D = (p.1 - mx * (red D c).D) * g := by rw [e4]; grind
  have k2 : p.2 * (g : Int) - my * D = (p.2 - my * (red D c).D) * g := by rw [e4]; grind
  rw [k1, k2, Int.natAbs_mul, Int.natAbs_mul, Int.natAbs_natCast, e3] at this
  exact ⟨Nat.le_of_mul_le_mul_right this.1 hg, Nat.le_of_mul_le_mul_right this.2 hg⟩
theorem left_box {M : Nat} {m n : Int} {D a b c : Int} {cs : List Pt} (h : ∀ p ∈ cs, (p.1 - m).natAbs ≤ M ∧ (p.2 - n).natAbs ≤ M) :
    ∀ t ∈ left D a b c cs, (t.1 - m * t.2.2).natAbs ≤ M * t.2.2.natAbs ∧ (t.2.1 - n * t.2.2).natAbs ≤ M * t.2.2.natAbs := by
  intro t ht
  obtain ⟨e, he, ht⟩ := List.mem_flatMap.1 ht
  have hm := before2_mem he
  unfold leftOf at ht
  rcases List.mem_append.1 ht with ht | ht
  · split at ht
    · rename_i hneg
      have ht : t = _ := List.mem_singleton.1 ht
      subst ht
      have b1 := cross_bd (h _ hm.1).1 (h _ hm.2).1 hneg
      have b2 := cross_bd (h _ hm.1).2 (h _ hm.2).2 hneg
      unfold crossing
      simp only
      generalize exc D a b c e.2 = ee at *
      generalize exc D a b c e.1 = es at *
      have q1 : (e.1.1 - m) * ee - (e.2.1 - m) * es = e.1.1 * ee - e.2.1 * es - m * (ee - es) := by grind
      have q2 : (e.1.2 - n) * ee - (e.2.2 - n) * es = e.1.2 * ee - e.2.2 * es - n * (ee - es) := by grind
      rw [q1] at b1
      rw [q2] at b2
      split
      · simp only [Int.one_mul]
        exact ⟨b1, b2⟩
      · simp only [Int.neg_mul, Int.one_mul, Int.natAbs_neg, Int.mul_neg]
        constructor <;> omega
    · simp at ht
  · split at ht
    · have ht : t = _ := List.mem_singleton.1 ht
      subst ht
      have := h _ hm.2
      show (e.2.1 - m * 1).natAbs ≤ M * (1 : Int).natAbs ∧ (e.2.2 - n * 1).natAbs ≤ M * (1 : Int).natAbs
      simpa using this
    · simp at ht
theorem places_box {M : Nat} {m n : Int} {D a b c : Int} {cs : List Pt} (h : ∀ p ∈ cs, (p.1 - m).natAbs ≤ M ∧ (p.2 - n).natAbs ≤ M) :
    ∀ p ∈ placesOf (left D a b c cs), (p.1 - m * shared (left D a b c cs)).natAbs ≤ M * shared (left D a b c cs) ∧ (p.2 - n * shared (left D a b c cs)).natAbs ≤ M * shared (left D a b c cs) := by
  intro p hp
  obtain ⟨t, ht, rfl⟩ := List.mem_map.1 hp
  have hb := left_box h t ht
  have hpos := left_pos t ht
  obtain ⟨k, hm⟩ : t.2.2.natAbs ∣ shared (left D a b c cs) := (shared_dvd _ 1).2 t ht
  have e0 : (shared (left D a b c cs) : Int) = t.2.2 * (k : Int) := by
    rw [hm, Int.natCast_mul]
    congr 1
    omega
  have e : (shared (left D a b c cs) : Int) / t.2.2 = k := by
    rw [e0]
    exact Int.mul_ediv_cancel_left _ (by omega)
  simp only
  have k1 : t.1 * (k : Int) - m * (t.2.2 * (k : Int)) = (t.1 - m * t.2.2) * k := by grind
  have k2 : t.2.1 * (k : Int) - n * (t.2.2 * (k : Int)) = (t.2.1 - n * t.2.2) * k := by grind
  rw [e, e0, k1, k2, Int.natAbs_mul, Int.natAbs_mul, Int.natAbs_natCast, hm, ← Nat.mul_assoc]
  exact ⟨Nat.mul_le_mul_right _ hb.1, Nat.mul_le_mul_right _ hb.2⟩

/-- what is known of a polygon that is kept -/
structure GoodP (g : Polygon) (t : Nat) : Prop where
  D0 : 0 < g.D
  D1 : g.D ≤ 1000
  cv : Conv g.cs
  bd : Bdd 100 g
  len : g.cs.length ≤ 8 + t
  bx : Box g
theorem GoodP.more {g : Polygon} {t u : Nat} (h : GoodP g t) (hu : t ≤ u) : GoodP g u := ⟨h.D0, h.D1, h.cv, h.bd, by have := h.len; omega, h.bx⟩
theorem good_begin {q : Nat} {l : List Pt} (h1 : 0 < q) (h2 : q ≤ 6) (hl : l.length ≤ 8) (hb : ∀ p ∈ l, p.1.natAbs ≤ 12 * q ∧ p.2.natAbs ≤ 12 * q) (h : Sq68.twice (Sq68.corners l) ≠ 0) :
    GoodP (red q (Sq68.corners l)) 0 := by
  obtain ⟨e1, e2, e3⟩ := red_big_back h1 (Sq68.corners l)
  refine ⟨e3, ?_, red_conv h1 (corners_conv h), ?_, ?_, red_box (mx := 0) (my := 0) h1 fun p hp => by have := hb p (corners_sub l p hp); simp; omega⟩
  · have : (red q (Sq68.corners l)).D ≤ q := Nat.div_le_self _ _
    omega
  · exact red_bdd h1 fun p hp => by
      have := hb p (corners_sub l p hp)
      omega
  · rw [red_length]
    have := corners_len l
    omega
theorem good_cut {g : Polygon} {t : Nat} {a b c : Int} (hg : GoodP g t) (h : Sq68.twice (Sq68.corners (placesOf (left g.D a b c g.cs))) ≠ 0)
    (hD : (red (g.D * shared (left g.D a b c g.cs)) (Sq68.corners (placesOf (left g.D a b c g.cs)))).D ≤ 1000) :
    GoodP (red (g.D * shared (left g.D a b c g.cs)) (Sq68.corners (placesOf (left g.D a b c g.cs)))) (t + 1) := by
  have hs : 0 < shared (left g.D a b c g.cs) := shared_pos _ 1 (by omega) left_pos
  have hDs := Nat.mul_pos hg.D0 hs
  obtain ⟨mx, my, hbx⟩ := hg.bx
  refine ⟨(red_big_back hDs _).2.2, hD, red_conv hDs (corners_conv h), ?_, ?_, red_box (mx := mx) (my := my) hDs fun p hp => ?_⟩
  · refine red_bdd hDs fun p hp => ?_
    have := places_bd (M := 100 * g.D) hg.bd p (corners_sub _ p hp)
    rw [← Nat.mul_assoc]
    exact this
  · rw [red_length]
    have h1 := corners_len (placesOf (left g.D a b c g.cs))
    have h2 := left_len hg.cv g.D a b c
    have h3 := hg.len
    unfold placesOf at h1
    rw [List.length_map] at h1
    unfold placesOf
    omega
  · have := places_box (M := 12 * g.D) (m := mx * g.D) (n := my * g.D) (a := a) (b := b) (c := c) (D := g.D) hbx p (corners_sub _ p hp)
    rw [Int.natCast_mul, ← Int.mul_assoc, ← Int.mul_assoc, ← Nat.mul_assoc]
    exact this
end Pg
end

section
namespace Pg
/-! ### sums over whole numbers one behind another -/
def sumI (f : Int → Int) (a : Int) : Nat → Int
  | 0 => 0
  | n + 1 => sumI f a n + f (a + n)
theorem sumI_add (f : Int → Int) (a : Int) (n : Nat) : ∀ m, sumI f a (n + m) = sumI f a n + sumI f (a + n) m
  | 0 => by simp [sumI]
  | m + 1 => by
    show sumI f a (n + m) + f (a + ((n + m : Nat) : Int)) = sumI f a n + (sumI f (a + n) m + f (a + n + m))
    rw [sumI_add f a n m]
    have : a + ((n + m : Nat) : Int) = a + n + m := by omega
    rw [this]
    omega
theorem sumI_congr {f g : Int → Int} {a : Int} : ∀ {n : Nat}, (∀ x, a ≤ x → x < a + n → f x = g x) → sumI f a n = sumI g a n
  | 0, _ => rfl
  | n + 1, h => by
    show sumI f a n + f (a + n) = sumI g a n + g (a + n)
    rw [sumI_congr fun x h1 h2 => h x h1 (by omega), h (a + n) (by omega) (by omega)]
theorem sumI_shift (f : Int → Int) (a d c : Int) : ∀ n : Nat, sumI (fun x => f (x + d) + c) a n = sumI f (a + d) n + c * n
  | 0 => by simp [sumI]
  | n + 1 => by
    show sumI (fun x => f (x + d) + c) a n + (f (a + n + d) + c) = sumI f (a + d) n + f (a + d + n) + c * ((n + 1 : Nat) : Int)
    rw [sumI_shift f a d c n]
    have : a + n + d = a + d + n := by omega
    rw [this, Int.natCast_add, Int.mul_add]
    omega
theorem sumI_lin (f g : Int → Int) (a : Int) : ∀ n : Nat, sumI (fun x => f x - g x + 1) a n = sumI f a n - sumI g a n + n
  | 0 => by simp [sumI]
  | n + 1 => by
    show sumI (fun x => f x - g x + 1) a n + (f (a + n) - g (a + n) + 1) = sumI f a n + f (a + n) - (sumI g a n + g (a + n)) + ((n + 1 : Nat) : Int)
    rw [sumI_lin f g a n]
    omega
theorem sumI_neg (f : Int → Int) (a : Int) : ∀ n : Nat, sumI (fun x => - f x) a n = - sumI f a n
  | 0 => by simp [sumI]
  | n + 1 => by
    show sumI (fun x => - f x) a n + - f (a + n) = - (sumI f a n + f (a + n))
    rw [sumI_neg f a n]
    omega
/-- from a on, below b -/
def S (f : Int → Int) (a b : Int) : Int := sumI f a (b - a).toNat
theorem S_self (f : Int → Int) (a : Int) : S f a a = 0 := by unfold S; rw [Int.sub_self]; rfl
theorem S_split (f : Int → Int) {a b c : Int} (h1 : a ≤ b) (h2 : b ≤ c) : S f a c = S f a b + S f b c := by
  unfold S
  have e : (c - a).toNat = (b - a).toNat + (c - b).toNat := by omega
  rw [e, sumI_add]
  have : a + (((b - a).toNat : Nat) : Int) = b := by omega
  rw [this]
theorem S_congr {f g : Int → Int} {a b : Int} (h : ∀ x, a ≤ x → x < b → f x = g x) : S f a b = S g a b := by
  unfold S
  exact sumI_congr fun x h1 h2 => h x h1 (by omega)
theorem S_shift (f : Int → Int) {a b : Int} (h : a ≤ b) (d c : Int) : S (fun x => f (x + d) + c) a b = S f (a + d) (b + d) + c * (b - a) := by
  unfold S
  rw [sumI_shift]
  have e : (b + d - (a + d)).toNat = (b - a).toNat := by omega
  have e2 : (((b - a).toNat : Nat) : Int) = b - a := by omega
  rw [e, e2]
theorem S_neg (f : Int → Int) (a b : Int) : S (fun x => - f x) a b = - S f a b := sumI_neg f a _
theorem S_lin (f g : Int → Int) {a b : Int} (h : a ≤ b) : S (fun x => f x - g x + 1) a b = S f a b - S g a b + (b - a) := by
  unfold S
  rw [sumI_lin]
  omega

/-! ### one edge to the right -/
section
variable {D : Int} (hD : 0 < D)
/-- where the edge is at x, rounded up -/
def lo (D k : Int) (e : Pt × Pt) (x : Int) : Int := Sq71.up (tt D k x e) ((e.2.1 - e.1.1) * D)
/-- the first x that isn't left of a corner -/
def fx (D k : Int) (a : Pt) : Int := Sq71.up (k * a.1) D
def E (D k : Int) (e : Pt × Pt) : Int := S (lo D k e) (fx D k e.1) (fx D k e.2)
theorem up_add {t m c : Int} (hm : 0 < m) : Sq71.up (t + m * c) m = Sq71.up t m + c := by
  unfold Sq71.up
  have : -(t + m * c) = -t + m * (-c) := by grind
  rw [this, Int.add_mul_ediv_left _ _ (by omega)]
  omega
include hD in
theorem fx_more (k : Int) (a : Pt) : fx D (k + D) a = fx D k a + a.1 := by
  unfold fx
  have : (k + D) * a.1 = k * a.1 + D * a.1 := by grind
  rw [this, up_add hD]
include hD in
theorem lt_fx {k x : Int} {a : Pt} : x < fx D k a ↔ D * x < k * a.1 := by
  unfold fx
  have := lt_up (a := k * a.1) (b := D) (y := x) hD
  rw [Int.mul_comm D x]
  omega
include hD in
theorem fx_le {k x : Int} {a : Pt} : fx D k a ≤ x ↔ k * a.1 ≤ D * x := by
  have := lt_fx hD (k := k) (x := x) (a := a)
  omega
include hD in
theorem fx_mono {k : Int} (hk : 0 ≤ k) {a b : Pt} (h : a.1 ≤ b.1) : fx D k a ≤ fx D k b := by
  rw [fx_le hD]
  have h1 : k * a.1 ≤ k * b.1 := Int.mul_le_mul_of_nonneg_left h hk
  have h2 : k * b.1 ≤ D * fx D k b := (fx_le hD).1 (Int.le_refl _)
  omega
include hD in
theorem lo_size {e : Pt × Pt} (he : e.1.1 < e.2.1) (k x : Int) : lo D (k + D) e (x + e.1.1) = lo D k e x + e.1.2 := by
  unfold lo
  have hm : 0 < (e.2.1 - e.1.1) * D := Int.mul_pos (by omega) hD
  have : tt D (k + D) (x + e.1.1) e = tt D k x e + ((e.2.1 - e.1.1) * D) * e.1.2 := by unfold tt; grind
  rw [this, up_add hm]
include hD in
theorem lo_per {e : Pt × Pt} (he : e.1.1 < e.2.1) (k x : Int) : lo D k e (x + (e.2.1 - e.1.1)) = lo D k e x + (e.2.2 - e.1.2) := by
  unfold lo
  have hm : 0 < (e.2.1 - e.1.1) * D := Int.mul_pos (by omega) hD
  have : tt D k (x + (e.2.1 - e.1.1)) e = tt D k x e + ((e.2.1 - e.1.1) * D) * (e.2.2 - e.1.2) := by unfold tt; grind
  rw [this, up_add hm]
include hD in
theorem E_two {k : Int} (hk : 0 ≤ k) {e : Pt × Pt} (he : e.1.1 ≤ e.2.1) : E D (k + D + D) e - 2 * E D (k + D) e + E D k e = (e.2.1 - e.1.1) * (e.1.2 + e.2.2) := by
  rcases Int.lt_or_eq_of_le he with he | he
  · -- one size more
    have one : ∀ k, 0 ≤ k → E D (k + D) e = S (lo D k e) (fx D k e.1) (fx D k e.2 + (e.2.1 - e.1.1)) + e.1.2 * (fx D k e.2 - fx D k e.1 + (e.2.1 - e.1.1)) := by
      intro k hk
      have m := fx_mono hD hk (a := e.1) (b := e.2) (by omega)
      unfold E
      rw [fx_more hD, fx_more hD]
      have sh := S_shift (lo D (k + D) e) (a := fx D k e.1) (b := fx D k e.2 + (e.2.1 - e.1.1)) (by omega) e.1.1 0
      have e1 : fx D k e.2 + (e.2.1 - e.1.1) + e.1.1 = fx D k e.2 + e.2.1 := by omega
      rw [e1, Int.zero_mul, Int.add_zero] at sh
      rw [← sh]
      have : S (fun x => lo D (k + D) e (x + e.1.1) + 0) (fx D k e.1) (fx D k e.2 + (e.2.1 - e.1.1)) = S (fun x => lo D k e (x + 0) + e.1.2) (fx D k e.1) (fx D k e.2 + (e.2.1 - e.1.1)) :=
        S_congr fun x _ _ => by rw [lo_size hD he, Int.add_zero, Int.add_zero]
      rw [this, S_shift _ (by omega)]
      rw [Int.add_zero, Int.add_zero]
      congr 2
      omega
    have m := fx_mono hD hk (a := e.1) (b := e.2) (by omega)
    have o1 := one k hk
    have o2 := one (k + D) (by omega)
    rw [fx_more hD, fx_more hD] at o2
    -- what is added: from fx e.2 on, one width
    have w1 := S_split (lo D k e) (a := fx D k e.1) (b := fx D k e.2) (c := fx D k e.2 + (e.2.1 - e.1.1)) m (by omega)
    have w2 := S_split (lo D (k + D) e) (a := fx D k e.1 + e.1.1) (b := fx D k e.2 + e.2.1) (c := fx D k e.2 + e.2.1 + (e.2.1 - e.1.1)) (by omega) (by omega)
    have eE : S (lo D (k + D) e) (fx D k e.1 + e.1.1) (fx D k e.2 + e.2.1) = E D (k + D) e := by
      unfold E
      rw [fx_more hD, fx_more hD]
    have eE0 : S (lo D k e) (fx D k e.1) (fx D k e.2) = E D k e := rfl
    -- the second width is the first one, moved
    have w3 : S (lo D (k + D) e) (fx D k e.2 + e.2.1) (fx D k e.2 + e.2.1 + (e.2.1 - e.1.1)) =
        S (lo D k e) (fx D k e.2) (fx D k e.2 + (e.2.1 - e.1.1)) + (e.2.2 - e.1.2 + e.1.2) * (e.2.1 - e.1.1) := by
      have sh := S_shift (lo D (k + D) e) (a := fx D k e.2) (b := fx D k e.2 + (e.2.1 - e.1.1)) (by omega) e.2.1 0
      have e1 : fx D k e.2 + (e.2.1 - e.1.1) + e.2.1 = fx D k e.2 + e.2.1 + (e.2.1 - e.1.1) := by omega
      rw [e1, Int.zero_mul, Int.add_zero] at sh
      rw [← sh]
      have : S (fun x => lo D (k + D) e (x + e.2.1) + 0) (fx D k e.2) (fx D k e.2 + (e.2.1 - e.1.1)) = S (fun x => lo D k e (x + 0) + (e.2.2 - e.1.2 + e.1.2)) (fx D k e.2) (fx D k e.2 + (e.2.1 - e.1.1)) :=
        S_congr fun x _ _ => by
          have q : x + e.2.1 = x + (e.2.1 - e.1.1) + e.1.1 := by omega
          rw [q, lo_size hD he, lo_per hD he, Int.add_zero, Int.add_zero]
          omega
      rw [this, S_shift _ (by omega), Int.add_zero, Int.add_zero]
      congr 2
      omega
    rw [eE, w3] at w2
    rw [eE0] at w1
    rw [w2] at o2
    rw [w1] at o1
    have n2 : fx D k e.2 + e.2.1 - (fx D k e.1 + e.1.1) = fx D k e.2 - fx D k e.1 + (e.2.1 - e.1.1) := by omega
    rw [n2] at o2
    clear w1 w2 w3 eE eE0 one m n2
    revert o1 o2
    generalize S (lo D k e) (fx D k e.2) (fx D k e.2 + (e.2.1 - e.1.1)) = W
    generalize E D k e = E0
    generalize E D (k + D) e = E1
    generalize E D (k + D + D) e = E2
    generalize fx D k e.2 - fx D k e.1 = N
    intro o1 o2
    rw [o2, o1]
    grind
  · -- straight up
    have z : ∀ k, E D k e = 0 := by
      intro k
      unfold E
      have : fx D k e.2 = fx D k e.1 := by unfold fx; rw [he]
      rw [this, S_self]
    rw [z, z, z, he, Int.sub_self]
    simp
end
end Pg
end

section
namespace Pg
open Sq71 (Polygon)
/-! ### ways to the right -/
def LS (D k : Int) : List Pt → Int
  | a :: b :: r => E D k (a, b) + LS D k (b :: r)
  | [_] => 0
  | [] => 0
def trap : List Pt → Int
  | a :: b :: r => (b.1 - a.1) * (a.2 + b.2) + trap (b :: r)
  | [_] => 0
  | [] => 0
def XM (l : List Pt) : Prop := Path (fun a b => a.1 ≤ b.1) l
theorem LS_two {D k : Int} (hD : 0 < D) (hk : 0 ≤ k) : ∀ {l : List Pt}, XM l → LS D (k + D + D) l - 2 * LS D (k + D) l + LS D k l = trap l
  | [], _ => by simp [LS, trap]
  | [_], _ => by simp [LS, trap]
  | a :: b :: r, h => by
    have h1 := E_two hD hk (e := (a, b)) h.1
    have h2 := LS_two hD hk h.2
    simp only [LS, trap] at h1 h2 ⊢
    omega
def loP (D k : Int) : List Pt → Int → Int
  | a :: b :: r, x => if D * x < k * b.1 then lo D k (a, b) x else loP D k (b :: r) x
  | [_], _ => 0
  | [], _ => 0
def lastP : Pt → List Pt → Pt
  | a, [] => a
  | _, b :: r => lastP b r
theorem xm_last : ∀ {r : List Pt} {a : Pt}, XM (a :: r) → a.1 ≤ (lastP a r).1
  | [], _, _ => Int.le_refl _
  | _ :: _, _, h => Int.le_trans h.1 (xm_last h.2)
theorem sum_loP {D k : Int} (hD : 0 < D) (hk : 0 ≤ k) : ∀ {r : List Pt} {a : Pt}, XM (a :: r) → S (loP D k (a :: r)) (fx D k a) (fx D k (lastP a r)) = LS D k (a :: r)
  | [], a, _ => S_self _ _
  | b :: r, a, h => by
    have h1 : a.1 ≤ b.1 := h.1
    have h2 := xm_last h.2
    rw [show lastP a (b :: r) = lastP b r from rfl, S_split _ (fx_mono hD hk h1) (fx_mono hD hk h2)]
    show _ = E D k (a, b) + LS D k (b :: r)
    rw [← sum_loP hD hk h.2]
    congr 1
    · exact S_congr fun x _ hx => if_pos ((lt_fx hD).1 hx)
    · exact S_congr fun x hx _ => if_neg (Int.not_lt.2 ((fx_le hD).1 hx))
/-- one behind the other -/
def Adj (u v : Pt) : List Pt → Prop
  | a :: b :: r => (u = a ∧ v = b) ∨ Adj u v (b :: r)
  | [_] => False
  | [] => False
theorem span {D k : Int} (hD : 0 < D) : ∀ {r : List Pt} {a : Pt} {x : Int}, fx D k a ≤ x → x < fx D k (lastP a r) →
    ∃ u v, Adj u v (a :: r) ∧ k * u.1 ≤ D * x ∧ D * x < k * v.1 ∧ loP D k (a :: r) x = lo D k (u, v) x
  | [], a, x, h1, h2 => absurd h1 (Int.not_le.2 h2)
  | b :: r, a, x, h1, h2 => by
    by_cases hx : D * x < k * b.1
    · exact ⟨a, b, .inl ⟨rfl, rfl⟩, (fx_le hD).1 h1, hx, if_pos hx⟩
    · obtain ⟨u, v, ha, hu, hv, e⟩ := span hD (r := r) (a := b) (x := x) ((fx_le hD).2 (Int.not_lt.1 hx)) h2
      exact ⟨u, v, .inr ha, hu, hv, by rw [← e]; exact if_neg hx⟩
theorem adj_path {Q : Pt → Pt → Prop} : ∀ {l : List Pt} {u v : Pt}, Path Q l → Adj u v l → Q u v
  | [], _, _, _, h => h.elim
  | [_], _, _, _, h => h.elim
  | _ :: _ :: _, _, _, p, h => by
    rcases h with ⟨rfl, rfl⟩ | h
    · exact p.1
    · exact adj_path p.2 h
theorem adj_left {u v m : Pt} {r : List Pt} : ∀ {l : List Pt}, Adj u v (l ++ [m]) → Adj u v (l ++ m :: r)
  | [], h => h.elim
  | [_], h => by
    rcases h with h | h
    · exact .inl h
    · exact h.elim
  | _ :: b :: l, h => by
    rcases h with h | h
    · exact .inl h
    · exact .inr (adj_left (l := b :: l) h)
theorem adj_right {u v m : Pt} {r : List Pt} : ∀ {l : List Pt}, Adj u v (m :: r) → Adj u v (l ++ m :: r)
  | [], h => h
  | [_], h => .inr h
  | _ :: b :: l, h => .inr (adj_right (l := b :: l) h)
theorem adj_zip {u v s : Pt} : ∀ {l : List Pt} {p : Pt}, Adj u v ((p :: l) ++ [s]) ↔ (u, v) ∈ (p :: l).zip (l ++ [s])
  | [], p => by
    show (u = p ∧ v = s) ∨ False ↔ (u, v) ∈ [(p, s)]
    simp
  | q :: l, p => by
    have := adj_zip (u := u) (v := v) (s := s) (l := l) (p := q)
    show (u = p ∧ v = q) ∨ Adj u v ((q :: l) ++ [s]) ↔ (u, v) ∈ (p, q) :: (q :: l).zip (l ++ [s])
    rw [this, List.mem_cons]
    simp
theorem adj_edges {u v a : Pt} {r : List Pt} : Adj u v ((a :: r) ++ [a]) ↔ (u, v) ∈ Sq68.edges (a :: r) := adj_zip
theorem adj_mem : ∀ {l : List Pt} {u v : Pt}, Adj u v l → u ∈ l ∧ v ∈ l
  | [], _, _, h => h.elim
  | [_], _, _, h => h.elim
  | _ :: _ :: _, _, _, h => by
    rcases h with ⟨rfl, rfl⟩ | h
    · simp
    · have := adj_mem h
      exact ⟨List.mem_cons_of_mem _ this.1, List.mem_cons_of_mem _ this.2⟩
theorem adj_rev {u v : Pt} : ∀ {l : List Pt}, Adj u v l.reverse → Adj v u l := by
  intro l
  induction l with
  | nil => exact fun h => h.elim
  | cons a r ih =>
    intro h
    cases r with
    | nil => exact h.elim
    | cons b r =>
      rw [List.reverse_cons, List.reverse_cons, List.append_assoc] at h
      rw [List.reverse_cons] at ih
      -- the last pair is (b, a)
      have key : ∀ l : List Pt, Adj u v (l ++ ([b] ++ [a])) → Adj u v (l ++ [b]) ∨ (u = b ∧ v = a) := by
        intro l
        induction l with
        | nil =>
          intro h
          rcases h with h | h
          · exact .inr h
          · exact h.elim
        | cons c l ihl =>
          intro h
          cases l with
          | nil =>
            rcases h with h | h
            · exact .inl (.inl h)
            · rcases h with h | h
              · exact .inr h
              · exact h.elim
          | cons e l =>
            rcases h with h | h
            · exact .inl (.inl h)
            · rcases ihl h with h | h
              · exact .inl (.inr h)
              · exact .inr h
      rcases key _ h with h | h
      · exact .inr (ih h)
      · exact .inl ⟨h.2, h.1⟩

/-! ### a column by two edges -/
def nY (p : Pt) : Pt := (p.1, -p.2)
theorem lo_le {D k x y : Int} (hD : 0 < D) {u v : Pt} (h : u.1 < v.1) : lo D k (u, v) x ≤ y ↔ 0 ≤ sd D k x y (u, v) := by
  have hm : 0 < (v.1 - u.1) * D := Int.mul_pos (by omega) hD
  unfold lo
  rw [le_up hm]
  unfold sd tt
  constructor <;> intro h <;> grind
theorem sd_neg (D k x y : Int) (u v : Pt) : sd D k x (-y) (nY v, nY u) = sd D k x y (u, v) := by unfold sd nY; grind
theorem hi_le {D k x y : Int} (hD : 0 < D) {u v : Pt} (h : v.1 < u.1) : y ≤ - lo D k (nY v, nY u) x ↔ 0 ≤ sd D k x y (u, v) := by
  rw [← sd_neg, ← lo_le (u := nY v) (v := nY u) hD h]
  omega
theorem sd_low (D k x y : Int) (c d u v : Pt) : (v.1 - u.1) * sd D k x y (c, d) =
    ((k * v.1 - D * x) * tr c d u + (D * x - k * u.1) * tr c d v) + (d.1 - c.1) * sd D k x y (u, v) := by
  unfold sd tr
  grind
/-- two edges that x lies between, one to the right, one to the left, are enough -/
theorem two_edges {cs : List Pt} {D k x y : Int} {u v u' v' : Pt} (hE : ∀ c d, (c, d) ∈ Sq68.edges cs → Edge cs c d)
    (hu : u ∈ cs) (hv : v ∈ cs) (hu' : u' ∈ cs) (hv' : v' ∈ cs) (h1 : u.1 < v.1) (h2 : k * u.1 ≤ D * x) (h3 : D * x ≤ k * v.1)
    (h1' : v'.1 < u'.1) (h2' : k * v'.1 ≤ D * x) (h3' : D * x ≤ k * u'.1) (l : 0 ≤ sd D k x y (u, v)) (r : 0 ≤ sd D k x y (u', v')) :
    ∀ e ∈ Sq68.edges cs, 0 ≤ sd D k x y e := by
  rintro ⟨c, d⟩ he
  have ed := hE c d he
  have t1 := (ed.2 u hu).1
  have t2 := (ed.2 v hv).1
  have t3 := (ed.2 u' hu').1
  have t4 := (ed.2 v' hv').1
  refine Int.not_lt.1 fun hneg => ?_
  rcases Int.le_total 0 (d.1 - c.1) with hdc | hdc
  · have id := sd_low D k x y c d u v
    have m1 := Int.mul_nonneg (Int.sub_nonneg.2 h3) t1
    have m2 := Int.mul_nonneg (Int.sub_nonneg.2 h2) t2
    have m3 := Int.mul_nonneg hdc l
    have m4 := Int.mul_neg_of_pos_of_neg (show 0 < v.1 - u.1 by omega) hneg
    omega
  · have id := sd_low D k x y c d v' u'
    have e : sd D k x y (v', u') = - sd D k x y (u', v') := by unfold sd; grind
    rw [e] at id
    have m1 := Int.mul_nonneg (Int.sub_nonneg.2 h3') t4
    have m2 := Int.mul_nonneg (Int.sub_nonneg.2 h2') t3
    have m3 := Int.mul_nonneg (Int.neg_nonneg.2 hdc) r
    have m4 := Int.mul_neg_of_pos_of_neg (show 0 < u'.1 - v'.1 by omega) hneg
    have e2 : (d.1 - c.1) * -sd D k x y (u', v') = -(d.1 - c.1) * sd D k x y (u', v') := by grind
    rw [e2] at id
    omega
/-- how many whole points a column has -/
def colC (p : Polygon) (k : Nat) (x : Int) : Int := match Sq71.column p k false x with
  | some y => y.2 - y.1 + 1
  | none => 0
theorem col_two {p : Polygon} {k : Nat} {x : Int} {u v u' v' : Pt} (hD : 0 < p.D) (hE : ∀ c d, (c, d) ∈ Sq68.edges p.cs → Edge p.cs c d) (he : (u, v) ∈ Sq68.edges p.cs) (he' : (u', v') ∈ Sq68.edges p.cs)
    (hu : u ∈ p.cs) (hv : v ∈ p.cs) (hu' : u' ∈ p.cs) (hv' : v' ∈ p.cs)
    (h1 : u.1 < v.1) (h2 : (k : Int) * u.1 ≤ p.D * x) (h3 : p.D * x ≤ (k : Int) * v.1) (h1' : v'.1 < u'.1) (h2' : (k : Int) * v'.1 ≤ p.D * x) (h3' : p.D * x ≤ (k : Int) * u'.1) :
    colC p k x = - lo p.D k (nY v', nY u') x - lo p.D k (u, v) x + 1 := by
  have hD' : (0 : Int) < p.D := by omega
  have B : Both (Sq68.edges p.cs) := ⟨⟨(u, v), he, by show 0 < v.1 - u.1; omega⟩, ⟨(u', v'), he', by show v'.1 - u'.1 < 0; omega⟩⟩
  have sem : ∀ y, (lo p.D k (u, v) x ≤ y ∧ y ≤ - lo p.D k (nY v', nY u') x) ↔ ∀ e ∈ Sq68.edges p.cs, inE false p.D k x y e := by
    intro y
    rw [lo_le hD' h1, hi_le hD' h1']
    constructor
    · intro ⟨l, r⟩ e he
      exact two_edges hE hu hv hu' hv' h1 h2 h3 h1' h2' h3' l r e he
    · intro h
      exact ⟨h _ he, h _ he'⟩
  -- they never lie wrongly by more than one
  have gap : lo p.D k (u, v) x ≤ - lo p.D k (nY v', nY u') x + 1 := by
    refine Int.not_lt.1 fun hlt => ?_
    have n1 : ¬ 0 ≤ sd p.D k x (- lo p.D k (nY v', nY u') x + 1) (u, v) := fun z => by
      have := (lo_le hD' h1).2 z
      omega
    have n2 : ¬ 0 ≤ sd p.D k x (- lo p.D k (nY v', nY u') x + 1) (u', v') := fun z => by
      have := (hi_le hD' h1').2 z
      omega
    generalize - lo p.D k (nY v', nY u') x + 1 = y at n1 n2
    have id := sd_low p.D k x y u' v' u v
    have t1 := ((hE u' v' he').2 u hu).1
    have t2 := ((hE u' v' he').2 v hv).1
    have m1 := Int.mul_nonneg (Int.sub_nonneg.2 h3) t1
    have m2 := Int.mul_nonneg (Int.sub_nonneg.2 h2) t2
    have m3 := Int.mul_pos_of_neg_of_neg (show v'.1 - u'.1 < 0 by omega) (Int.not_le.1 n1)
    have m4 := Int.mul_neg_of_pos_of_neg (show 0 < v.1 - u.1 by omega) (Int.not_le.1 n2)
    omega
  unfold colC
  by_cases hle : lo p.D k (u, v) x ≤ - lo p.D k (nY v', nY u') x
  · rw [(column_some hD B).2 ⟨hle, sem⟩]
  · have : Sq71.column p k false x = none := (column_none hD B).2 fun y hy => by
      have := (sem y).2 hy
      omega
    rw [this]
    show (0 : Int) = _
    omega
end Pg
end

section
namespace Pg
open Sq71 (Polygon)
/-- corners as two ways to the right -/
structure Mono (cs : List Pt) (a : Pt) (L : List Pt) (z : Pt) (U : List Pt) : Prop where
  eq : cs = (a :: L) ++ (z :: U)
  low : XM (a :: (L ++ [z]))
  upp : XM (a :: (U.reverse ++ [z]))
  lt : a.1 < z.1
  path : Path (Edge cs) (cs ++ [a])
theorem lastP_end (z : Pt) : ∀ (l : List Pt) (a : Pt), lastP a (l ++ [z]) = z
  | [], _ => rfl
  | b :: l, _ => lastP_end z l b
theorem adj_map {f : Pt → Pt} : ∀ {l : List Pt} {p q : Pt}, Adj p q (l.map f) → ∃ u v, p = f u ∧ q = f v ∧ Adj u v l
  | [], _, _, h => h.elim
  | [_], _, _, h => h.elim
  | a :: b :: r, p, q, h => by
    rcases h with ⟨rfl, rfl⟩ | h
    · exact ⟨a, b, rfl, rfl, .inl ⟨rfl, rfl⟩⟩
    · obtain ⟨u, v, e1, e2, h'⟩ := adj_map (l := b :: r) h
      exact ⟨u, v, e1, e2, .inr h'⟩
theorem lastP_map (f : Pt → Pt) : ∀ (l : List Pt) (a : Pt), lastP (f a) (l.map f) = f (lastP a l)
  | [], _ => rfl
  | b :: l, _ => lastP_map f l b
theorem xm_nY : ∀ {l : List Pt}, XM l → XM (l.map nY)
  | [], _ => trivial
  | [_], _ => trivial
  | _ :: _ :: _, h => ⟨h.1, xm_nY h.2⟩
theorem trap_nY : ∀ l : List Pt, trap (l.map nY) = - trap l
  | [] => by simp [trap]
  | [_] => by simp [trap]
  | a :: b :: r => by
    have := trap_nY (b :: r)
    simp only [List.map_cons, trap] at this ⊢
    rw [this]
    unfold nY
    grind
theorem last_up : ∀ {r : List Pt} {a : Pt}, XM (a :: r) → a.1 < (lastP a r).1 → ∃ u v, Adj u v (a :: r) ∧ u.1 < v.1 ∧ v.1 = (lastP a r).1
  | [], _, _, h => absurd h (Int.lt_irrefl _)
  | b :: r, a, hx, h => by
    have hb := xm_last hx.2
    by_cases hlt : b.1 < (lastP b r).1
    · obtain ⟨u, v, h1, h2, h3⟩ := last_up hx.2 hlt
      exact ⟨u, v, .inr h1, h2, h3⟩
    · have e : b.1 = (lastP b r).1 := by omega
      exact ⟨a, b, .inl ⟨rfl, rfl⟩, by have : (lastP a (b :: r)) = lastP b r := rfl; rw [this] at h; omega, e⟩
section
variable {cs : List Pt} {a z : Pt} {L U : List Pt}
theorem Mono.edge (m : Mono cs a L z U) {c d : Pt} (h : (c, d) ∈ Sq68.edges cs) : Edge cs c d := by
  have e : cs = a :: (L ++ z :: U) := m.eq
  have hp := m.path
  rw [e] at h
  have := adj_edges.2 h
  rw [← e] at this
  exact adj_path hp this
theorem Mono.low_edge (m : Mono cs a L z U) {u v : Pt} (h : Adj u v (a :: (L ++ [z]))) : (u, v) ∈ Sq68.edges cs := by
  have e : cs = a :: (L ++ z :: U) := m.eq
  rw [e]
  refine adj_edges.1 ?_
  have := adj_left (l := a :: L) (r := U ++ [a]) h
  simpa using this
theorem Mono.upp_edge (m : Mono cs a L z U) {u v : Pt} (h : Adj v u (a :: (U.reverse ++ [z]))) : (u, v) ∈ Sq68.edges cs := by
  have e : cs = a :: (L ++ z :: U) := m.eq
  rw [e]
  refine adj_edges.1 ?_
  have h1 : a :: (U.reverse ++ [z]) = (z :: (U ++ [a])).reverse := by simp
  rw [h1] at h
  have := adj_right (l := a :: L) (adj_rev h)
  simpa using this
theorem edges_mem {u v : Pt} : ∀ {cs : List Pt}, (u, v) ∈ Sq68.edges cs → u ∈ cs ∧ v ∈ cs
  | [], h => by simp [Sq68.edges] at h
  | a :: r, h => by
    have := adj_mem (adj_edges.2 h)
    simp only [List.mem_append, List.mem_singleton] at this
    refine ⟨?_, ?_⟩
    · rcases this.1 with h | h
      · exact h
      · rw [h]; simp
    · rcases this.2 with h | h
      · exact h
      · rw [h]; simp
end
section
variable {p : Polygon} {a z : Pt} {L U : List Pt}
abbrev lowW (a : Pt) (L : List Pt) (z : Pt) : List Pt := a :: (L ++ [z])
abbrev uppW (a : Pt) (U : List Pt) (z : Pt) : List Pt := (a :: (U.reverse ++ [z])).map nY
theorem col_at {k : Nat} (hD : 0 < p.D) (m : Mono p.cs a L z U) {x : Int} (h1 : fx p.D k a ≤ x) (h2 : x < fx p.D k z) :
    colC p k x = - loP p.D k (uppW a U z) x - loP p.D k (lowW a L z) x + 1 := by
  have hD' : (0 : Int) < p.D := by omega
  obtain ⟨u, v, ha, hu, hv, e⟩ := span (D := p.D) (k := k) hD' (r := L ++ [z]) (a := a) (x := x) h1 (by rw [lastP_end]; exact h2)
  have hl2 : lastP (nY a) ((U.reverse ++ [z]).map nY) = nY z := by rw [lastP_map, lastP_end]
  obtain ⟨v0, u0, ha', hv', hu', e'⟩ := span (D := p.D) (k := k) hD' (r := (U.reverse ++ [z]).map nY) (a := nY a) (x := x) h1 (by rw [hl2]; exact h2)
  obtain ⟨v1, u1, rfl, rfl, hadj⟩ := adj_map (l := a :: (U.reverse ++ [z])) ha'
  have ed := m.low_edge ha
  have ed' := m.upp_edge hadj
  have lt1 : u.1 < v.1 := Int.lt_of_mul_lt_mul_left (show (k : Int) * u.1 < (k : Int) * v.1 by omega) (by omega)
  have lt2 : v1.1 < u1.1 := Int.lt_of_mul_lt_mul_left (show (k : Int) * v1.1 < (k : Int) * u1.1 from Int.lt_of_le_of_lt hv' hu') (by omega)
  have mm := edges_mem ed
  have mm' := edges_mem ed'
  rw [show loP p.D k (uppW a U z) x = _ from e', show loP p.D k (lowW a L z) x = _ from e]
  exact col_two hD (fun c d h => m.edge h) ed ed' mm.1 mm.2 mm'.1 mm'.2 lt1 hu (Int.le_of_lt hv) lt2 hv' (Int.le_of_lt hu')

def cnt (p : Polygon) (k : Nat) (s : Int) (n : Nat) : Nat := (((List.range n).map fun (i : Nat) => s + (i : Int)).filterMap fun x => (Sq71.column p k false x).map fun y => (y.2 - y.1 + 1).toNat).sum
theorem count_col {k : Nat} (hD : 0 < p.D) (hB : Both (Sq68.edges p.cs)) (s : Int) : ∀ n : Nat, ((cnt p k s n : Nat) : Int) = sumI (colC p k) s n
  | 0 => rfl
  | n + 1 => by
    have ih := count_col (k := k) hD hB s n
    unfold cnt at ih ⊢
    rw [List.range_succ, List.map_append, List.filterMap_append, List.sum_append, Int.natCast_add, ih]
    show _ = sumI (colC p k) s n + colC p k (s + n)
    congr 1
    unfold colC
    cases h : Sq71.column p k false (s + n) with
    | none => simp [h]
    | some y =>
      obtain ⟨lo, hi⟩ := y
      have := ((column_some hD hB).1 h).1
      simp [h]
      omega
theorem Mono.both (m : Mono p.cs a L z U) : Both (Sq68.edges p.cs) := by
  obtain ⟨u, v, h1, h2, _⟩ := last_up m.low (by rw [lastP_end]; exact m.lt)
  obtain ⟨v', u', h1', h2', _⟩ := last_up m.upp (by rw [lastP_end]; exact m.lt)
  exact ⟨⟨_, m.low_edge h1, by show 0 < v.1 - u.1; omega⟩, ⟨_, m.upp_edge h1', by show v'.1 - u'.1 < 0; omega⟩⟩
theorem xm_bounds : ∀ {r : List Pt} {a : Pt}, XM (a :: r) → ∀ c ∈ a :: r, a.1 ≤ c.1 ∧ c.1 ≤ (lastP a r).1
  | [], a, _, c, hc => by
    have : c = a := by simpa using hc
    rw [this]
    exact ⟨Int.le_refl _, Int.le_refl _⟩
  | b :: r, a, h, c, hc => by
    have hb := xm_last h
    rcases List.mem_cons.1 hc with e | hc
    · rw [e]; exact ⟨Int.le_refl _, hb⟩
    · have := xm_bounds h.2 c hc
      exact ⟨Int.le_trans h.1 this.1, this.2⟩
theorem Mono.bounds (m : Mono p.cs a L z U) : ∀ c ∈ p.cs, a.1 ≤ c.1 ∧ c.1 ≤ z.1 := by
  intro c hc
  rw [m.eq] at hc
  have lw := xm_bounds m.low
  have up := xm_bounds m.upp
  rw [lastP_end] at lw up
  rcases List.mem_append.1 hc with h | h
  · exact lw c (by simp at h ⊢; rcases h with h | h <;> simp [h])
  · exact up c (by simp at h ⊢; rcases h with h | h <;> simp [h])
theorem count_sum {k : Nat} (hD : 0 < p.D) (m : Mono p.cs a L z U) : (Sq71.count p k false : Int) = S (colC p k) (fx p.D k a) ((k : Int) * z.1 / p.D + 1) := by
  have hmin : ((p.cs.map fun c => c.1).min?).getD 0 = a.1 := by
    have : (p.cs.map fun c => c.1).min? = some a.1 := by
      rw [List.min?_eq_some_iff]
      refine ⟨List.mem_map.2 ⟨a, by rw [m.eq]; simp, rfl⟩, fun b hb => ?_⟩
      obtain ⟨c, hc, rfl⟩ := List.mem_map.1 hb
      exact (m.bounds c hc).1
    rw [this]; rfl
  have hmax : ((p.cs.map fun c => c.1).max?).getD 0 = z.1 := by
    have : (p.cs.map fun c => c.1).max? = some z.1 := by
      rw [List.max?_eq_some_iff]
      refine ⟨List.mem_map.2 ⟨z, by rw [m.eq]; simp, rfl⟩, fun b hb => ?_⟩
      obtain ⟨c, hc, rfl⟩ := List.mem_map.1 hb
      exact (m.bounds c hc).2
    rw [this]; rfl
  have := count_col (k := k) hD m.both (Sq71.up (a.1 * k) p.D) (z.1 * k / (p.D : Int) - Sq71.up (a.1 * k) p.D + 1).toNat
  show ((cnt p k (Sq71.up ((((p.cs.map fun c => c.1).min?).getD 0) * k) p.D) ((((p.cs.map fun c => c.1).max?).getD 0) * k / (p.D : Int) - Sq71.up ((((p.cs.map fun c => c.1).min?).getD 0) * k) p.D + 1).toNat : Nat) : Int) = _
  rw [hmin, hmax, this]
  unfold S fx
  rw [Int.mul_comm a.1, Int.mul_comm z.1]
  congr 2
  omega
end
end Pg
end

section
namespace Pg
open Sq71 (Polygon)
section
variable {p : Polygon} {a z : Pt} {L U : List Pt}
/-- the last column, where there is one -/
def lastT (D k z1 : Int) (e f : Pt × Pt) : Int := if D ∣ k * z1 then - lo D k f (fx D k (z1, 0)) - lo D k e (fx D k (z1, 0)) + 1 else 0
theorem fx_fst (D k : Int) (c : Pt) : fx D k (c.1, 0) = fx D k c := rfl
theorem S_one (f : Int → Int) (b : Int) : S f b (b + 1) = f b := by
  unfold S
  have : (b + 1 - b).toNat = 1 := by omega
  rw [this]
  show 0 + f (b + ((0 : Nat) : Int)) = f b
  rw [Int.zero_add]
  congr 1
  omega
/-- how many there are, told by the two ways -/
theorem count_ways {k : Nat} (hD : 0 < p.D) (m : Mono p.cs a L z U) {u v u' v' : Pt} (h1 : Adj u v (lowW a L z)) (h2 : u.1 < v.1) (h3 : v.1 = z.1) (h1' : Adj v' u' (a :: (U.reverse ++ [z]))) (h2' : v'.1 < u'.1) (h3' : u'.1 = z.1) :
    (Sq71.count p k false : Int) = - LS p.D k (uppW a U z) - LS p.D k (lowW a L z) + (fx p.D k z - fx p.D k a) + lastT p.D k z.1 (u, v) (nY v', nY u') := by
  have hD' : (0 : Int) < p.D := by omega
  have hk : (0 : Int) ≤ k := by omega
  have haz : fx p.D k a ≤ fx p.D k z := fx_mono hD' hk (Int.le_of_lt m.lt)
  have main : S (colC p k) (fx p.D k a) (fx p.D k z) = - LS p.D k (uppW a U z) - LS p.D k (lowW a L z) + (fx p.D k z - fx p.D k a) := by
    have e1 : S (colC p k) (fx p.D k a) (fx p.D k z) = S (fun x => (- loP p.D k (uppW a U z) x) - loP p.D k (lowW a L z) x + 1) (fx p.D k a) (fx p.D k z) :=
      S_congr fun x hx hy => col_at hD m hx hy
    rw [e1, S_lin (fun x => - loP p.D k (uppW a U z) x) _ haz, S_neg]
    have s1 := sum_loP hD' hk m.low
    rw [lastP_end] at s1
    have s2 := sum_loP hD' hk (r := (U.reverse ++ [z]).map nY) (a := nY a) (xm_nY m.upp)
    rw [lastP_map, lastP_end] at s2
    have s1' : S (loP p.D k (lowW a L z)) (fx p.D k a) (fx p.D k z) = LS p.D k (lowW a L z) := s1
    have s2' : S (loP p.D k (uppW a U z)) (fx p.D k a) (fx p.D k z) = LS p.D k (uppW a U z) := s2
    rw [s1', s2']
  rw [count_sum hD m]
  unfold lastT
  by_cases hdv : (p.D : Int) ∣ (k : Int) * z.1
  · rw [if_pos hdv, fx_fst]
    obtain ⟨q, hq⟩ := hdv
    have hfl : (k : Int) * z.1 / p.D = q := by rw [hq]; exact Int.mul_ediv_cancel_left _ (by omega)
    have hfz : fx p.D k z = q := by
      have a1 := (fx_le hD' (k := k) (x := q) (a := z)).2 (by omega)
      have a2 := (fx_le hD' (k := k) (x := fx p.D k z) (a := z)).1 (Int.le_refl _)
      rw [hq] at a2
      have := Int.le_of_mul_le_mul_left a2 hD'
      omega
    rw [hfl, ← hfz, S_split _ haz (by omega), S_one, main]
    have ed := m.low_edge h1
    have ed' := m.upp_edge h1'
    have mm := edges_mem ed
    have mm' := edges_mem ed'
    have hX : (p.D : Int) * fx p.D k z = (k : Int) * z.1 := by rw [hfz, hq]
    have k1 : (k : Int) * u.1 ≤ (k : Int) * z.1 := Int.mul_le_mul_of_nonneg_left (by omega) hk
    have k2 : (k : Int) * v'.1 ≤ (k : Int) * z.1 := Int.mul_le_mul_of_nonneg_left (by omega) hk
    rw [col_two hD (fun c d h => m.edge h) ed ed' mm.1 mm.2 mm'.1 mm'.2 h2 (by rw [hX]; exact k1) (by rw [hX, h3]; omega) h2' (by rw [hX]; exact k2) (by rw [hX, h3']; omega)]
  · rw [if_neg hdv]
    have hfz : fx p.D k z = (k : Int) * z.1 / p.D + 1 := by
      have h0 := Int.emod_nonneg ((k : Int) * z.1) (show (p.D : Int) ≠ 0 by omega)
      have h1 := Int.emod_lt_of_pos ((k : Int) * z.1) hD'
      have h2 := Int.emod_add_mul_ediv ((k : Int) * z.1) p.D
      have h3 : ((k : Int) * z.1) % p.D ≠ 0 := fun e => hdv (Int.dvd_of_emod_eq_zero e)
      have a1 := (fx_le hD' (k := k) (x := (k : Int) * z.1 / p.D + 1) (a := z)).2 (by rw [Int.mul_add]; omega)
      have a2 : ¬ fx p.D k z ≤ (k : Int) * z.1 / p.D := fun e => by
        have := (fx_le hD').1 e
        omega
      omega
    rw [← hfz, main]
    omega
theorem lastT_more {D k z1 : Int} (hD : 0 < D) {e f : Pt × Pt} (he : e.1.1 < e.2.1) (he2 : e.2.1 = z1) (hf : f.1.1 < f.2.1) (hf2 : f.2.1 = z1) :
    lastT D (k + D) z1 e f = lastT D k z1 e f + (if D ∣ k * z1 then - f.2.2 - e.2.2 else 0) := by
  have hd : (D ∣ (k + D) * z1) ↔ D ∣ k * z1 := by
    have : (k + D) * z1 = k * z1 + D * z1 := by grind
    rw [this]
    exact Int.dvd_add_left (Int.dvd_mul_right D z1)
  have one : ∀ {g : Pt × Pt}, g.1.1 < g.2.1 → g.2.1 = z1 → lo D (k + D) g (fx D (k + D) (z1, 0)) = lo D k g (fx D k (z1, 0)) + g.2.2 := by
    intro g h1 h2
    rw [fx_more hD]
    have : fx D k (z1, 0) + (z1, (0 : Int)).1 = fx D k (z1, 0) + (g.2.1 - g.1.1) + g.1.1 := by show _ + z1 = _; omega
    rw [this, lo_size hD h1, lo_per hD h1]
    omega
  unfold lastT
  by_cases h : D ∣ k * z1
  · rw [if_pos h, if_pos (hd.2 h), if_pos h, one he he2, one hf hf2]
    omega
  · rw [if_neg h, if_neg (fun x => h (hd.1 x)), if_neg h]
    rfl
theorem lastT_two {D k z1 : Int} (hD : 0 < D) {e f : Pt × Pt} (he : e.1.1 < e.2.1) (he2 : e.2.1 = z1) (hf : f.1.1 < f.2.1) (hf2 : f.2.1 = z1) :
    lastT D (k + D + D) z1 e f - 2 * lastT D (k + D) z1 e f + lastT D k z1 e f = 0 := by
  have h1 := lastT_more (k := k) hD he he2 hf hf2
  have h2 := lastT_more (k := k + D) hD he he2 hf hf2
  have hd : (D ∣ (k + D) * z1) ↔ D ∣ k * z1 := by
    have : (k + D) * z1 = k * z1 + D * z1 := by grind
    rw [this]
    exact Int.dvd_add_left (Int.dvd_mul_right D z1)
  by_cases h : D ∣ k * z1
  · rw [if_pos h] at h1
    rw [if_pos (hd.2 h)] at h2
    omega
  · rw [if_neg h] at h1
    rw [if_neg (fun x => h (hd.1 x))] at h2
    omega

/-! the area, told by the two ways -/
theorem path_trap : ∀ (r : List Pt) (a : Pt), pathSum (a :: r) = - trap (a :: r) + ((lastP a r).1 * (lastP a r).2 - a.1 * a.2)
  | [], a => by simp [pathSum, trap, lastP]
  | b :: r, a => by
    have := path_trap r b
    simp only [pathSum, trap, lastP] at this ⊢
    rw [this]
    unfold Sq68.cross
    grind
theorem pathSum_join (m : Pt) (r : List Pt) : ∀ l : List Pt, pathSum (l ++ m :: r) = pathSum (l ++ [m]) + pathSum (m :: r)
  | [] => by simp [pathSum]
  | [a] => by simp [pathSum]
  | a :: b :: l => by
    have := pathSum_join m r (b :: l)
    simp only [List.cons_append, pathSum] at this ⊢
    omega
theorem pathSum_rev : ∀ l : List Pt, pathSum l.reverse = - pathSum l
  | [] => by simp [pathSum]
  | [a] => by simp [pathSum]
  | a :: b :: r => by
    have ih := pathSum_rev (b :: r)
    rw [List.reverse_cons, List.reverse_cons, List.append_assoc]
    rw [List.reverse_cons] at ih
    show pathSum (r.reverse ++ b :: [a]) = _
    rw [pathSum_join, ih]
    simp only [pathSum]
    unfold Sq68.cross
    grind
theorem twice_ways {cs : List Pt} (m : Mono cs a L z U) : Sq68.twice cs = trap (a :: (U.reverse ++ [z])) - trap (lowW a L z) := by
  have e : cs = a :: (L ++ z :: U) := m.eq
  rw [e, twice_path]
  have e2 : a :: (L ++ z :: U) ++ [a] = (a :: L) ++ z :: (U ++ [a]) := by simp
  rw [e2, pathSum_join]
  have e3 : z :: (U ++ [a]) = (a :: (U.reverse ++ [z])).reverse := by simp
  rw [e3, pathSum_rev]
  have p1 := path_trap (L ++ [z]) a
  have p2 := path_trap (U.reverse ++ [z]) a
  rw [lastP_end] at p1 p2
  rw [show (a :: L) ++ [z] = a :: (L ++ [z]) from rfl, p1, p2]
  show _ = trap (a :: (U.reverse ++ [z])) - trap (a :: (L ++ [z]))
  omega
/-- **The rule, for all sizes**: the counts at sizes one D apart differ twice by twice the area. -/
theorem count_two {k : Nat} (hD : 0 < p.D) (m : Mono p.cs a L z U) :
    (Sq71.count p (k + p.D + p.D) false : Int) - 2 * (Sq71.count p (k + p.D) false : Int) + (Sq71.count p k false : Int) = Sq68.twice p.cs := by
  have hD' : (0 : Int) < p.D := by omega
  have hk : (0 : Int) ≤ k := by omega
  obtain ⟨u, v, h1, h2, h3⟩ := last_up m.low (by rw [lastP_end]; exact m.lt)
  obtain ⟨v', u', h1', h2', h3'⟩ := last_up m.upp (by rw [lastP_end]; exact m.lt)
  rw [lastP_end] at h3 h3'
  have c0 := count_ways (k := k) hD m h1 h2 h3 h1' h2' h3'
  have c1 := count_ways (k := k + p.D) hD m h1 h2 h3 h1' h2' h3'
  have c2 := count_ways (k := k + p.D + p.D) hD m h1 h2 h3 h1' h2' h3'
  have n1 : ((k + p.D : Nat) : Int) = (k : Int) + p.D := by omega
  have n2 : ((k + p.D + p.D : Nat) : Int) = (k : Int) + p.D + p.D := by omega
  rw [n1] at c1
  rw [n2] at c2
  have l1 := LS_two hD' hk m.low
  have l2 := LS_two hD' hk (xm_nY m.upp)
  rw [trap_nY] at l2
  have t := lastT_two (k := k) hD' (e := (u, v)) (f := (nY v', nY u')) h2 h3 h2' h3'
  have f1 := fx_more hD' (k : Int) z
  have f2 := fx_more hD' (k : Int) a
  have f3 := fx_more hD' ((k : Int) + p.D) z
  have f4 := fx_more hD' ((k : Int) + p.D) a
  rw [twice_ways m, c0, c1, c2]
  have l1' : LS p.D ((k : Int) + p.D + p.D) (lowW a L z) - 2 * LS p.D ((k : Int) + p.D) (lowW a L z) + LS p.D k (lowW a L z) = trap (lowW a L z) := l1
  have l2' : LS p.D ((k : Int) + p.D + p.D) (uppW a U z) - 2 * LS p.D ((k : Int) + p.D) (uppW a U z) + LS p.D k (uppW a U z) = - trap (a :: (U.reverse ++ [z])) := l2
  omega
/-- of size 0 there is one point -/
theorem count_zero (hD : 0 < p.D) (m : Mono p.cs a L z U) : Sq71.count p 0 false = 1 := by
  have hD' : (0 : Int) < p.D := by omega
  obtain ⟨u, v, h1, h2, h3⟩ := last_up m.low (by rw [lastP_end]; exact m.lt)
  obtain ⟨v', u', h1', h2', h3'⟩ := last_up m.upp (by rw [lastP_end]; exact m.lt)
  have hs := count_sum (k := 0) hD m
  have z0 : fx p.D ((0 : Nat) : Int) a = 0 := by
    unfold fx Sq71.up
    simp
  rw [z0] at hs
  have e0 : ((0 : Nat) : Int) * z.1 / p.D + 1 = 0 + 1 := by simp
  rw [e0, S_one] at hs
  have ed := m.low_edge h1
  have ed' := m.upp_edge h1'
  have mm := edges_mem ed
  have mm' := edges_mem ed'
  have hc := col_two (p := p) (k := 0) (x := 0) hD (fun c d h => m.edge h) ed ed' mm.1 mm.2 mm'.1 mm'.2 h2 (by simp) (by simp) h2' (by simp) (by simp)
  have l0 : ∀ e : Pt × Pt, lo p.D ((0 : Nat) : Int) e 0 = 0 := by
    intro e
    unfold lo tt Sq71.up
    simp
  rw [l0, l0] at hc
  rw [hc] at hs
  omega
end
end Pg
end

section
namespace Pg
open Sq71 (Polygon)
theorem ed_xm {l c : List Pt} (h : Path (Ed l) c) : XM c := path_mono (fun a b q => by have := q.1; unfold lx at this; omega) h
theorem around_mono {a : Pt} {r : List Pt} (h : Sorted (a :: r)) (hr : r ≠ []) :
    ∃ L z U, around (a :: r) = (a :: L) ++ (z :: U) ∧ XM (a :: (L ++ [z])) ∧ XM (a :: (U.reverse ++ [z])) := by
  obtain ⟨c, z, e1, p1, m1, l1⟩ := bends_ok h hr
  obtain ⟨ini, hini⟩ := List.getLast?_eq_some_iff.1 l1
  have hini_ne : ini ≠ [] := by
    intro e
    rw [e] at hini
    simp at hini
    exact hr hini.2
  obtain ⟨i0, irest, rfl⟩ := List.exists_cons_of_ne_nil hini_ne
  have hi0 : i0 = a := by simpa using (List.cons.inj hini).1.symm
  subst hi0
  have hrev : (i0 :: r).reverse = z :: (irest.reverse ++ [i0]) := by rw [hini]; simp
  have hs2 := sorted_neg h
  rw [hrev, List.map_cons] at hs2
  obtain ⟨c2, z2, e2, p2, m2, l2⟩ := bends_ok hs2 (by simp)
  have hz2 : z2 = neg i0 := by
    rw [List.map_append, ← List.cons_append, List.map_cons, List.map_nil, List.getLast?_concat] at l2
    exact (Option.some.inj l2).symm
  subst hz2
  have hup : bends (i0 :: r).reverse = z :: (c2.map neg) ++ [i0] := by
    have : (i0 :: r).reverse = ((i0 :: r).reverse.map neg).map neg := (map_neg_neg _).symm
    rw [this, bends_neg, hrev, List.map_cons, e2]
    simp [neg_neg]
  refine ⟨c, z, c2.map neg, ?_, ?_, ?_⟩
  · unfold around
    rw [e1, hup, List.dropLast_concat, List.dropLast_concat]
  · have := ed_xm p1
    rw [e1] at this
    exact this
  · have q := ed_xm p2
    rw [e2] at q
    -- turned by half a turn, and read backwards
    have key : ∀ l : List Pt, XM l → XM (l.reverse.map neg) := by
      intro l
      induction l with
      | nil => exact fun _ => trivial
      | cons x l ih =>
        intro h
        cases l with
        | nil => exact trivial
        | cons y l =>
          have ih' := ih h.2
          rw [List.reverse_cons, List.reverse_cons, List.append_assoc, List.map_append, List.map_append]
          rw [List.reverse_cons, List.map_append] at ih'
          exact path_join (m := neg y) (r := [neg x]) ih' ⟨by have : x.1 ≤ y.1 := h.1; show -y.1 ≤ -x.1; omega, trivial⟩
    have := key _ q
    have e3 : (neg z :: c2 ++ [neg i0]).reverse.map neg = i0 :: ((c2.map neg).reverse ++ [z]) := by
      simp [neg_neg]
    rw [e3] at this
    exact this
theorem corners_mono {l : List Pt} (h : Sq68.twice (Sq68.corners l) ≠ 0) : ∃ a L z U, Mono (Sq68.corners l) a L z U := by
  have h3 : 3 ≤ (Sq68.corners l).length := Nat.not_lt.1 fun hlt => h (twice_small hlt)
  have h2 : 2 ≤ (Sq68.inOrder l).length := by
    have := corners_short (l := l)
    omega
  obtain ⟨cyc, ear⟩ := corners_cyc h2
  have hs := inOrder_sorted l
  have cv := cyc_conv cyc h3
  revert h2 hs ear
  generalize Sq68.inOrder l = o
  intro h2 ear hs
  match o, h2, hs, ear with
  | a :: r, h2, hs, ear =>
    have hr : r ≠ [] := by intro e; subst e; simp at h2
    obtain ⟨L, z, U, e, lw, up⟩ := around_mono hs hr
    have ec : Sq68.corners l = (a :: L) ++ (z :: U) := by rw [← ear, e]
    obtain ⟨a', r', e', hp⟩ := cv.path
    have ea : a' = a := by
      rw [ec] at e'
      exact ((List.cons.inj e').1).symm
    subst ea
    refine ⟨a', L, z, U, ec, lw, up, ?_, hp⟩
    -- not all one above the other
    refine Int.not_le.1 fun hle => ?_
    have bl := xm_bounds lw
    have bu := xm_bounds up
    rw [lastP_end] at bl bu
    have same : ∀ c ∈ Sq68.corners l, c.1 = a'.1 := by
      intro c hc
      rw [ec] at hc
      have : a'.1 ≤ c.1 ∧ c.1 ≤ z.1 := by
        rcases List.mem_append.1 hc with h | h
        · exact bl c (by simp at h ⊢; rcases h with h | h <;> simp [h])
        · exact bu c (by simp at h ⊢; rcases h with h | h <;> simp [h])
      omega
    have t := tri_pos cv (i := 0) (j := 1) (k := 2) (by omega) (by omega) (by omega)
    have q := fun i => same _ (cr_mem (c := Sq68.corners l) (by omega) i)
    unfold tr at t
    rw [q 0, q 1, q 2] at t
    simp at t
theorem xm_back {k : Int} (hk : 0 < k) : ∀ {l : List Pt}, XM (l.map (big k)) → XM l
  | [], _ => trivial
  | [_], _ => trivial
  | _ :: _ :: _, h => ⟨Int.le_of_mul_le_mul_right h.1 hk, xm_back hk h.2⟩
theorem mono_back {k : Int} (hk : 0 < k) {c : List Pt} {a z : Pt} {L U : List Pt} (m : Mono (c.map (big k)) a L z U) : ∃ a L z U, Mono c a L z U := by
  have e := m.eq
  obtain ⟨c1, c2, rfl, e1, e2⟩ := List.map_eq_append_iff.1 e
  obtain ⟨a', L', rfl, rfl, rfl⟩ := List.map_eq_cons_iff.1 e1
  obtain ⟨z', U', rfl, rfl, rfl⟩ := List.map_eq_cons_iff.1 e2
  refine ⟨a', L', z', U', rfl, ?_, ?_, ?_, ?_⟩
  · have := m.low
    have q : big k a' :: (L'.map (big k) ++ [big k z']) = (a' :: (L' ++ [z'])).map (big k) := by simp
    rw [q] at this
    exact xm_back hk this
  · have := m.upp
    have q : big k a' :: ((U'.map (big k)).reverse ++ [big k z']) = (a' :: (U'.reverse ++ [z'])).map (big k) := by simp
    rw [q] at this
    exact xm_back hk this
  · exact Int.lt_of_mul_lt_mul_right m.lt (Int.le_of_lt hk)
  · have := m.path
    have q : (a' :: L' ++ z' :: U').map (big k) ++ [big k a'] = ((a' :: L' ++ z' :: U') ++ [a']).map (big k) := by simp
    rw [q] at this
    exact path_map_back (f := big k) (F := Edge ((a' :: L' ++ z' :: U').map (big k))) (fun x y w => edge_big_back hk w) this
theorem red_mono {D : Nat} (hD : 0 < D) {l : List Pt} (h : Sq68.twice (Sq68.corners l) ≠ 0) : ∃ a L z U, Mono (red D (Sq68.corners l)).cs a L z U := by
  obtain ⟨a, L, z, U, m⟩ := corners_mono h
  have e := (red_big_back hD (Sq68.corners l)).1
  have hg : (0 : Int) < (Nat.gcd D (gAll (Sq68.corners l)) : Nat) := by have := gcd_pos_left (g := gAll (Sq68.corners l)) hD; omega
  rw [← e] at m
  exact mono_back hg m
end Pg
end

section
namespace Pg
open Sq71 (Frac Place Polygon Steps)
/-! ### fractions in lowest terms are told by their value -/
theorem frac_scale {d k : Nat} (hk : 0 < k) (n : Int) : Sq71.frac (n * k) (d * k) = Sq71.frac n d := by
  unfold Sq71.frac
  by_cases h : n = 0
  · subst h
    simp
  · have h2 : n * (k : Int) ≠ 0 := fun e => by
      rcases Int.mul_eq_zero.1 e with e | e
      · exact h e
      · omega
    rw [if_neg h, if_neg h2]
    have eg : Nat.gcd (n * (k : Int)).natAbs (d * k) = Nat.gcd n.natAbs d * k := by
      rw [Int.natAbs_mul, Int.natAbs_natCast, Nat.gcd_mul_right]
    rw [eg]
    congr 1
    · rw [Int.natCast_mul]
      exact Int.mul_ediv_mul_of_pos_left _ _ (by omega)
    · exact Nat.mul_div_mul_right _ _ hk
theorem frac_eq {n n' : Int} {d d' : Nat} (hd : 0 < d) (hd' : 0 < d') (h : n * d' = n' * d) : Sq71.frac n d = Sq71.frac n' d' := by
  rw [← frac_scale hd' n, ← frac_scale hd n', h, Nat.mul_comm]
/-- made by frac -/
def Can (f : Frac) : Prop := ∃ n d, 0 < d ∧ f = Sq71.frac n d
theorem can_frac {n : Int} {d : Nat} (h : 0 < d) : Can (Sq71.frac n d) := ⟨n, d, h, rfl⟩
theorem can_ok {f : Frac} (h : Can f) : Ok f := by
  obtain ⟨n, d, hd, rfl⟩ := h
  exact ok_frac hd
theorem can_val {f : Frac} (h : Can f) {n : Int} {d : Nat} (hd : 0 < d) (e : val f = (n : Rat) / (d : Rat)) : f = Sq71.frac n d := by
  obtain ⟨n', d', hd', rfl⟩ := h
  rw [val_frac hd'] at e
  refine frac_eq hd' hd ?_
  have h1 := natCast_ne hd
  have h2 := natCast_ne hd'
  have : (n' : Rat) * ((d : Nat) : Rat) = (n : Rat) * ((d' : Nat) : Rat) := by grind
  exact_mod_cast this
theorem can_add {a b : Frac} (ha : Ok a) (hb : Ok b) : Can (a.add b) := ⟨_, _, Nat.mul_pos ha hb, rfl⟩
theorem can_sub {a b : Frac} (ha : Ok a) (hb : Ok b) : Can (a.sub b) := ⟨_, _, Nat.mul_pos ha hb, rfl⟩
theorem can_mul {a b : Frac} (ha : Ok a) (hb : Ok b) : Can (a.mul b) := ⟨_, _, Nat.mul_pos ha hb, rfl⟩

/-! ### the polygon as it's told by the steps -/
def sg (s : Steps) : Int := if 0 < s.det then 1 else -1
def stp (s : Steps) (c : Pt) : Pt := (sg s * (c.1 * s.v.2 - c.2 * s.v.1), sg s * (c.2 * s.u.1 - c.1 * s.u.2))
theorem sg_abs {s : Steps} (h : s.det ≠ 0) : sg s * s.det = (s.det.natAbs : Int) := by
  unfold sg
  split <;> omega
theorem sg_sq (s : Steps) : sg s * sg s = 1 := by
  unfold sg
  split <;> rfl
theorem whole_n (n : Int) : (Sq71.whole n).n = n := rfl
theorem by_val {s : Steps} (hs : s.det ≠ 0) {D : Nat} (hD : 0 < D) (c : Pt) : Ok (s.by_ (pl D c)).1 ∧ Ok (s.by_ (pl D c)).2 ∧
    Is (D * s.det.natAbs) (s.by_ (pl D c)).1 (stp s c).1 ∧ Is (D * s.det.natAbs) (s.by_ (pl D c)).2 (stp s c).2 := by
  have ho := ok_pl hD c
  have ha : 0 < s.det.natAbs := by omega
  have hDa := Nat.mul_pos hD ha
  have h1 := natCast_ne hD
  have hdq : ((s.det : Int) : Rat) ≠ 0 := by
    intro e
    exact hs (by exact_mod_cast e)
  have hsg : ((sg s : Int) : Rat) * ((s.det : Int) : Rat) = ((s.det.natAbs : Nat) : Rat) := by exact_mod_cast sg_abs hs
  have h2 := natCast_ne ha
  have o1 := ok_sub (ok_mul ho.1 (ok_whole s.v.2)) (ok_mul ho.2 (ok_whole s.v.1))
  have o2 := ok_sub (ok_mul ho.2 (ok_whole s.u.1)) (ok_mul ho.1 (ok_whole s.u.2))
  have w : (Sq71.whole s.det).n ≠ 0 := hs
  have v1 : val (s.by_ (pl D c)).1 = ((c.1 : Rat) / (D : Rat) * (s.v.2 : Rat) - (c.2 : Rat) / (D : Rat) * (s.v.1 : Rat)) / (s.det : Rat) := by
    show val ((((pl D c).1.mul (Sq71.whole s.v.2)).sub ((pl D c).2.mul (Sq71.whole s.v.1))).div (Sq71.whole s.det)) = _
    rw [val_div o1 (ok_whole _) w, val_sub (ok_mul ho.1 (ok_whole _)) (ok_mul ho.2 (ok_whole _)), val_mul ho.1 (ok_whole _), val_mul ho.2 (ok_whole _), val_whole, val_whole, val_whole]
    show (val (Sq71.frac c.1 D) * _ - val (Sq71.frac c.2 D) * _) / _ = _
    rw [val_frac hD, val_frac hD]
  have v2 : val (s.by_ (pl D c)).2 = ((c.2 : Rat) / (D : Rat) * (s.u.1 : Rat) - (c.1 : Rat) / (D : Rat) * (s.u.2 : Rat)) / (s.det : Rat) := by
    show val ((((pl D c).2.mul (Sq71.whole s.u.1)).sub ((pl D c).1.mul (Sq71.whole s.u.2))).div (Sq71.whole s.det)) = _
    rw [val_div o2 (ok_whole _) w, val_sub (ok_mul ho.2 (ok_whole _)) (ok_mul ho.1 (ok_whole _)), val_mul ho.2 (ok_whole _), val_mul ho.1 (ok_whole _), val_whole, val_whole, val_whole]
    show (val (Sq71.frac c.2 D) * _ - val (Sq71.frac c.1 D) * _) / _ = _
    rw [val_frac hD, val_frac hD]
  have k1 : Ok (s.by_ (pl D c)).1 := ok_div o1 w
  have k2 : Ok (s.by_ (pl D c)).2 := ok_div o2 w
  refine ⟨k1, k2, (is_val hDa k1).2 ?_, (is_val hDa k2).2 ?_⟩
  · rw [v1, Rat.natCast_mul, ← hsg]
    rw [← hsg] at h2
    unfold stp
    simp only [Rat.intCast_mul, Rat.intCast_sub]
    grind
  · rw [v2, Rat.natCast_mul, ← hsg]
    rw [← hsg] at h2
    unfold stp
    simp only [Rat.intCast_mul, Rat.intCast_sub]
    grind
theorem told_eq {s : Steps} (hs : s.det ≠ 0) {D : Nat} (hD : 0 < D) (cs : List Pt) : Sq71.told s ⟨D, cs⟩ = red (D * s.det.natAbs) (Sq68.corners (cs.map (stp s))) := by
  have ha : 0 < s.det.natAbs := by omega
  show Sq71.polygon ((Polygon.places ⟨D, cs⟩).map s.by_) = _
  apply polygon_eq (Nat.mul_pos hD ha)
  have hpl : (Polygon.places ⟨D, cs⟩) = cs.map (pl D) := rfl
  rw [hpl, List.map_map]
  constructor
  · intro p hp
    obtain ⟨c, hc, rfl⟩ := List.mem_map.1 hp
    have := by_val hs hD c
    exact ⟨_, List.mem_map_of_mem hc, this.2.2.1, this.2.2.2⟩
  · intro q hq
    obtain ⟨c, hc, rfl⟩ := List.mem_map.1 hq
    have := by_val hs hD c
    exact ⟨_, List.mem_map_of_mem hc, this.2.2.1, this.2.2.2⟩
/-- what is no line has an area -/
theorem twice_ne {l : List Pt} {a b c : Pt} (ha : a ∈ l) (hb : b ∈ l) (hc : c ∈ l) (h : tr a b c ≠ 0) : Sq68.twice (Sq68.corners l) ≠ 0 := by
  intro h0
  have hfl := (around_flat l).2 h0
  have ma := (mem_inOrder l a).2 ha
  have mb := (mem_inOrder l b).2 hb
  have mc := (mem_inOrder l c).2 hc
  by_cases h2 : 2 ≤ (Sq68.inOrder l).length
  · obtain ⟨cyc, ear⟩ := corners_cyc h2
    rw [ear] at hfl
    obtain ⟨x, r, e, hr, _, hp⟩ := cyc.ex
    rw [e] at hfl
    match r, hr, hfl, hp with
    | [y], _, _, hp =>
      have e1 : Edge _ x y := hp.1
      have e2 : Edge _ y x := hp.2.1
      have z : ∀ p ∈ Sq68.inOrder l, tr x y p = 0 := by
        intro p hp
        have q1 := (e1.2 p hp).1
        have q2 := (e2.2 p hp).1
        have : tr y x p = - tr x y p := by unfold tr; grind
        omega
      have za := z a ma
      have zb := z b mb
      have zc := z c mc
      -- all in line with x y
      have hxy : ¬ (y.1 - x.1 = 0 ∧ y.2 - x.2 = 0) := fun q => e1.1 (Prod.ext (by omega) (by omega))
      unfold tr at za zb zc h
      have k1 : (y.1 - x.1) * ((b.1 - a.1) * (c.2 - a.2) - (b.2 - a.2) * (c.1 - a.1)) = 0 := by grind
      have k2 : (y.2 - x.2) * ((b.1 - a.1) * (c.2 - a.2) - (b.2 - a.2) * (c.1 - a.1)) = 0 := by grind
      rcases Int.mul_eq_zero.1 k1 with q | q
      · rcases Int.mul_eq_zero.1 k2 with q2 | q2
        · exact hxy ⟨q, q2⟩
        · exact h q2
      · exact h q
  · -- one point at most
    revert ma mb mc h2
    generalize Sq68.inOrder l = o
    intro ma mb mc h2
    match o, h2, ma, mb, mc with
    | [], _, ma, _, _ => simp at ma
    | [x], _, ma, mb, mc =>
      have e1 : a = x := by simpa using ma
      have e2 : b = x := by simpa using mb
      rw [e1, e2] at h
      exact h (by unfold tr; grind)
    | _ :: _ :: _, h2, _, _, _ => simp at h2
theorem stp_tr (s : Steps) (a b c : Pt) : tr (stp s a) (stp s b) (stp s c) = tr a b c * s.det := by
  have := sg_sq s
  unfold tr stp
  show _ = _ * Sq68.cross s.u s.v
  unfold Sq68.cross
  grind
theorem told_area {s : Steps} (hs : s.det ≠ 0) {cs : List Pt} (h : Conv cs) : Sq68.twice (Sq68.corners (cs.map (stp s))) ≠ 0 := by
  have hn := h.len
  have mem := fun i => List.mem_map_of_mem (f := stp s) (cr_mem (c := cs) (by omega) i)
  refine twice_ne (mem 0) (mem 1) (mem 2) ?_
  rw [stp_tr]
  have := tri_pos h (i := 0) (j := 1) (k := 2) (by omega) (by omega) (by omega)
  intro e
  rcases Int.mul_eq_zero.1 e with q | q
  · omega
  · exact hs q
end Pg
end

section
namespace Pg
open Sq71 (Frac Place Polygon Steps)
/-! ### the rule, by the counts of r and r + D -/
/-- b and c of a remainder, told times 2 D D -/
def ruleB (p : Polygon) (r : Nat) : Int := 2 * p.D * ((Sq71.count p (r + p.D) false : Int) - (Sq71.count p r false : Int)) - Sq68.twice p.cs * (2 * r + p.D)
def ruleC (p : Polygon) (r : Nat) : Int := 2 * (p.D * p.D) * (Sq71.count p r false : Int) - Sq68.twice p.cs * (r * r) - ruleB p r * r
theorem ratNat (n : Nat) : ((n : Int) : Rat) = (n : Rat) := Rat.intCast_natCast n
theorem area_val {p : Polygon} (hD : 0 < p.D) : Ok p.area ∧ val p.area = (Sq68.twice p.cs : Rat) / (2 * ((p.D : Rat) * (p.D : Rat))) := by
  have h : 0 < 2 * (p.D * p.D) := Nat.mul_pos (by decide) (Nat.mul_pos hD hD)
  refine ⟨ok_frac h, ?_⟩
  unfold Polygon.area
  rw [val_frac h]
  congr 1
  simp only [Rat.natCast_mul]
  rfl
/-- the count less the area's part -/
def less (p : Polygon) (k : Nat) : Frac := (Sq71.whole (Sq71.count p k false)).sub (p.area.mul (Sq71.whole ((k * k : Nat) : Int)))
theorem less_val {p : Polygon} (hD : 0 < p.D) (k : Nat) : Ok (less p k) ∧ val (less p k) = (Sq71.count p k false : Rat) - (Sq68.twice p.cs : Rat) / (2 * ((p.D : Rat) * (p.D : Rat))) * ((k : Rat) * (k : Rat)) := by
  have a := area_val hD
  have m := ok_mul a.1 (ok_whole ((k * k : Nat) : Int))
  refine ⟨ok_sub (ok_whole _) m, ?_⟩
  unfold less
  rw [val_sub (ok_whole _) m, val_mul a.1 (ok_whole _), a.2, val_whole, val_whole, ratNat, ratNat, Rat.natCast_mul]
theorem rule_def (p : Polygon) : Sq71.rule p = (List.range p.D).map fun r =>
    (((less p ((if r = 0 then p.D else r) + p.D)).sub (less p (if r = 0 then p.D else r))).div (Sq71.whole p.D),
     (less p (if r = 0 then p.D else r)).sub ((((less p ((if r = 0 then p.D else r) + p.D)).sub (less p (if r = 0 then p.D else r))).div (Sq71.whole p.D)).mul (Sq71.whole ((if r = 0 then p.D else r : Nat) : Int)))) := by
  unfold Sq71.rule
  refine List.map_congr_left fun r _ => ?_
  dsimp only
  split <;> rfl
theorem rule_eq {p : Polygon} {a z : Pt} {L U : List Pt} (hD : 0 < p.D) (m : Mono p.cs a L z U) : Sq71.rule p = (List.range p.D).map fun r => (Sq71.frac (ruleB p r) (2 * (p.D * p.D)), Sq71.frac (ruleC p r) (2 * (p.D * p.D))) := by
  rw [rule_def]
  refine List.map_congr_left fun r _ => ?_
  have hd : 0 < 2 * (p.D * p.D) := Nat.mul_pos (by decide) (Nat.mul_pos hD hD)
  have nD := natCast_ne hD
  have eD : ((2 * (p.D * p.D) : Nat) : Rat) = 2 * ((p.D : Rat) * (p.D : Rat)) := by
    simp only [Rat.natCast_mul]
    rfl
  have wD : (Sq71.whole (p.D : Int)).n ≠ 0 := by
    show (p.D : Int) ≠ 0
    omega
  -- what the counts say of each other at r = 0
  have two := count_two (k := 0) hD m
  rw [Nat.zero_add] at two
  have two' : (Sq71.count p (p.D + p.D) false : Rat) - 2 * (Sq71.count p p.D false : Rat) + (Sq71.count p 0 false : Rat) = (Sq68.twice p.cs : Rat) := by
    rw [← two]
    simp only [Rat.intCast_add, Rat.intCast_sub, Rat.intCast_mul, ratNat]
    rfl
  have vb : val (((less p ((if r = 0 then p.D else r) + p.D)).sub (less p (if r = 0 then p.D else r))).div (Sq71.whole p.D)) = (ruleB p r : Rat) / ((2 * (p.D * p.D) : Nat) : Rat) ∧
      Ok (((less p ((if r = 0 then p.D else r) + p.D)).sub (less p (if r = 0 then p.D else r))).div (Sq71.whole p.D)) := by
    have f1 := less_val hD ((if r = 0 then p.D else r) + p.D)
    have f0 := less_val hD (if r = 0 then p.D else r)
    refine ⟨?_, ok_div (ok_sub f1.1 f0.1) wD⟩
    rw [val_div (ok_sub f1.1 f0.1) (ok_whole _) wD, val_sub f1.1 f0.1, f1.2, f0.2, val_whole, ratNat, eD]
    unfold ruleB
    simp only [Rat.intCast_sub, Rat.intCast_mul, Rat.intCast_add, ratNat, Rat.natCast_add]
    by_cases h0 : r = 0
    · subst h0
      rw [if_pos rfl]
      simp only [Nat.zero_add]
      have z : ((0 : Nat) : Rat) = 0 := rfl
      have t2 : ((2 : Int) : Rat) = 2 := rfl
      rw [z, t2]
      rw [← two']
      grind
    · rw [if_neg h0]
      have t2 : ((2 : Int) : Rat) = 2 := rfl
      rw [t2]
      grind
  refine Prod.ext ?_ ?_
  · refine can_val ?_ hd vb.1
    have f1 := less_val hD ((if r = 0 then p.D else r) + p.D)
    have f0 := less_val hD (if r = 0 then p.D else r)
    show Can (Frac.div _ _)
    unfold Frac.div
    have h1 : 0 < (Sq71.whole (p.D : Int)).n := by show (0 : Int) < p.D; omega
    rw [if_pos h1]
    refine can_frac (Nat.mul_pos (ok_sub f1.1 f0.1) ?_)
    show 0 < (p.D : Int).natAbs
    omega
  · have f0 := less_val hD (if r = 0 then p.D else r)
    have mb := ok_mul vb.2 (ok_whole ((if r = 0 then p.D else r : Nat) : Int))
    refine can_val (can_sub f0.1 mb) hd ?_
    rw [val_sub f0.1 mb, val_mul vb.2 (ok_whole _), vb.1, f0.2, val_whole, ratNat, eD]
    unfold ruleC
    have t2 : ((2 : Int) : Rat) = 2 := rfl
    simp only [Rat.intCast_sub, Rat.intCast_mul, Rat.intCast_add, ratNat, t2]
    by_cases h0 : r = 0
    · subst h0
      rw [if_pos rfl]
      have z : ((0 : Nat) : Rat) = 0 := rfl
      unfold ruleB
      simp only [Rat.intCast_sub, Rat.intCast_mul, Rat.intCast_add, ratNat, t2, Nat.zero_add, z]
      grind
    · rw [if_neg h0]
      grind
/-- what the rule says of a size -/
theorem says_eq {p : Polygon} {a z : Pt} {L U : List Pt} (hD : 0 < p.D) (m : Mono p.cs a L z U) (k : Int) :
    Sq71.says_ p (Sq71.rule p) k = Sq71.frac (Sq68.twice p.cs * (k * k) + ruleB p (k % (p.D : Int)).toNat * k + ruleC p (k % (p.D : Int)).toNat) (2 * (p.D * p.D)) := by
  have hd : 0 < 2 * (p.D * p.D) := Nat.mul_pos (by decide) (Nat.mul_pos hD hD)
  have hr : (k % (p.D : Int)).toNat < p.D := by
    have h1 := Int.emod_nonneg k (show (p.D : Int) ≠ 0 by omega)
    have h2 := Int.emod_lt_of_pos k (show (0 : Int) < p.D by omega)
    omega
  have ar := area_val hD
  have eD : ((2 * (p.D * p.D) : Nat) : Rat) = 2 * ((p.D : Rat) * (p.D : Rat)) := by
    simp only [Rat.natCast_mul]
    rfl
  have nD := natCast_ne hD
  unfold Sq71.says_
  rw [rule_eq hD m, List.getElem?_map, List.getElem?_range hr]
  simp only [Option.map_some, Option.getD_some]
  have o1 := ok_mul ar.1 (ok_whole (k * k))
  have o2 := ok_mul (ok_frac (n := ruleB p (k % (p.D : Int)).toNat) hd) (ok_whole k)
  refine can_val (can_add (ok_add o1 o2) (ok_frac hd)) hd ?_
  rw [val_add (ok_add o1 o2) (ok_frac hd), val_add o1 o2, val_mul ar.1 (ok_whole _), val_mul (ok_frac hd) (ok_whole _), ar.2, val_frac hd, val_frac hd, val_whole, val_whole, eD]
  simp only [Rat.intCast_add, Rat.intCast_mul]
  grind
end Pg
end

section
namespace Pg
open Sq71 (Frac Place Polygon Steps)
theorem told_mono {s : Steps} (hs : s.det ≠ 0) {g : Polygon} (hD : 0 < g.D) (hc : Conv g.cs) : 0 < (Sq71.told s g).D ∧ ∃ a L z U, Mono (Sq71.told s g).cs a L z U := by
  have ha : 0 < s.det.natAbs := by omega
  have hDs := Nat.mul_pos hD ha
  have e := told_eq hs hD g.cs
  rw [show (⟨g.D, g.cs⟩ : Polygon) = g from rfl] at e
  rw [e]
  exact ⟨(red_big_back hDs _).2.2, red_mono hDs (told_area hs hc)⟩
/-- the count by any columns that have the right points -/
theorem sum_filterMap {α : Type} (f : α → Option Nat) : ∀ l : List α, (l.filterMap f).sum = (l.map fun x => (f x).getD 0).sum
  | [] => rfl
  | x :: l => by
    rw [List.map_cons, List.sum_cons, ← sum_filterMap f l]
    cases h : f x with
    | none => rw [List.filterMap_cons_none h]; simp
    | some n => rw [List.filterMap_cons_some h]; simp
theorem col_num {p : Polygon} {k : Nat} {st : Bool} {x lo hi : Int} (hD : 0 < p.D) (hB : Both (Sq68.edges p.cs))
    (h : ∀ y, (lo ≤ y ∧ y ≤ hi) ↔ ∀ e ∈ Sq68.edges p.cs, inE st p.D k x y e) : ((Sq71.column p k st x).map fun y => (y.2 - y.1 + 1).toNat).getD 0 = (hi - lo + 1).toNat := by
  cases e : Sq71.column p k st x with
  | none =>
    have n := (column_none hD hB).1 e
    have : ¬ lo ≤ hi := fun c => n lo ((h lo).1 ⟨Int.le_refl _, c⟩)
    simp
    omega
  | some q =>
    obtain ⟨l, u⟩ := q
    obtain ⟨c, n⟩ := (column_some hD hB).1 e
    have a1 := (h l).2 ((n l).1 ⟨Int.le_refl _, c⟩)
    have a2 := (h u).2 ((n u).1 ⟨c, Int.le_refl _⟩)
    have a3 := (n lo).2 ((h lo).1 ⟨Int.le_refl _, by omega⟩)
    have a4 := (n hi).2 ((h hi).1 ⟨by omega, Int.le_refl _⟩)
    show (u - l + 1).toNat = _
    omega
theorem count_by {p : Polygon} {k : Nat} {st : Bool} (hD : 0 < p.D) (hB : Both (Sq68.edges p.cs)) {lo hi : Int → Int}
    (h : ∀ x ∈ Sq71.xs p k, ∀ y, (lo x ≤ y ∧ y ≤ hi x) ↔ ∀ e ∈ Sq68.edges p.cs, inE st p.D k x y e) : Sq71.count p k st = ((Sq71.xs p k).map fun x => (hi x - lo x + 1).toNat).sum := by
  unfold Sq71.count
  rw [sum_filterMap]
  congr 1
  exact List.map_congr_left fun x hx => col_num hD hB (h x hx)
/-- the ends of the columns, for the hull -/
theorem col_is {p : Polygon} {k : Nat} {st : Bool} {x lo hi : Int} (hD : 0 < p.D) (hB : Both (Sq68.edges p.cs))
    (h : ∀ y, (lo ≤ y ∧ y ≤ hi) ↔ ∀ e ∈ Sq68.edges p.cs, inE st p.D k x y e) : Sq71.column p k st x = if lo ≤ hi then some (lo, hi) else none := by
  split
  · rename_i c
    exact (column_some hD hB).2 ⟨c, h⟩
  · rename_i c
    exact (column_none hD hB).2 fun y hy => c (by have := (h y).2 hy; omega)
end Pg
end

section
namespace Pg
/-! ### sums of whole parts -/
def flS (n : Nat) (a b m : Int) : Int := sumI (fun k => (a * k + b) / m) 0 n
theorem sumI_two (f g : Int → Int) (a : Int) : ∀ n : Nat, sumI (fun x => f x + g x) a n = sumI f a n + sumI g a n
  | 0 => rfl
  | n + 1 => by
    show sumI (fun x => f x + g x) a n + (f (a + n) + g (a + n)) = sumI f a n + f (a + n) + (sumI g a n + g (a + n))
    rw [sumI_two f g a n]
    omega
theorem tri_half (n : Nat) : (n : Int) * ((n : Int) - 1) / 2 * 2 = (n : Int) * ((n : Int) - 1) := by
  have : ((n : Int) * ((n : Int) - 1)) % 2 = 0 := by
    rcases Int.emod_two_eq n with h | h
    · rw [Int.mul_emod, h]; simp
    · have : ((n : Int) - 1) % 2 = 0 := by omega
      rw [Int.mul_emod, this]; simp
  omega
theorem sum_lin_k (q p : Int) : ∀ n : Nat, sumI (fun k => q * k + p) 0 n = q * ((n : Int) * ((n : Int) - 1) / 2) + p * n
  | 0 => by simp [sumI]
  | n + 1 => by
    show sumI (fun k => q * k + p) 0 n + (q * (0 + n) + p) = _
    rw [sum_lin_k q p n]
    have h1 := tri_half n
    have h2 := tri_half (n + 1)
    have e : ((n + 1 : Nat) : Int) = (n : Int) + 1 := by omega
    rw [e] at h2 ⊢
    have : ((n : Int) + 1) * ((n : Int) + 1 - 1) / 2 = (n : Int) * ((n : Int) - 1) / 2 + n := by
      have : ((n : Int) + 1) * ((n : Int) + 1 - 1) = (n : Int) * ((n : Int) - 1) + n * 2 := by grind
      rw [this] at h2 ⊢
      omega
    rw [this]
    grind
theorem fl_split {m : Int} (hm : 0 < m) (a b k : Int) : (a * k + b) / m = (a / m * k + b / m) + ((a % m) * k + b % m) / m := by
  have h1 := Int.emod_add_mul_ediv a m
  have h2 := Int.emod_add_mul_ediv b m
  have e : a * k + b = ((a % m) * k + b % m) + m * (a / m * k + b / m) := by
    conv => lhs; rw [← h1, ← h2]
    grind
  rw [e, Int.add_mul_ediv_left _ _ (by omega)]
  omega
theorem flS_split {m : Int} (hm : 0 < m) (n : Nat) (a b : Int) : flS n a b m = a / m * ((n : Int) * ((n : Int) - 1) / 2) + b / m * n + flS n (a % m) (b % m) m := by
  unfold flS
  rw [← sum_lin_k, ← sumI_two]
  exact sumI_congr fun x _ _ => fl_split hm a b x
/-- told sideways -/
def sideS (a b m : Int) (n : Int) (N : Nat) : Int := sumI (fun j => (a * n + b - j * m) / a) 1 N
theorem side_step {a b m : Int} (ha : 0 < a) (n : Int) (N : Nat) : sideS a b m (n + 1) N = sideS a b m n N + N := by
  unfold sideS
  have : sumI (fun j => (a * (n + 1) + b - j * m) / a) 1 N = sumI (fun j => (a * n + b - j * m) / a + 1) 1 N := by
    refine sumI_congr fun j _ _ => ?_
    have e : a * (n + 1) + b - j * m = (a * n + b - j * m) + a * 1 := by grind
    rw [e, Int.add_mul_ediv_left _ _ (by omega)]
  rw [this]
  have h := sumI_shift (fun j => (a * n + b - j * m) / a) 1 0 1 N
  simp only [Int.add_zero, Int.one_mul] at h
  exact h
theorem side_more {a b m : Int} (ha : 0 < a) (hm : 0 < m) (n : Int) {N M : Nat} (h : N ≤ M) (h0 : a * n + b < (N + 1 : Int) * m) (h1 : (M : Int) * m ≤ a * (n + 1) + b) : sideS a b m (n + 1) M = sideS a b m (n + 1) N := by
  unfold sideS
  obtain ⟨d, rfl⟩ := Nat.exists_eq_add_of_le h
  rw [sumI_add]
  have : sumI (fun j => (a * (n + 1) + b - j * m) / a) (1 + N) d = sumI (fun _ => 0) (1 + N) d := by
    refine sumI_congr fun j hj1 hj2 => ?_
    refine Int.ediv_eq_zero_of_lt ?_ ?_
    · have : j * m ≤ ((N + d : Nat) : Int) * m := Int.mul_le_mul_of_nonneg_right (by omega) (by omega)
      omega
    · have : ((N : Int) + 1) * m ≤ j * m := Int.mul_le_mul_of_nonneg_right (by omega) (by omega)
      have e : a * (n + 1) = a * n + a := by grind
      omega
  rw [this]
  have z : ∀ k : Nat, sumI (fun _ => 0) (1 + N) k = 0 := by
    intro k
    induction k with
    | zero => rfl
    | succ k ih => show sumI _ _ k + 0 = 0; rw [ih]; rfl
  rw [z]
  omega
theorem side_all {a b m : Int} (ha : 0 < a) (hm : 0 < m) (hb : 0 ≤ b) (hbm : b < m) : ∀ n : Nat, flS n a b m = sideS a b m n ((a * n + b) / m).toNat
  | 0 => by
    have : (a * ((0 : Nat) : Int) + b) / m = 0 := by
      simp
      exact Int.ediv_eq_zero_of_lt hb hbm
    rw [this]
    rfl
  | n + 1 => by
    have ih := side_all ha hm hb hbm n
    show sumI _ 0 n + (a * (0 + n) + b) / m = _
    rw [show sumI (fun k => (a * k + b) / m) 0 n = flS n a b m from rfl, ih]
    have e : ((n + 1 : Nat) : Int) = (n : Int) + 1 := by omega
    rw [e]
    have nn : 0 ≤ a * n := Int.mul_nonneg (by omega) (by omega)
    have p0 : 0 ≤ (a * n + b) / m := Int.ediv_nonneg (by omega) (by omega)
    have le : (a * n + b) / m ≤ (a * ((n : Int) + 1) + b) / m := Int.ediv_le_ediv hm (by rw [show a * ((n : Int) + 1) = a * n + a by grind]; omega)
    rw [side_more ha hm n (N := ((a * n + b) / m).toNat) (by omega), side_step ha]
    · simp only [Int.zero_add]
      omega
    · have := Int.lt_ediv_add_one_mul_self (a * n + b) hm
      have q : (((a * n + b) / m).toNat : Int) = (a * n + b) / m := by omega
      rw [q]
      exact this
    · have q : (((a * ((n : Int) + 1) + b) / m).toNat : Int) = (a * ((n : Int) + 1) + b) / m := by omega
      rw [q]
      exact Int.ediv_mul_le _ (by omega)
theorem sumI_rev (f : Int → Int) : ∀ N : Nat, sumI f 1 N = sumI (fun i => f (N - i)) 0 N
  | 0 => rfl
  | N + 1 => by
    have h1 : sumI (fun i => f (((N + 1 : Nat) : Int) - i)) 0 (1 + N) = _ := sumI_add _ 0 1 N
    rw [Nat.add_comm N 1] at *
    rw [h1]
    show sumI f 1 (1 + N) = (0 + f (((1 + N : Nat) : Int) - (0 + ((0 : Nat) : Int)))) + sumI (fun i => f (((1 + N : Nat) : Int) - i)) (0 + ((1 : Nat) : Int)) N
    have h2 := sumI_shift (fun i => f (((1 + N : Nat) : Int) - i)) 0 1 0 N
    simp only [Int.add_zero, Int.zero_mul] at h2
    rw [Nat.add_comm 1 N]
    show sumI f 1 N + f (1 + N) = _
    rw [sumI_rev f N]
    have e : sumI (fun i => f ((N : Int) - i)) 0 N = sumI (fun x => f (((1 + N : Nat) : Int) - (x + 1))) 0 N := by
      refine sumI_congr fun x _ _ => ?_
      congr 1
      omega
    rw [e, h2]
    have e3 : ((N + 1 : Nat) : Int) = ((1 + N : Nat) : Int) := by omega
    have e2 : ((1 + N : Nat) : Int) - (0 + ((0 : Nat) : Int)) = 1 + N := by omega
    rw [e3, e2]
    simp
    omega
theorem flS_side {a b m : Int} (ha : 0 < a) (hm : 0 < m) (hb : 0 ≤ b) (hbm : b < m) (n : Nat) :
    flS n a b m = flS ((a * n + b) / m).toNat m ((a * n + b) % m) a := by
  rw [side_all ha hm hb hbm]
  unfold sideS flS
  rw [sumI_rev]
  refine sumI_congr fun i _ _ => ?_
  have nn : 0 ≤ a * n := Int.mul_nonneg (by omega) (by omega)
  have p0 : 0 ≤ (a * n + b) / m := Int.ediv_nonneg (by omega) (by omega)
  have q : (((a * n + b) / m).toNat : Int) = (a * n + b) / m := by omega
  rw [q]
  congr 1
  have := Int.emod_add_mul_ediv (a * n + b) m
  grind
/-- one turn of the loop -/
theorem flS_turn {m : Int} (hm : 0 < m) {n : Int} (hn : 0 < n) (a b : Int) :
    flS n.toNat a b m = a / m * (n * (n - 1) / 2) + b / m * n + flS (((a % m) * n + b % m) / m).toNat m (((a % m) * n + b % m) % m) (a % m) := by
  have q : (n.toNat : Int) = n := by omega
  rw [flS_split hm, q]
  have h1 := Int.emod_nonneg b (show m ≠ 0 by omega)
  have h2 := Int.emod_lt_of_pos b hm
  have h3 := Int.emod_nonneg a (show m ≠ 0 by omega)
  rcases Int.lt_or_eq_of_le h3 with h | h
  · rw [flS_side h hm h1 h2, q]
  · rw [← h]
    have e : (0 * n + b % m) / m = 0 := by
      rw [Int.zero_mul, Int.zero_add]
      exact Int.ediv_eq_zero_of_lt h1 h2
    rw [e]
    have z : flS n.toNat 0 (b % m) m = 0 := by
      unfold flS
      have : sumI (fun k => (0 * k + b % m) / m) 0 n.toNat = sumI (fun _ => 0) 0 n.toNat := by
        refine sumI_congr fun x _ _ => ?_
        rw [Int.zero_mul, Int.zero_add]
        exact Int.ediv_eq_zero_of_lt h1 h2
      rw [this]
      generalize n.toNat = N
      induction N with
      | zero => rfl
      | succ k ih => show sumI _ _ k + 0 = 0; rw [ih]; rfl
    rw [z]
    rfl
theorem turn_less {m : Int} (hm : 0 < m) {n : Int} (hn : 0 < n) (a b : Int) : 0 ≤ ((a % m) * n + b % m) / m ∧ ((a % m) * n + b % m) / m ≤ n ∧ (0 < ((a % m) * n + b % m) / m → 0 < a % m) := by
  have h1 := Int.emod_nonneg b (show m ≠ 0 by omega)
  have h2 := Int.emod_lt_of_pos b hm
  have h3 := Int.emod_nonneg a (show m ≠ 0 by omega)
  have h4 := Int.emod_lt_of_pos a hm
  have h5 : 0 ≤ (a % m) * n := Int.mul_nonneg h3 (by omega)
  refine ⟨Int.ediv_nonneg (by omega) (by omega), ?_, fun h => ?_⟩
  · have : ((a % m) * n + b % m) / m < n + 1 := by
      refine Int.ediv_lt_of_lt_mul hm ?_
      have : (a % m) * n ≤ (m - 1) * n := Int.mul_le_mul_of_nonneg_right (by omega) (by omega)
      grind
    omega
  · rcases Int.lt_or_eq_of_le h3 with e | e
    · exact e
    rw [← e, Int.zero_mul, Int.zero_add, Int.ediv_eq_zero_of_lt h1 h2] at h
    omega
end Pg
end

section
namespace Pg
open Sq71 (Polygon)
/-! ### stretches of columns above the edges of a way -/
structure Strt where
  w : Int
  slope : Int
  off : Int
  low : Int
/-- columns c to l above the edge -/
def strt (D k : Int) (ls : Int) (u v : Pt) (c l : Int) : Strt :=
  ⟨l - c + 1, -(v.2 - u.2) * D, -(v.2 - u.2) * D * c + k * (u.1 * (v.2 - u.2) - u.2 * (v.1 - u.1)) - ls, (v.1 - u.1) * D⟩
def lst (D k ls hi : Int) : List Pt → Int → List Strt
  | u :: v :: r, c => if c ≤ min hi (v.1 * k / D) then strt D k ls u v c (min hi (v.1 * k / D)) :: lst D k ls hi (v :: r) (min hi (v.1 * k / D) + 1) else lst D k ls hi (v :: r) c
  | [_], _ => []
  | [], _ => []
/-- how far a column reaches down -/
def rch (D k ls : Int) (u v : Pt) (x : Int) : Int := (-(tt D k x (u, v)) - ls) / ((v.1 - u.1) * D)
def rOf (s : Strt) : List Int := (List.range s.w.toNat).map fun (i : Nat) => (s.slope * i + s.off) / s.low
def rAll (l : List Strt) : List Int := l.flatMap rOf
theorem rOf_len (s : Strt) : (rOf s).length = s.w.toNat := by simp [rOf]
theorem rOf_sum (s : Strt) : (rOf s).sum = flS s.w.toNat s.slope s.off s.low := by
  unfold rOf flS
  generalize s.w.toNat = n
  induction n with
  | zero => rfl
  | succ n ih =>
    rw [List.range_succ, List.map_append, List.sum_append, ih]
    show _ = sumI _ 0 n + (s.slope * (0 + n) + s.off) / s.low
    simp
theorem rAll_sum (l : List Strt) : (rAll l).sum = (l.map fun s => flS s.w.toNat s.slope s.off s.low).sum := by
  induction l with
  | nil => rfl
  | cons s l ih =>
    show (rOf s ++ rAll l).sum = _
    rw [List.sum_append, ih, rOf_sum]
    rfl
theorem strt_at (D k ls : Int) (u v : Pt) (c l : Int) (i : Nat) (h : i < (l - c + 1).toNat) : (rOf (strt D k ls u v c l))[i]? = some (rch D k ls u v (c + i)) := by
  unfold rOf
  rw [List.getElem?_map, List.getElem?_range (show i < (strt D k ls u v c l).w.toNat from h)]
  simp only [Option.map_some]
  congr 1
  unfold rch strt tt
  simp only
  congr 1
  grind
/-- where the walk may stand -/
def Stand (D k hi : Int) (a : Pt) : List Pt → Int → Prop
  | [], c => hi < c
  | v :: _, c => hi < c ∨ k * a.1 < D * c ∨ (k * a.1 ≤ D * c ∧ a.1 < v.1)
theorem lst_ok {D k ls hi : Int} (hD : 0 < D) (hk : 0 ≤ k) : ∀ (r : List Pt) (a : Pt) (c : Int), XM (a :: r) → Stand D k hi a r c → c ≤ hi + 1 → D * hi ≤ k * (lastP a r).1 →
    (rAll (lst D k ls hi (a :: r) c)).length = (hi + 1 - c).toNat ∧
    ∀ i : Nat, i < (hi + 1 - c).toNat → ∃ u v, Adj u v (a :: r) ∧ u.1 < v.1 ∧ k * u.1 ≤ D * (c + i) ∧ D * (c + i) ≤ k * v.1 ∧ (rAll (lst D k ls hi (a :: r) c))[i]? = some (rch D k ls u v (c + i))
  | [], a, c, _, hs, _, _ => by
    have hs : hi < c := hs
    have : (hi + 1 - c).toNat = 0 := by omega
    rw [this]
    exact ⟨rfl, fun i hi => absurd hi (by omega)⟩
  | v :: r, a, c, hx, hs, hc, hl => by
    have hav : a.1 ≤ v.1 := hx.1
    have hm : v.1 * k / D ≤ v.1 * k / D := Int.le_refl _
    have fl1 : D * (v.1 * k / D) ≤ k * v.1 := by rw [Int.mul_comm D, Int.mul_comm k]; exact Int.ediv_mul_le _ (by omega)
    have fl2 : k * v.1 < D * (v.1 * k / D + 1) := by
      have := Int.lt_ediv_add_one_mul_self (v.1 * k) hD
      rw [Int.mul_comm D, Int.mul_comm k]
      exact this
    unfold lst
    generalize v.1 * k / D = f at *
    have hlast : r = [] → hi ≤ f := fun e => by
      subst e
      have : D * hi ≤ k * v.1 := hl
      have : D * hi < D * (f + 1) := by omega
      have := Int.lt_of_mul_lt_mul_left this (Int.le_of_lt hD)
      omega
    have stand : ∀ c' : Int, (hi < c' ∨ f < c') → Stand D k hi v r c' := by
      intro c' h
      cases r with
      | nil =>
        have := hlast rfl
        show hi < c'
        omega
      | cons w r =>
        rcases h with h | h
        · exact .inl h
        · refine .inr (.inl ?_)
          have : D * (f + 1) ≤ D * c' := Int.mul_le_mul_of_nonneg_left (by omega) (by omega)
          omega
    split
    · rename_i hle
      have le1 : min hi f ≤ hi := Int.min_le_left _ _
      have le2 : min hi f ≤ f := Int.min_le_right _ _
      have ih := lst_ok hD hk (ls := ls) r v (min hi f + 1) hx.2 (stand _ (by omega)) (by omega) hl
      have hDc : D * c ≤ k * v.1 := by
        have : D * c ≤ D * f := Int.mul_le_mul_of_nonneg_left (by omega) (by omega)
        omega
      have start : k * a.1 ≤ D * c ∧ a.1 < v.1 := by
        rcases hs with h | h | h
        · omega
        · refine ⟨by omega, ?_⟩
          refine Int.lt_of_mul_lt_mul_left (a := k) ?_ hk
          omega
        · exact h
      have len0 := rOf_len (strt D k ls a v c (min hi f))
      have lw : (strt D k ls a v c (min hi f)).w = min hi f - c + 1 := rfl
      rw [lw] at len0
      have eall : rAll (strt D k ls a v c (min hi f) :: lst D k ls hi (v :: r) (min hi f + 1)) = rOf (strt D k ls a v c (min hi f)) ++ rAll (lst D k ls hi (v :: r) (min hi f + 1)) := rfl
      rw [eall]
      refine ⟨?_, fun i hi' => ?_⟩
      · rw [List.length_append, len0, ih.1]
        omega
      · by_cases hin : i < (min hi f - c + 1).toNat
        · refine ⟨a, v, .inl ⟨rfl, rfl⟩, start.2, ?_, ?_, ?_⟩
          · have : D * c ≤ D * (c + i) := Int.mul_le_mul_of_nonneg_left (by omega) (by omega)
            omega
          · have : D * (c + i) ≤ D * f := Int.mul_le_mul_of_nonneg_left (by omega) (by omega)
            omega
          · rw [List.getElem?_append_left (by rw [len0]; exact hin)]
            exact strt_at D k ls a v c (min hi f) i hin
        · obtain ⟨u, w, h1, h2, h3, h4, h5⟩ := ih.2 (i - (min hi f - c + 1).toNat) (by omega)
          have e : min hi f + 1 + ((i - (min hi f - c + 1).toNat : Nat) : Int) = c + i := by omega
          rw [e] at h3 h4 h5
          refine ⟨u, w, .inr h1, h2, h3, h4, ?_⟩
          rw [List.getElem?_append_right (by rw [len0]; omega), len0]
          exact h5
    · rename_i hle
      have hle' : hi < c ∨ f < c := by omega
      have ih := lst_ok hD hk (ls := ls) r v c hx.2 (stand _ hle') hc hl
      refine ⟨ih.1, fun i hi' => ?_⟩
      obtain ⟨u, w, h1, h2, h3, h4, h5⟩ := ih.2 i hi'
      exact ⟨u, w, .inr h1, h2, h3, h4, h5⟩
/-! ### the way below some corners -/
def chain (cs : List Pt) : List Pt := bends (Sq68.inOrder cs)
structure Way (cs : List Pt) (a : Pt) (v : Pt) (r : List Pt) : Prop where
  eq : chain cs = a :: v :: r
  xm : XM (a :: v :: r)
  path : Path (Edge cs) (a :: v :: r)
  mem : ∀ p ∈ a :: v :: r, p ∈ cs
  first : ∀ p ∈ cs, a.1 ≤ p.1
  last : ∀ p ∈ cs, p.1 ≤ (lastP a (v :: r)).1
  up : a.1 < v.1
theorem lastP_mem : ∀ (r : List Pt) (a : Pt), lastP a r ∈ a :: r
  | [], a => List.mem_cons_self
  | b :: r, _ => List.mem_cons_of_mem _ (lastP_mem r b)
theorem chain_way {cs : List Pt} {p q : Pt} (hp : p ∈ cs) (hq : q ∈ cs) (hpq : p.1 < q.1) : ∃ a v r, Way cs a v r := by
  have hs := inOrder_sorted cs
  have mp := (mem_inOrder cs p).2 hp
  have mq := (mem_inOrder cs q).2 hq
  have mem : ∀ x, x ∈ Sq68.inOrder cs ↔ x ∈ cs := mem_inOrder cs
  unfold chain at *
  revert hs mp mq mem
  generalize ho : Sq68.inOrder cs = o
  intro hs mp mq mem
  match o, ho, hs, mp, mq, mem with
  | a :: s, ho, hs, mp, mq, mem =>
    have hne : s ≠ [] := by
      intro e
      subst e
      have h1 : p = a := by simpa using mp
      have h2 : q = a := by simpa using mq
      rw [h1, h2] at hpq
      omega
    obtain ⟨c, z, e, hp', hm, hz⟩ := bends_ok hs hne
    have af : ∀ x ∈ cs, a.1 ≤ x.1 := by
      intro x hx
      rcases List.mem_cons.1 ((mem x).2 hx) with h | h
      · rw [h]; exact Int.le_refl _
      · have := (List.pairwise_cons.1 hs).1 x h
        unfold lx at this
        omega
    have zl : ∀ x ∈ cs, x.1 ≤ z.1 := by
      intro x hx
      have hx := (mem x).2 hx
      obtain ⟨ini, hini⟩ := List.getLast?_eq_some_iff.1 hz
      rw [hini] at hx hs
      rcases List.mem_append.1 hx with h | h
      · have := (List.pairwise_append.1 hs).2.2 x h z (by simp)
        unfold lx at this
        omega
      · have : x = z := by simpa using h
        rw [this]; exact Int.le_refl _
    obtain ⟨v, r, er⟩ : ∃ v r, c ++ [z] = v :: r := by
      cases c with
      | nil => exact ⟨z, [], rfl⟩
      | cons x c => exact ⟨x, c ++ [z], rfl⟩
    have e' : bends (a :: s) = a :: v :: r := by rw [e, List.cons_append, er]
    rw [e'] at hp' hm
    have lp : lastP a (v :: r) = z := by rw [← er]; exact lastP_end z c a
    have ed : Path (Edge cs) (a :: v :: r) := path_mono (fun x y w => edge_sub (fun t ht => (mem t).2 ht) (ed_edge w)) hp'
    refine ⟨a, v, r, by show bends (Sq68.inOrder cs) = _; rw [ho]; exact e', ed_xm hp', ed, fun x hx => (mem x).1 (hm x hx), af, by rw [lp]; exact zl, ?_⟩
    -- the first edge isn't upright
    have hav : lx a v := hp'.1.1
    have e1 : Edge cs a v := ed.1
    refine Int.not_le.1 fun hle => ?_
    have hav1 : a.1 = v.1 := by unfold lx at hav; omega
    have hav2 : a.2 < v.2 := by unfold lx at hav; omega
    have t1 := (e1.2 q hq).1
    have ap := af p hp
    unfold tr at t1
    rw [hav1] at t1 ap
    have : 0 < (v.2 - a.2) * (q.1 - v.1) := Int.mul_pos (by omega) (by omega)
    simp at t1
    omega
end Pg
end

section
namespace Pg
open Sq71 (Polygon)
/-! ### edges in the list -/
theorem adj_out : ∀ {c : List Pt} {z x : Pt}, x ∈ c → ∃ y, Adj x y (c ++ [z])
  | [a], z, x, h => ⟨z, .inl ⟨by simpa using h, rfl⟩⟩
  | a :: b :: c, z, x, h => by
    rcases List.mem_cons.1 h with e | h
    · exact ⟨b, .inl ⟨e, rfl⟩⟩
    · obtain ⟨y, hy⟩ := adj_out (c := b :: c) (z := z) h
      exact ⟨y, .inr hy⟩
theorem adj_in : ∀ {r : List Pt} {a z x : Pt}, x ∈ r ++ [z] → ∃ y, Adj y x (a :: (r ++ [z]))
  | [], a, z, x, h => ⟨a, .inl ⟨rfl, by simpa using h⟩⟩
  | b :: r, a, z, x, h => by
    rcases List.mem_cons.1 h with e | h
    · exact ⟨a, .inl ⟨rfl, e⟩⟩
    · obtain ⟨y, hy⟩ := adj_in (r := r) (a := b) (z := z) h
      exact ⟨y, .inr hy⟩
section
variable {p : Polygon} {a z : Pt} {L U : List Pt}
theorem Mono.head (m : Mono p.cs a L z U) : ∃ r, p.cs = a :: r ∧ Path (Edge p.cs) ((a :: r) ++ [a]) := by
  refine ⟨L ++ (z :: U), m.eq, ?_⟩
  have := m.path
  rw [show p.cs ++ [a] = (a :: (L ++ (z :: U))) ++ [a] by rw [m.eq]; rfl] at this
  exact this
theorem Mono.edge_in (m : Mono p.cs a L z U) {u v : Pt} (e : Edge p.cs u v) (hu : u ∈ p.cs) (hv : v ∈ p.cs) : (u, v) ∈ Sq68.edges p.cs := by
  obtain ⟨r, er, hp⟩ := m.head
  have hu' : u ∈ a :: r := by rw [← er]; exact hu
  obtain ⟨y, hy⟩ := adj_out (z := a) hu'
  have e2 := adj_path hp hy
  have my : y ∈ p.cs := by
    have := (adj_mem hy).2
    rw [er]
    simp at this ⊢
    rcases this with h | h | h <;> simp [h]
  have : v = y := edge_unique e2 e my hv
  rw [er, ← adj_edges]
  rw [this]
  exact hy
theorem Mono.edge_to (m : Mono p.cs a L z U) {u : Pt} (hu : u ∈ p.cs) : ∃ w, (w, u) ∈ Sq68.edges p.cs := by
  obtain ⟨r, er, hp⟩ := m.head
  have hu' : u ∈ r ++ [a] := by
    rw [er] at hu
    simp at hu ⊢
    rcases hu with h | h <;> simp [h]
  obtain ⟨y, hy⟩ := adj_in (a := a) hu'
  refine ⟨y, ?_⟩
  rw [er, ← adj_edges]
  exact hy
theorem Mono.edge_from (m : Mono p.cs a L z U) {u : Pt} (hu : u ∈ p.cs) : ∃ w, (u, w) ∈ Sq68.edges p.cs := by
  obtain ⟨r, er, hp⟩ := m.head
  have hu' : u ∈ a :: r := by rw [← er]; exact hu
  obtain ⟨y, hy⟩ := adj_out (z := a) hu'
  refine ⟨y, ?_⟩
  rw [er, ← adj_edges]
  exact hy
/-- no points strictly within at an outermost x -/
theorem Mono.none_left (m : Mono p.cs a L z U) {q : Pt} (hq : q ∈ p.cs) (h : ∀ c ∈ p.cs, q.1 ≤ c.1) {D k x y : Int} (hx : D * x = k * q.1) : ¬ ∀ e ∈ Sq68.edges p.cs, 0 < sd D k x y e := by
  intro all
  obtain ⟨w, hw⟩ := m.edge_to hq
  obtain ⟨v, hv⟩ := m.edge_from hq
  have w1 := h w (edges_mem hw).1
  have v1 := h v (edges_mem hv).2
  have s1 := all _ hw
  have s2 := all _ hv
  unfold sd at s1 s2
  simp only at s1 s2
  rw [hx] at s1 s2
  have e1 : (q.1 - w.1) * (D * y - k * w.2) - (q.2 - w.2) * (k * q.1 - k * w.1) = -((w.1 - q.1) * (D * y - k * q.2)) := by grind
  have e2 : (v.1 - q.1) * (D * y - k * q.2) - (v.2 - q.2) * (k * q.1 - k * q.1) = (v.1 - q.1) * (D * y - k * q.2) := by grind
  rw [e1] at s1
  rw [e2] at s2
  rcases Int.le_total 0 (D * y - k * q.2) with t | t
  · have := Int.mul_nonneg (show 0 ≤ w.1 - q.1 by omega) t
    omega
  · have := Int.mul_nonneg (show 0 ≤ v.1 - q.1 by omega) (Int.neg_nonneg.2 t)
    rw [Int.mul_neg] at this
    omega
theorem Mono.none_right (m : Mono p.cs a L z U) {q : Pt} (hq : q ∈ p.cs) (h : ∀ c ∈ p.cs, c.1 ≤ q.1) {D k x y : Int} (hx : D * x = k * q.1) : ¬ ∀ e ∈ Sq68.edges p.cs, 0 < sd D k x y e := by
  intro all
  obtain ⟨w, hw⟩ := m.edge_to hq
  obtain ⟨v, hv⟩ := m.edge_from hq
  have w1 := h w (edges_mem hw).1
  have v1 := h v (edges_mem hv).2
  have s1 := all _ hw
  have s2 := all _ hv
  unfold sd at s1 s2
  simp only at s1 s2
  rw [hx] at s1 s2
  have e1 : (q.1 - w.1) * (D * y - k * w.2) - (q.2 - w.2) * (k * q.1 - k * w.1) = (q.1 - w.1) * (D * y - k * q.2) := by grind
  have e2 : (v.1 - q.1) * (D * y - k * q.2) - (v.2 - q.2) * (k * q.1 - k * q.1) = -((q.1 - v.1) * (D * y - k * q.2)) := by grind
  rw [e1] at s1
  rw [e2] at s2
  rcases Int.le_total 0 (D * y - k * q.2) with t | t
  · have := Int.mul_nonneg (show 0 ≤ q.1 - v.1 by omega) t
    omega
  · have := Int.mul_nonneg (show 0 ≤ q.1 - w.1 by omega) (Int.neg_nonneg.2 t)
    rw [Int.mul_neg] at this
    omega
end
/-! ### the way above -/
theorem edge_nY {cs : List Pt} {u v : Pt} (h : Edge (cs.map nY) (nY u) (nY v)) : Edge cs v u := by
  refine ⟨fun e => h.1 (by rw [e]), fun q hq => ?_⟩
  have := h.2 (nY q) (List.mem_map_of_mem hq)
  have e1 : tr (nY u) (nY v) (nY q) = tr v u q := by unfold tr nY; grind
  have e2 : dt (nY u) (nY v) (nY q) = dt v u u - dt v u q := by unfold dt nY; grind
  have e3 : dt (nY u) (nY v) (nY v) = dt v u u := by unfold dt nY; grind
  rw [e1, e2, e3] at this
  refine ⟨this.1, fun t => ?_⟩
  have := this.2 t
  omega
theorem rch_le {D k ls x y : Int} (hD : 0 < D) {u v : Pt} (h : u.1 < v.1) : - rch D k ls u v x ≤ y ↔ ls ≤ sd D k x y (u, v) := by
  have hm : 0 < (v.1 - u.1) * D := Int.mul_pos (by omega) hD
  unfold rch
  have e : (- ((-(tt D k x (u, v)) - ls) / ((v.1 - u.1) * D)) ≤ y) ↔ -y ≤ (-(tt D k x (u, v)) - ls) / ((v.1 - u.1) * D) := by omega
  rw [e, Int.le_ediv_iff_mul_le hm]
  have : sd D k x y (u, v) = (v.1 - u.1) * D * y - tt D k x (u, v) := by unfold sd tt; grind
  rw [this, Int.neg_mul, Int.mul_comm y]
  omega
theorem rch_ge {D k ls x y : Int} (hD : 0 < D) {u v : Pt} (h : u.1 < v.1) : y ≤ rch D k ls (nY u) (nY v) x ↔ ls ≤ sd D k x y (v, u) := by
  rw [← sd_neg, ← rch_le (u := nY u) (v := nY v) hD h]
  omega
/-! ### between an edge below and an edge above -/
theorem sum_sd (D k x y : Int) (u v c d a z : Pt) : (z.1 - a.1) * ((c.1 - d.1) * sd D k x y (u, v) + (v.1 - u.1) * sd D k x y (c, d)) =
    (k * z.1 - D * x) * ((c.1 - d.1) * tr u v a + (v.1 - u.1) * tr c d a) + (D * x - k * a.1) * ((c.1 - d.1) * tr u v z + (v.1 - u.1) * tr c d z) := by
  unfold sd tr
  grind
theorem sum_tr (q : Pt) (u v c d a z : Pt) : (z.1 - a.1) * ((c.1 - d.1) * tr u v q + (v.1 - u.1) * tr c d q) =
    (z.1 - q.1) * ((c.1 - d.1) * tr u v a + (v.1 - u.1) * tr c d a) + (q.1 - a.1) * ((c.1 - d.1) * tr u v z + (v.1 - u.1) * tr c d z) := by
  unfold tr
  grind
/-- below less than above -/
theorem sum_pos {cs : List Pt} {D k x y : Int} {u v c d a z : Pt} (e1 : Edge cs u v) (e2 : Edge cs c d) (h1 : u.1 < v.1) (h2 : d.1 < c.1) (ha : a ∈ cs) (hz : z ∈ cs)
    (hA : ∀ q ∈ cs, a.1 ≤ q.1) (hZ : ∀ q ∈ cs, q.1 ≤ z.1) (haz : a.1 < z.1) (hq : ∃ q ∈ cs, 0 < tr u v q) {ls : Int} (hls : ls = 0 ∨ ls = 1) (hx1 : k * a.1 + ls ≤ D * x) (hx2 : D * x + ls ≤ k * z.1) :
    ls ≤ (c.1 - d.1) * sd D k x y (u, v) + (v.1 - u.1) * sd D k x y (c, d) := by
  have id := sum_sd D k x y u v c d a z
  have pos : ∀ q ∈ cs, 0 ≤ (c.1 - d.1) * tr u v q ∧ 0 ≤ (v.1 - u.1) * tr c d q := fun q hq =>
    ⟨Int.mul_nonneg (by omega) (e1.2 q hq).1, Int.mul_nonneg (by omega) (e2.2 q hq).1⟩
  have pa := pos a ha
  have pz := pos z hz
  obtain ⟨q, hq, tq⟩ := hq
  have idq := sum_tr q u v c d a z
  have pq := pos q hq
  have tq' : 0 < (c.1 - d.1) * tr u v q := Int.mul_pos (by omega) tq
  have gp : 0 < (c.1 - d.1) * tr u v q + (v.1 - u.1) * tr c d q := by omega
  generalize (c.1 - d.1) * tr u v q + (v.1 - u.1) * tr c d q = g at *
  generalize hF : (c.1 - d.1) * tr u v a + (v.1 - u.1) * tr c d a = fa at *
  generalize hG : (c.1 - d.1) * tr u v z + (v.1 - u.1) * tr c d z = fz at *
  have na : 0 ≤ fa := by omega
  have nz : 0 ≤ fz := by omega
  have m1 := Int.mul_nonneg (show 0 ≤ k * z.1 - D * x by omega) na
  have m2 := Int.mul_nonneg (show 0 ≤ D * x - k * a.1 by omega) nz
  rcases hls with rfl | rfl
  · refine Int.not_lt.1 fun hlt => ?_
    have := Int.mul_neg_of_pos_of_neg (show 0 < z.1 - a.1 by omega) hlt
    omega
  · refine Int.not_lt.1 fun hlt => ?_
    have hle : (c.1 - d.1) * sd D k x y (u, v) + (v.1 - u.1) * sd D k x y (c, d) ≤ 0 := by omega
    have l0 := Int.mul_nonneg (show 0 ≤ z.1 - a.1 by omega) (Int.neg_nonneg.2 hle)
    rw [Int.mul_neg] at l0
    have z1 : (k * z.1 - D * x) * fa = 0 := by omega
    have z2 : (D * x - k * a.1) * fz = 0 := by omega
    have fa0 : fa = 0 := by
      rcases Int.mul_eq_zero.1 z1 with e | e
      · omega
      · exact e
    have fz0 : fz = 0 := by
      rcases Int.mul_eq_zero.1 z2 with e | e
      · omega
      · exact e
    rw [fa0, fz0] at idq
    rw [Int.mul_zero, Int.mul_zero, Int.add_zero] at idq
    rcases Int.mul_eq_zero.1 idq with e | e <;> omega
/-- all edges by two, strictly -/
theorem two_edges_in {cs : List Pt} {D k x y : Int} {u v u' v' a z : Pt} (hE : ∀ c d, (c, d) ∈ Sq68.edges cs → Edge cs c d)
    (hu : u ∈ cs) (hv : v ∈ cs) (hu' : u' ∈ cs) (hv' : v' ∈ cs) (h1 : u.1 < v.1) (h2 : k * u.1 ≤ D * x) (h3 : D * x ≤ k * v.1)
    (h1' : v'.1 < u'.1) (h2' : k * v'.1 ≤ D * x) (h3' : D * x ≤ k * u'.1) (l : 0 < sd D k x y (u, v)) (r : 0 < sd D k x y (u', v'))
    (ha : a ∈ cs) (hz : z ∈ cs) (hA : ∀ q ∈ cs, a.1 ≤ q.1) (hZ : ∀ q ∈ cs, q.1 ≤ z.1) (hx1 : k * a.1 < D * x) (hx2 : D * x < k * z.1) :
    ∀ e ∈ Sq68.edges cs, 0 < sd D k x y e := by
  rintro ⟨c, d⟩ he
  have ed := hE c d he
  have t1 := (ed.2 u hu).1
  have t2 := (ed.2 v hv).1
  have t3 := (ed.2 u' hu').1
  have t4 := (ed.2 v' hv').1
  have mc := (edges_mem he).1
  refine Int.not_le.1 fun hneg => ?_
  rcases Int.lt_trichotomy 0 (d.1 - c.1) with hdc | hdc | hdc
  · have id := sd_low D k x y c d u v
    have m1 := Int.mul_nonneg (Int.sub_nonneg.2 h3) t1
    have m2 := Int.mul_nonneg (Int.sub_nonneg.2 h2) t2
    have m3 := Int.mul_pos hdc l
    have m4 := Int.mul_nonneg (show 0 ≤ v.1 - u.1 by omega) (Int.neg_nonneg.2 hneg)
    rw [Int.mul_neg] at m4
    omega
  · have ta := (ed.2 a ha).1
    have tz := (ed.2 z hz).1
    have Ac := hA c mc
    have Zc := hZ c mc
    unfold tr at ta tz
    unfold sd at hneg
    simp only at hneg
    rw [← hdc] at ta tz hneg
    simp only [Int.zero_mul, Int.zero_sub, Int.neg_nonneg, Int.neg_nonpos_iff] at ta tz hneg
    rcases Int.lt_trichotomy (d.2 - c.2) 0 with s | s | s
    · have q : 0 ≤ (c.2 - d.2) * (a.1 - c.1) := by
        have : (c.2 - d.2) * (a.1 - c.1) = -((d.2 - c.2) * (a.1 - c.1)) := by grind
        omega
      have az : c.1 = a.1 := by
        refine Int.le_antisymm (Int.not_lt.1 fun hlt => ?_) Ac
        have := Int.mul_neg_of_pos_of_neg (show 0 < c.2 - d.2 by omega) (show a.1 - c.1 < 0 by omega)
        omega
      rw [az] at hneg
      have := Int.mul_neg_of_neg_of_pos s (show 0 < D * x - k * a.1 by omega)
      omega
    · exact ed.1 (Prod.ext (by omega) (by omega))
    · have zz : c.1 = z.1 := by
        refine Int.le_antisymm Zc (Int.not_lt.1 fun hlt => ?_)
        have := Int.mul_pos s (show 0 < z.1 - c.1 by omega)
        omega
      rw [zz] at hneg
      have := Int.mul_neg_of_pos_of_neg s (show D * x - k * z.1 < 0 by omega)
      omega
  · have id := sd_low D k x y c d v' u'
    have e : sd D k x y (v', u') = - sd D k x y (u', v') := by unfold sd; grind
    rw [e] at id
    have m1 := Int.mul_nonneg (Int.sub_nonneg.2 h3') t4
    have m2 := Int.mul_nonneg (Int.sub_nonneg.2 h2') t3
    have m3 := Int.mul_pos (show 0 < -(d.1 - c.1) by omega) r
    have m4 := Int.mul_nonneg (show 0 ≤ u'.1 - v'.1 by omega) (Int.neg_nonneg.2 hneg)
    rw [Int.mul_neg] at m4
    have e2 : (d.1 - c.1) * -sd D k x y (u', v') = -(d.1 - c.1) * sd D k x y (u', v') := by grind
    rw [e2] at id
    omega
end Pg
end

section
namespace Pg
open Sq71 (Polygon)
/-! ### the count by reaches -/
def lsOf (st : Bool) : Int := if st = true then 1 else 0
theorem inE_iff {st : Bool} {D k x y : Int} {e : Pt × Pt} : inE st D k x y e ↔ lsOf st ≤ sd D k x y e := by
  unfold inE lsOf
  cases st <;> simp <;> omega
/-- the first and the last column -/
def colA (D k ls A : Int) : Int := -((-A * k - ls) / D)
def colZ (D k ls Z : Int) : Int := (Z * k - ls) / D
theorem colA_le {D k ls A x : Int} (hD : 0 < D) : colA D k ls A ≤ x ↔ k * A + ls ≤ D * x := by
  unfold colA
  have e : (-((-A * k - ls) / D) ≤ x) ↔ -x ≤ (-A * k - ls) / D := by omega
  rw [e, Int.le_ediv_iff_mul_le hD, Int.neg_mul, Int.neg_mul, Int.mul_comm x, Int.mul_comm A]
  omega
theorem le_colZ {D k ls Z x : Int} (hD : 0 < D) : x ≤ colZ D k ls Z ↔ D * x + ls ≤ k * Z := by
  unfold colZ
  rw [Int.le_ediv_iff_mul_le hD, Int.mul_comm x, Int.mul_comm Z]
  omega
def sumMin (cs : List Pt) : Int := ((cs.map fun c => c.1).min?).getD 0
def sumMax (cs : List Pt) : Int := ((cs.map fun c => c.1).max?).getD 0
/-- all that is known of a polygon told by the steps -/
structure Fine (p : Polygon) : Prop where
  D0 : 0 < p.D
  mono : ∃ a L z U, Mono p.cs a L z U
  bend : ∀ u v, u ∈ p.cs → v ∈ p.cs → u.1 < v.1 → ∃ q ∈ p.cs, tr u v q ≠ 0
/-- reaches below and above -/
def RB (p : Polygon) (k : Int) (st : Bool) : List Int := rAll (lst p.D k (lsOf st) (colZ p.D k (lsOf st) (sumMax p.cs)) (chain p.cs) (colA p.D k (lsOf st) (sumMin p.cs)))
def RA (p : Polygon) (k : Int) (st : Bool) : List Int := rAll (lst p.D k (lsOf st) (colZ p.D k (lsOf st) (sumMax p.cs)) (chain (p.cs.map nY)) (colA p.D k (lsOf st) (sumMin p.cs)))
def wide (p : Polygon) (k : Int) (st : Bool) : Int := colZ p.D k (lsOf st) (sumMax p.cs) + 1 - colA p.D k (lsOf st) (sumMin p.cs)
theorem min_is {cs : List Pt} {a : Pt} (ha : a ∈ cs) (h : ∀ c ∈ cs, a.1 ≤ c.1) : sumMin cs = a.1 := by
  have : (cs.map fun c => c.1).min? = some a.1 := by
    rw [List.min?_eq_some_iff]
    refine ⟨List.mem_map.2 ⟨a, ha, rfl⟩, fun b hb => ?_⟩
    obtain ⟨c, hc, rfl⟩ := List.mem_map.1 hb
    exact h c hc
  unfold sumMin
  rw [this]; rfl
theorem max_is {cs : List Pt} {a : Pt} (ha : a ∈ cs) (h : ∀ c ∈ cs, c.1 ≤ a.1) : sumMax cs = a.1 := by
  have : (cs.map fun c => c.1).max? = some a.1 := by
    rw [List.max?_eq_some_iff]
    refine ⟨List.mem_map.2 ⟨a, ha, rfl⟩, fun b hb => ?_⟩
    obtain ⟨c, hc, rfl⟩ := List.mem_map.1 hb
    exact h c hc
  unfold sumMax
  rw [this]; rfl
theorem wide_nonneg {p : Polygon} (hp : Fine p) {k : Nat} {st : Bool} (hk : st = true → 0 < k) : 0 ≤ wide p k st := by
  obtain ⟨a, L, z, U, m⟩ := hp.mono
  have hD : (0 : Int) < p.D := by have := hp.D0; omega
  have bd := m.bounds
  have ma : a ∈ p.cs := by rw [m.eq]; simp
  have mz : z ∈ p.cs := by rw [m.eq]; simp
  have eA := min_is ma fun c hc => (bd c hc).1
  have eZ := max_is mz fun c hc => (bd c hc).2
  have haz := m.lt
  unfold wide
  rw [eA, eZ]
  refine Int.not_lt.1 fun hlt => ?_
  have h1 : ¬ colZ p.D k (lsOf st) z.1 + 1 ≤ colZ p.D k (lsOf st) z.1 := by omega
  have h2 : ¬ colA p.D k (lsOf st) a.1 ≤ colZ p.D k (lsOf st) z.1 + 1 := by omega
  rw [le_colZ hD] at h1
  rw [colA_le hD] at h2
  have h3 : (k : Int) * a.1 ≤ k * z.1 := Int.mul_le_mul_of_nonneg_left (by omega) (by omega)
  unfold lsOf at h1 h2
  cases st with
  | false => simp at h1 h2; omega
  | true =>
    have : (k : Int) * a.1 < k * z.1 := Int.mul_lt_mul_of_pos_left haz (by have := hk rfl; omega)
    simp at h1 h2
    omega
/-- what the reaches are -/
theorem reach_ok {p : Polygon} (hp : Fine p) {k : Nat} {st : Bool} (hk : st = true → 0 < k) :
    (RB p k st).length = (wide p k st).toNat ∧ (RA p k st).length = (wide p k st).toNat ∧
    ∀ i : Nat, i < (wide p k st).toNat → ∃ rb ra, (RB p k st)[i]? = some rb ∧ (RA p k st)[i]? = some ra ∧ 0 ≤ rb + ra + 1 ∧
      ∀ y, (-rb ≤ y ∧ y ≤ ra) ↔ ∀ e ∈ Sq68.edges p.cs, inE st p.D k (colA p.D k (lsOf st) (sumMin p.cs) + i) y e := by
  obtain ⟨a, L, z, U, m⟩ := hp.mono
  have hD : (0 : Int) < p.D := by have := hp.D0; omega
  have bd := m.bounds
  have ma : a ∈ p.cs := by rw [m.eq]; simp
  have mz : z ∈ p.cs := by rw [m.eq]; simp
  have eA := min_is ma fun c hc => (bd c hc).1
  have eZ := max_is mz fun c hc => (bd c hc).2
  have haz := m.lt
  have w0 := wide_nonneg hp hk
  obtain ⟨a1, v1, r1, W1⟩ := chain_way ma mz haz
  obtain ⟨a2, v2, r2, W2⟩ := chain_way (cs := p.cs.map nY) (List.mem_map_of_mem ma) (List.mem_map_of_mem mz) haz
  have ls01 : lsOf st = 0 ∨ lsOf st = 1 := by unfold lsOf; cases st <;> simp
  have ls0 : 0 ≤ lsOf st := by omega
  unfold RB RA
  unfold wide at w0 ⊢
  rw [eA, eZ] at *
  have A1 := (colA_le (x := colA p.D k (lsOf st) a.1) (k := k) (ls := lsOf st) (A := a.1) hD).1 (Int.le_refl _)
  have Z1 := (le_colZ (x := colZ p.D k (lsOf st) z.1) (k := k) (ls := lsOf st) (Z := z.1) hD).1 (Int.le_refl _)
  have xA : ∀ x, colA p.D k (lsOf st) a.1 ≤ x → (k : Int) * a.1 + lsOf st ≤ p.D * x := fun x h => (colA_le hD).1 h
  have xZ : ∀ x, x ≤ colZ p.D k (lsOf st) z.1 → p.D * x + lsOf st ≤ (k : Int) * z.1 := fun x h => (le_colZ hD).1 h
  generalize colA p.D k (lsOf st) a.1 = c0 at *
  generalize colZ p.D k (lsOf st) z.1 = hi at *
  have ea1 : a1.1 = a.1 := Int.le_antisymm (W1.first a ma) (bd a1 (W1.mem a1 (by simp))).1
  have m2 : ∀ q ∈ p.cs.map nY, a.1 ≤ q.1 ∧ q.1 ≤ z.1 := by
    intro q hq
    obtain ⟨c, hc, rfl⟩ := List.mem_map.1 hq
    exact bd c hc
  have ea2 : a2.1 = a.1 := Int.le_antisymm (W2.first (nY a) (List.mem_map_of_mem ma)) (m2 a2 (W2.mem a2 (by simp))).1
  have ez1 : (lastP a1 (v1 :: r1)).1 = z.1 := Int.le_antisymm (bd _ (W1.mem _ (lastP_mem _ _))).2 (W1.last z mz)
  have ez2 : (lastP a2 (v2 :: r2)).1 = z.1 := Int.le_antisymm (m2 _ (W2.mem _ (lastP_mem _ _))).2 (W2.last (nY z) (List.mem_map_of_mem mz))
  have k0 : (0 : Int) ≤ k := by omega
  have L1 := lst_ok (ls := lsOf st) hD k0 (v1 :: r1) a1 c0 W1.xm (.inr (.inr ⟨by rw [ea1]; omega, W1.up⟩)) (by omega) (show p.D * hi ≤ _ by rw [ez1]; omega)
  have L2 := lst_ok (ls := lsOf st) hD k0 (v2 :: r2) a2 c0 W2.xm (.inr (.inr ⟨by rw [ea2]; omega, W2.up⟩)) (by omega) (show p.D * hi ≤ _ by rw [ez2]; omega)
  rw [W1.eq, W2.eq]
  refine ⟨L1.1, L2.1, fun i hi' => ?_⟩
  obtain ⟨u, v, hadj, huv, hu, hv, er⟩ := L1.2 i hi'
  obtain ⟨u', v', hadj', huv', hu', hv', er'⟩ := L2.2 i hi'
  refine ⟨_, _, er, er', ?_⟩
  have hx1 := xA (c0 + i) (by omega)
  have hx2 := xZ (c0 + i) (by omega)
  generalize c0 + (i : Int) = x at *
  have mu := W1.mem u (adj_mem hadj).1
  have mv := W1.mem v (adj_mem hadj).2
  have E1 := adj_path W1.path hadj
  have mu' := W2.mem u' (adj_mem hadj').1
  have mv' := W2.mem v' (adj_mem hadj').2
  have E2 := adj_path W2.path hadj'
  obtain ⟨d, hd, rfl⟩ := List.mem_map.1 mu'
  obtain ⟨c, hc, rfl⟩ := List.mem_map.1 mv'
  have E2 := edge_nY E2
  have hdc : d.1 < c.1 := huv'
  have hd' : (k : Int) * d.1 ≤ p.D * x := hu'
  have hc' : p.D * x ≤ (k : Int) * c.1 := hv'
  have i1 := m.edge_in E1 mu mv
  have i2 := m.edge_in E2 hc hd
  have sem : ∀ y, (- rch p.D k (lsOf st) u v x ≤ y ∧ y ≤ rch p.D k (lsOf st) (nY d) (nY c) x) ↔ ∀ e ∈ Sq68.edges p.cs, inE st p.D k x y e := by
    intro y
    rw [rch_le hD huv, rch_ge hD hdc]
    constructor
    · intro ⟨l, r⟩
      cases st with
      | false => exact fun e he => two_edges (fun c d h => m.edge h) mu mv hc hd huv hu hv hdc hd' hc' l r e he
      | true =>
        have hx1 : (k : Int) * a.1 + 1 ≤ p.D * x := hx1
        have hx2 : p.D * x + 1 ≤ (k : Int) * z.1 := hx2
        exact fun e he => two_edges_in (fun c d h => m.edge h) mu mv hc hd huv hu hv hdc hd' hc' l r ma mz (fun c hc => (bd c hc).1) (fun c hc => (bd c hc).2) (by omega) (by omega) e he
    · intro h
      exact ⟨inE_iff.1 (h _ i1), inE_iff.1 (h _ i2)⟩
  refine ⟨?_, sem⟩
  obtain ⟨q, hq, tq⟩ := hp.bend u v mu mv huv
  have tq : 0 < tr u v q := by have := (E1.2 q hq).1; omega
  refine Int.not_lt.1 fun hlt => ?_
  have n1 : ¬ (- rch p.D k (lsOf st) u v x ≤ rch p.D k (lsOf st) (nY d) (nY c) x + 1) := by omega
  have n2 : ¬ (rch p.D k (lsOf st) (nY d) (nY c) x + 1 ≤ rch p.D k (lsOf st) (nY d) (nY c) x) := by omega
  generalize hy : rch p.D k (lsOf st) (nY d) (nY c) x + 1 = y at n1 n2
  rw [rch_le hD huv] at n1
  rw [rch_ge hD hdc] at n2
  have sp := sum_pos (y := y) E1 E2 huv hdc ma mz (fun c hc => (bd c hc).1) (fun c hc => (bd c hc).2) haz ⟨q, hq, tq⟩ ls01 hx1 hx2
  rcases ls01 with e | e
  · rw [e] at n1 n2 sp
    have m1 := Int.mul_neg_of_pos_of_neg (show 0 < c.1 - d.1 by omega) (Int.not_le.1 n1)
    have m2 := Int.mul_neg_of_pos_of_neg (show 0 < v.1 - u.1 by omega) (Int.not_le.1 n2)
    omega
  · rw [e] at n1 n2 sp
    have m1 := Int.mul_nonneg (show 0 ≤ c.1 - d.1 by omega) (show 0 ≤ -(sd p.D k x y (u, v)) by omega)
    have m2 := Int.mul_nonneg (show 0 ≤ v.1 - u.1 by omega) (show 0 ≤ -(sd p.D k x y (c, d)) by omega)
    rw [Int.mul_neg] at m1 m2
    omega
theorem sum_take (R : List Int) (c : Int) : ∀ n : Nat, n ≤ R.length → sumI (fun x => R.getD (x - c).toNat 0) c n = (R.take n).sum
  | 0, _ => by simp [sumI]
  | n + 1, h => by
    show sumI _ c n + R.getD (c + n - c).toNat 0 = _
    rw [sum_take R c n (by omega), List.take_add_one]
    have e : (c + (n : Int) - c).toNat = n := by omega
    rw [e, List.getElem?_eq_getElem (by omega), List.getD_eq_getElem?_getD, List.getElem?_eq_getElem (by omega), List.sum_append]
    simp only [Option.getD_some, Option.toList_some, List.sum_cons, List.sum_nil, Int.add_zero]
theorem sum_getD (R : List Int) (c : Int) : sumI (fun x => R.getD (x - c).toNat 0) c R.length = R.sum := by
  rw [sum_take R c _ (Nat.le_refl _), List.take_length]
def colN (p : Polygon) (k : Nat) (st : Bool) (x : Int) : Nat := ((Sq71.column p k st x).map fun y => (y.2 - y.1 + 1).toNat).getD 0
theorem range_sum (f : Int → Nat) (s : Int) : ∀ n : Nat, (((((List.range n).map fun (i : Nat) => s + (i : Int)).map f).sum : Nat) : Int) = sumI (fun x => (f x : Int)) s n
  | 0 => rfl
  | n + 1 => by
    rw [List.range_succ, List.map_append, List.map_append, List.sum_append, Int.natCast_add, range_sum f s n]
    show _ = sumI _ s n + (f (s + n) : Int)
    simp
theorem S_zero {f : Int → Int} {a b : Int} (h : ∀ x, a ≤ x → x < b → f x = 0) : S f a b = 0 := by
  rw [S_congr (g := fun _ => 0) h]
  unfold S
  generalize (b - a).toNat = n
  induction n with
  | zero => rfl
  | succ n ih => show sumI _ _ n + 0 = 0; rw [ih]; rfl
/-- **the count** -/
theorem count_reach {p : Polygon} (hp : Fine p) {k : Nat} {st : Bool} (hk : st = true → 0 < k) : (Sq71.count p k st : Int) = (RB p k st).sum + (RA p k st).sum + wide p k st := by
  have w0 := wide_nonneg hp hk
  obtain ⟨l1, l2, all⟩ := reach_ok hp hk
  obtain ⟨a, L, z, U, m⟩ := hp.mono
  have hD : (0 : Int) < p.D := by have := hp.D0; omega
  have bd := m.bounds
  have ma : a ∈ p.cs := by rw [m.eq]; simp
  have mz : z ∈ p.cs := by rw [m.eq]; simp
  have eA := min_is ma fun c hc => (bd c hc).1
  have eZ := max_is mz fun c hc => (bd c hc).2
  have mB := m.both
  have ec : (Sq71.count p k st : Int) = S (fun x => (colN p k st x : Int)) (Sq71.up (sumMin p.cs * k) p.D) (sumMax p.cs * k / (p.D : Int) + 1) := by
    unfold Sq71.count
    rw [sum_filterMap]
    have := range_sum (colN p k st) (Sq71.up (sumMin p.cs * k) p.D) ((sumMax p.cs * k / (p.D : Int)) - Sq71.up (sumMin p.cs * k) p.D + 1).toNat
    unfold S
    rw [show sumMax p.cs * k / (p.D : Int) + 1 - Sq71.up (sumMin p.cs * k) p.D = (sumMax p.cs * k / (p.D : Int)) - Sq71.up (sumMin p.cs * k) p.D + 1 by omega]
    rw [← this]
    rfl
  have inner : S (fun x => (colN p k st x : Int)) (colA p.D k (lsOf st) (sumMin p.cs)) (colZ p.D k (lsOf st) (sumMax p.cs) + 1) = (RB p k st).sum + (RA p k st).sum + wide p k st := by
    unfold S
    rw [show (colZ p.D k (lsOf st) (sumMax p.cs) + 1 - colA p.D k (lsOf st) (sumMin p.cs)) = wide p k st from rfl]
    rw [← sum_getD (RB p k st) (colA p.D k (lsOf st) (sumMin p.cs)), ← sum_getD (RA p k st) (colA p.D k (lsOf st) (sumMin p.cs)), l1, l2, ← sumI_two]
    have one : ∀ (c : Int) (n : Nat), (n : Int) = sumI (fun _ => 1) c n := by
      intro c n
      induction n with
      | zero => rfl
      | succ n ih => show ((n + 1 : Nat) : Int) = sumI _ c n + 1; rw [← ih]; omega
    have ew : wide p k st = sumI (fun _ => 1) (colA p.D k (lsOf st) (sumMin p.cs)) (wide p k st).toNat := by
      rw [← one]
      omega
    conv => rhs; rhs; rw [ew]
    rw [← sumI_two]
    refine sumI_congr fun x h1 h2 => ?_
    obtain ⟨rb, ra, e1, e2, g, sem⟩ := all (x - colA p.D k (lsOf st) (sumMin p.cs)).toNat (by omega)
    have ex : colA p.D k (lsOf st) (sumMin p.cs) + ((x - colA p.D k (lsOf st) (sumMin p.cs)).toNat : Int) = x := by omega
    rw [ex] at sem
    have cn := col_num (p := p) hp.D0 mB sem
    show ((((Sq71.column p k st x).map fun y => (y.2 - y.1 + 1).toNat).getD 0 : Nat) : Int) = _
    rw [cn, List.getD_eq_getElem?_getD, List.getD_eq_getElem?_getD, e1, e2]
    simp only [Option.getD_some]
    omega
  rw [ec, ← inner]
  cases st with
  | false =>
    have e1 : Sq71.up (sumMin p.cs * k) p.D = colA p.D k (lsOf false) (sumMin p.cs) := by
      unfold Sq71.up colA lsOf
      rw [Int.neg_mul]
      simp
    have e2 : sumMax p.cs * k / (p.D : Int) = colZ p.D k (lsOf false) (sumMax p.cs) := by
      unfold colZ lsOf
      simp
    rw [e1, e2]
  | true =>
    have k0 := hk rfl
    have b1 : Sq71.up (sumMin p.cs * k) p.D ≤ colA p.D k (lsOf true) (sumMin p.cs) := by
      have := (colA_le (x := colA p.D k (lsOf true) (sumMin p.cs)) (k := k) (ls := lsOf true) (A := sumMin p.cs) hD).1 (Int.le_refl _)
      rw [le_up hD, Int.mul_comm, Int.mul_comm (colA _ _ _ _)]
      have q : lsOf true = 1 := rfl
      rw [q] at this ⊢
      omega
    have b2 : colZ p.D k (lsOf true) (sumMax p.cs) + 1 ≤ sumMax p.cs * k / (p.D : Int) + 1 := by
      have := (le_colZ (x := colZ p.D k (lsOf true) (sumMax p.cs)) (k := k) (ls := lsOf true) (Z := sumMax p.cs) hD).1 (Int.le_refl _)
      have : colZ p.D k (lsOf true) (sumMax p.cs) ≤ sumMax p.cs * k / (p.D : Int) := by
        rw [le_fl hD, Int.mul_comm, Int.mul_comm (sumMax _)]
        have q : lsOf true = 1 := rfl
        rw [q] at this ⊢
        omega
      omega
    have b3 : colA p.D k (lsOf true) (sumMin p.cs) ≤ colZ p.D k (lsOf true) (sumMax p.cs) + 1 := by
      unfold wide at w0
      omega
    have nocol : ∀ x, (¬ ∃ y, ∀ e ∈ Sq68.edges p.cs, 0 < sd p.D k x y e) → (colN p k true x : Int) = 0 := by
      intro x h
      unfold colN
      have : Sq71.column p k true x = none := (column_none hp.D0 mB).2 fun y hy => h ⟨y, fun e he => by
        have := hy e he
        unfold inE at this
        simpa using this⟩
      rw [this]
      rfl
    rw [S_split _ b1 (Int.le_trans b3 b2), S_split _ b3 b2]
    rw [S_zero (a := Sq71.up (sumMin p.cs * k) p.D), S_zero (a := colZ p.D k (lsOf true) (sumMax p.cs) + 1)]
    · omega
    · intro x h1 h2
      refine nocol x fun ⟨y, hy⟩ => ?_
      refine m.none_right (x := x) (y := y) (D := p.D) (k := k) mz (fun c hc => (bd c hc).2) ?_ hy
      have n1 : ¬ x ≤ colZ p.D k (lsOf true) (sumMax p.cs) := by omega
      rw [le_colZ hD, eZ, show lsOf true = 1 from rfl] at n1
      have n2 : x ≤ sumMax p.cs * k / (p.D : Int) := by omega
      rw [le_fl hD, eZ, Int.mul_comm x, Int.mul_comm z.1] at n2
      omega
    · intro x h1 h2
      refine nocol x fun ⟨y, hy⟩ => ?_
      refine m.none_left (x := x) (y := y) (D := p.D) (k := k) ma (fun c hc => (bd c hc).1) ?_ hy
      have n1 : ¬ colA p.D k (lsOf true) (sumMin p.cs) ≤ x := by omega
      rw [colA_le hD, eA, show lsOf true = 1 from rfl] at n1
      rw [le_up hD, eA, Int.mul_comm x, Int.mul_comm a.1] at h1
      omega
end Pg
end

section
namespace Pg
open Sq71 (Polygon Steps)
/-- each stretch has a divisor above 0, and isn't too wide -/
theorem lst_good {D k ls hi M : Int} (hD : 0 < D) (hk : 0 ≤ k) : ∀ (r : List Pt) (a : Pt) (c : Int), XM (a :: r) → Stand D k hi a r c → (∀ p ∈ a :: r, -M ≤ p.1 ∧ p.1 ≤ M) →
    ∀ s ∈ lst D k ls hi (a :: r) c, 0 < s.low ∧ s.low ≤ 2 * M * D ∧ s.w ≤ hi + 1 - c ∧ 0 ≤ s.w
  | [], a, c, _, _, _ => fun s hs => absurd hs (by simp [lst])
  | v :: r, a, c, hx, hs, hM => by
    have hav : a.1 ≤ v.1 := hx.1
    have fl1 : D * (v.1 * k / D) ≤ k * v.1 := by rw [Int.mul_comm D, Int.mul_comm k]; exact Int.ediv_mul_le _ (by omega)
    have fl2 : k * v.1 < D * (v.1 * k / D + 1) := by
      have := Int.lt_ediv_add_one_mul_self (v.1 * k) hD
      rw [Int.mul_comm D, Int.mul_comm k]
      exact this
    unfold lst
    generalize v.1 * k / D = f at *
    have stand : ∀ c' : Int, (hi < c' ∨ f < c') → Stand D k hi v r c' ∨ r = [] := by
      intro c' h
      cases r with
      | nil => exact .inr rfl
      | cons w r =>
        left
        rcases h with h | h
        · exact .inl h
        · refine .inr (.inl ?_)
          have : D * (f + 1) ≤ D * c' := Int.mul_le_mul_of_nonneg_left (by omega) (by omega)
          omega
    have tail : ∀ c' : Int, (hi < c' ∨ f < c') → ∀ s ∈ lst D k ls hi (v :: r) c', 0 < s.low ∧ s.low ≤ 2 * M * D ∧ s.w ≤ hi + 1 - c' ∧ 0 ≤ s.w := by
      intro c' h
      rcases stand c' h with q | q
      · exact lst_good hD hk r v c' hx.2 q fun p hp => hM p (List.mem_cons_of_mem _ hp)
      · subst q
        exact fun s hs => absurd hs (by simp [lst])
    split
    · rename_i hle
      have le1 : min hi f ≤ hi := Int.min_le_left _ _
      have le2 : min hi f ≤ f := Int.min_le_right _ _
      intro s hs'
      rcases List.mem_cons.1 hs' with e | hs'
      · subst e
        have hDc : D * c ≤ k * v.1 := by
          have : D * c ≤ D * f := Int.mul_le_mul_of_nonneg_left (by omega) (by omega)
          omega
        have start : a.1 < v.1 := by
          rcases hs with h | h | h
          · omega
          · refine Int.lt_of_mul_lt_mul_left (a := k) ?_ hk
            omega
          · exact h.2
        have ba := hM a (by simp)
        have bv := hM v (by simp)
        refine ⟨Int.mul_pos (by omega) hD, ?_, ?_, ?_⟩
        · exact Int.mul_le_mul_of_nonneg_right (show v.1 - a.1 ≤ 2 * M by omega) (by omega)
        · show min hi f - c + 1 ≤ hi + 1 - c
          omega
        · show 0 ≤ min hi f - c + 1
          omega
      · have := tail (min hi f + 1) (by omega) s hs'
        exact ⟨this.1, this.2.1, by omega, this.2.2.2⟩
    · rename_i hle
      exact tail c (by omega)
/-- both ways' stretches -/
theorem str_good {p : Polygon} (hp : Fine p) {k : Nat} {st : Bool} (hk : st = true → 0 < k) {M : Int} (hM : ∀ c ∈ p.cs, -M ≤ c.1 ∧ c.1 ≤ M) :
    ∀ s ∈ lst p.D k (lsOf st) (colZ p.D k (lsOf st) (sumMax p.cs)) (chain p.cs) (colA p.D k (lsOf st) (sumMin p.cs)) ++
      lst p.D k (lsOf st) (colZ p.D k (lsOf st) (sumMax p.cs)) (chain (p.cs.map nY)) (colA p.D k (lsOf st) (sumMin p.cs)), 0 < s.low ∧ s.low ≤ 2 * M * p.D ∧ s.w ≤ wide p k st ∧ 0 ≤ s.w := by
  obtain ⟨a, L, z, U, m⟩ := hp.mono
  have hD : (0 : Int) < p.D := by have := hp.D0; omega
  have bd := m.bounds
  have ma : a ∈ p.cs := by rw [m.eq]; simp
  have mz : z ∈ p.cs := by rw [m.eq]; simp
  have eA := min_is ma fun c hc => (bd c hc).1
  have haz := m.lt
  obtain ⟨a1, v1, r1, W1⟩ := chain_way ma mz haz
  obtain ⟨a2, v2, r2, W2⟩ := chain_way (cs := p.cs.map nY) (List.mem_map_of_mem ma) (List.mem_map_of_mem mz) haz
  have ls0 : 0 ≤ lsOf st := by unfold lsOf; split <;> omega
  have k0 : (0 : Int) ≤ k := by omega
  have A1 := (colA_le (x := colA p.D k (lsOf st) a.1) (k := k) (ls := lsOf st) (A := a.1) hD).1 (Int.le_refl _)
  have ea1 : a1.1 = a.1 := Int.le_antisymm (W1.first a ma) (bd a1 (W1.mem a1 (by simp))).1
  have m2 : ∀ q ∈ p.cs.map nY, a.1 ≤ q.1 ∧ (-M ≤ q.1 ∧ q.1 ≤ M) := by
    intro q hq
    obtain ⟨c, hc, rfl⟩ := List.mem_map.1 hq
    exact ⟨(bd c hc).1, hM c hc⟩
  have ea2 : a2.1 = a.1 := Int.le_antisymm (W2.first (nY a) (List.mem_map_of_mem ma)) (m2 a2 (W2.mem a2 (by simp))).1
  unfold wide
  rw [eA, W1.eq, W2.eq]
  intro s hs
  rcases List.mem_append.1 hs with hs | hs
  · exact lst_good hD k0 (v1 :: r1) a1 _ W1.xm (.inr (.inr ⟨by rw [ea1]; omega, W1.up⟩)) (fun q hq => hM q (W1.mem q hq)) s hs
  · exact lst_good hD k0 (v2 :: r2) a2 _ W2.xm (.inr (.inr ⟨by rw [ea2]; omega, W2.up⟩)) (fun q hq => (m2 q (W2.mem q hq)).2) s hs
/-! ### the polygon told by the steps -/
theorem conv_bend {cs : List Pt} (h : Conv cs) {u v : Pt} (huv : u.1 < v.1) : ∃ q ∈ cs, tr u v q ≠ 0 := by
  refine Classical.byContradiction fun hn => ?_
  have z : ∀ q ∈ cs, tr u v q = 0 := fun q hq => Classical.byContradiction fun e => hn ⟨q, hq, e⟩
  have hlen := h.len
  have t := tri_pos h (i := 0) (j := 1) (k := 2) (by omega) (by omega) (by omega)
  have za := z _ (cr_mem (c := cs) (by omega) 0)
  have zb := z _ (cr_mem (c := cs) (by omega) 1)
  have zc := z _ (cr_mem (c := cs) (by omega) 2)
  generalize cr cs 0 = a at *
  generalize cr cs 1 = b at *
  generalize cr cs 2 = c at *
  unfold tr at za zb zc t
  have k1 : (v.1 - u.1) * ((b.1 - a.1) * (c.2 - a.2) - (b.2 - a.2) * (c.1 - a.1)) = 0 := by grind
  rcases Int.mul_eq_zero.1 k1 with q | q <;> omega
theorem told_conv {s : Steps} (hs : s.det ≠ 0) {g : Polygon} (hD : 0 < g.D) (hc : Conv g.cs) : Conv (Sq71.told s g).cs := by
  have ha : 0 < s.det.natAbs := by omega
  have e := told_eq hs hD g.cs
  rw [show (⟨g.D, g.cs⟩ : Polygon) = g from rfl] at e
  rw [e]
  exact red_conv (Nat.mul_pos hD ha) (corners_conv (told_area hs hc))
theorem told_fine {s : Steps} (hs : s.det ≠ 0) {g : Polygon} (hD : 0 < g.D) (hc : Conv g.cs) : Fine (Sq71.told s g) := by
  have t := told_mono hs hD hc
  exact ⟨t.1, t.2, fun u v _ _ huv => conv_bend (told_conv hs hD hc) huv⟩
/-- of each corner told: what it comes from -/
theorem told_from {s : Steps} (hs : s.det ≠ 0) {g : Polygon} (hD : 0 < g.D) : ∃ k : Nat, 0 < k ∧ (Sq71.told s g).D * k = g.D * s.det.natAbs ∧
    (∀ c ∈ (Sq71.told s g).cs, ∃ d ∈ g.cs, big k c = stp s d) ∧ (Sq71.told s g).cs.length ≤ g.cs.length := by
  have ha : 0 < s.det.natAbs := by omega
  have hDs := Nat.mul_pos hD ha
  have e := told_eq hs hD g.cs
  rw [show (⟨g.D, g.cs⟩ : Polygon) = g from rfl] at e
  rw [e]
  obtain ⟨e1, e2, _⟩ := red_big_back hDs (Sq68.corners (g.cs.map (stp s)))
  refine ⟨Nat.gcd (g.D * s.det.natAbs) (gAll (Sq68.corners (g.cs.map (stp s)))), gcd_pos_left hDs, e2, fun c hc => ?_, ?_⟩
  · have hm := List.mem_map_of_mem (f := big (Nat.gcd (g.D * s.det.natAbs) (gAll (Sq68.corners (g.cs.map (stp s)))) : Nat)) hc
    rw [e1] at hm
    obtain ⟨d, hd, ed⟩ := List.mem_map.1 (corners_sub _ _ hm)
    exact ⟨d, hd, ed.symm⟩
  · rw [red_length]
    have := corners_len (g.cs.map (stp s))
    rwa [List.length_map] at this
theorem abs_mul_le {a b : Int} {m n : Nat} (ha : a.natAbs ≤ m) (hb : b.natAbs ≤ n) : (a * b).natAbs ≤ m * n := by
  rw [Int.natAbs_mul]
  exact Nat.mul_le_mul ha hb
theorem sg_mul (s : Steps) (x : Int) : (sg s * x).natAbs = x.natAbs := by
  unfold sg
  split
  · rw [Int.one_mul]
  · rw [Int.neg_mul, Int.one_mul, Int.natAbs_neg]
theorem big_bd {k : Nat} (hk : 0 < k) {c : Int} {M : Nat} (h : (c * (k : Int)).natAbs ≤ M) : c.natAbs ≤ M := by
  rw [Int.natAbs_mul, Int.natAbs_natCast] at h
  exact Nat.le_trans (Nat.le_mul_of_pos_right _ hk) h
/-- steps' numbers are at most 6 -/
def Six (s : Steps) : Prop := s.u.1.natAbs ≤ 6 ∧ s.u.2.natAbs ≤ 6 ∧ s.v.1.natAbs ≤ 6 ∧ s.v.2.natAbs ≤ 6
theorem stp_bd {s : Steps} (h6 : Six s) {c : Pt} {M : Nat} (h : c.1.natAbs ≤ M ∧ c.2.natAbs ≤ M) : (stp s c).1.natAbs ≤ 12 * M ∧ (stp s c).2.natAbs ≤ 12 * M := by
  have a1 := abs_mul_le h.1 h6.2.2.2
  have a2 := abs_mul_le h.2 h6.2.2.1
  have a3 := abs_mul_le h.2 h6.1
  have a4 := abs_mul_le h.1 h6.2.1
  unfold stp
  simp only [sg_mul]
  constructor <;> omega
theorem told_bd {s : Steps} (hs : s.det ≠ 0) (h6 : Six s) {g : Polygon} {t : Nat} (hg : GoodP g t) :
    (Sq71.told s g).D ≤ 72000 ∧ (∀ c ∈ (Sq71.told s g).cs, c.1.natAbs ≤ 1200000 ∧ c.2.natAbs ≤ 1200000) ∧ (Sq71.told s g).cs.length ≤ 8 + t := by
  obtain ⟨k, hk, e, hc, hl⟩ := told_from hs hg.D0
  have hdet : s.det.natAbs ≤ 72 := by
    have a1 := abs_mul_le h6.1 h6.2.2.2
    have a2 := abs_mul_le h6.2.1 h6.2.2.1
    show (s.u.1 * s.v.2 - s.u.2 * s.v.1).natAbs ≤ 72
    omega
  refine ⟨?_, fun c hcc => ?_, Nat.le_trans hl hg.len⟩
  · have h1 : (Sq71.told s g).D ≤ (Sq71.told s g).D * k := Nat.le_mul_of_pos_right _ hk
    have h2 : g.D * s.det.natAbs ≤ 1000 * 72 := Nat.mul_le_mul hg.D1 hdet
    omega
  · obtain ⟨d, hd, ed⟩ := hc c hcc
    have hD1 := hg.D1
    have b := hg.bd d hd
    have b' : d.1.natAbs ≤ 100000 ∧ d.2.natAbs ≤ 100000 := by omega
    have q := stp_bd h6 b'
    rw [← ed] at q
    unfold big at q
    exact ⟨Nat.le_trans (big_bd hk q.1) (by omega), Nat.le_trans (big_bd hk q.2) (by omega)⟩
/-- told it's at most 288 wide -/
theorem told_wide {s : Steps} (hs : s.det ≠ 0) (h6 : Six s) {g : Polygon} {t : Nat} (hg : GoodP g t) : ∀ c ∈ (Sq71.told s g).cs, ∀ d ∈ (Sq71.told s g).cs, c.1 - d.1 ≤ 288 * (Sq71.told s g).D := by
  obtain ⟨k, hk, e, hc, hl⟩ := told_from hs hg.D0
  obtain ⟨mx, my, hbx⟩ := hg.bx
  intro c hcc d hdd
  obtain ⟨c', hc', ec⟩ := hc c hcc
  obtain ⟨d', hd', ed⟩ := hc d hdd
  have b1 := hbx c' hc'
  have b2 := hbx d' hd'
  have q := stp_bd h6 (c := (c'.1 - d'.1, c'.2 - d'.2)) (M := 24 * g.D) (by
    constructor
    · show (c'.1 - d'.1).natAbs ≤ _
      omega
    · show (c'.2 - d'.2).natAbs ≤ _
      omega)
  have lin : (stp s (c'.1 - d'.1, c'.2 - d'.2)).1 = (stp s c').1 - (stp s d').1 := by unfold stp; grind
  have q1 := q.1
  rw [lin, ← ec, ← ed] at q1
  have e3 : (big (k : Nat) c).1 - (big (k : Nat) d).1 = (c.1 - d.1) * k := by unfold big; grind
  rw [e3] at q1
  have hdet : 1 ≤ s.det.natAbs := by omega
  have h4 : g.D * 1 ≤ g.D * s.det.natAbs := Nat.mul_le_mul_left _ hdet
  have h5 : ((c.1 - d.1) * (k : Int)).natAbs ≤ 288 * ((Sq71.told s g).D * k) := by rw [e]; omega
  rw [Int.natAbs_mul, Int.natAbs_natCast, ← Nat.mul_assoc] at h5
  have := Nat.le_of_mul_le_mul_right h5 hk
  omega
theorem fine_wide {p : Polygon} (hp : Fine p) {M : Nat} (h : ∀ c ∈ p.cs, ∀ d ∈ p.cs, c.1 - d.1 ≤ (M : Int) * p.D) : wide p 1 false ≤ M + 1 := by
  obtain ⟨a, L, z, U, m⟩ := hp.mono
  have hD : (0 : Int) < p.D := by have := hp.D0; omega
  have bd := m.bounds
  have ma : a ∈ p.cs := by rw [m.eq]; simp
  have mz : z ∈ p.cs := by rw [m.eq]; simp
  have eA := min_is ma fun c hc => (bd c hc).1
  have eZ := max_is mz fun c hc => (bd c hc).2
  have hw := h z mz a ma
  unfold wide
  rw [eA, eZ]
  have A1 := (colA_le (x := colA p.D 1 (lsOf false) a.1) (k := 1) (ls := lsOf false) (A := a.1) hD).1 (Int.le_refl _)
  have Z1 := (le_colZ (x := colZ p.D 1 (lsOf false) z.1) (k := 1) (ls := lsOf false) (Z := z.1) hD).1 (Int.le_refl _)
  have q : lsOf false = 0 := rfl
  rw [q] at A1 Z1 ⊢
  generalize colA p.D 1 0 a.1 = x at *
  generalize colZ p.D 1 0 z.1 = y at *
  have : (p.D : Int) * (y - x) ≤ p.D * M := by
    rw [Int.mul_sub, Int.mul_comm (p.D : Int) (M : Int)]
    omega
  have := Int.le_of_mul_le_mul_left this hD
  omega
/-! ### the ends of the columns -/
def endsN (c : Int) (B A : List Int) (n : Nat) : List Pt := (List.range n).flatMap fun (i : Nat) => if -(B.getD i 0) ≤ A.getD i 0 then [((c + i, -(B.getD i 0)) : Pt), (c + i, A.getD i 0)] else []
theorem endsN_more (c : Int) (B A : List Int) (n : Nat) {b a : Int} (hb : B[n]? = some b) (ha : A[n]? = some a) : endsN c B A (n + 1) = endsN c B A n ++ (if -b ≤ a then [((c + n, -b) : Pt), (c + n, a)] else []) := by
  unfold endsN
  rw [List.range_succ, List.flatMap_append, List.flatMap_singleton]
  simp only [List.getD_eq_getElem?_getD, hb, ha, Option.getD_some]
theorem endsN_len (c : Int) (B A : List Int) : ∀ n : Nat, (endsN c B A n).length ≤ 2 * n
  | 0 => by simp [endsN]
  | n + 1 => by
    have ih := endsN_len c B A n
    unfold endsN at ih ⊢
    rw [List.range_succ, List.flatMap_append, List.length_append, List.flatMap_singleton]
    have : (if -(B.getD n 0) ≤ A.getD n 0 then [((c + n, -(B.getD n 0)) : Pt), (c + n, A.getD n 0)] else []).length ≤ 2 := by
      split
      · exact Nat.le_refl 2
      · exact Nat.zero_le 2
    omega
theorem ends_eq {p : Polygon} (hp : Fine p) : ((Sq71.xs p 1).flatMap fun x => match Sq71.column p 1 false x with
    | none => []
    | some y => [((x, y.1) : Pt), (x, y.2)]) = endsN (colA p.D 1 0 (sumMin p.cs)) (RB p 1 false) (RA p 1 false) (wide p 1 false).toNat := by
  obtain ⟨l1, l2, all⟩ := reach_ok hp (k := 1) (st := false) (by simp)
  obtain ⟨a, L, z, U, m⟩ := hp.mono
  have hx : Sq71.xs p 1 = (List.range (wide p 1 false).toNat).map fun (i : Nat) => colA p.D 1 0 (sumMin p.cs) + i := by
    have e1 : Sq71.up (sumMin p.cs * ((1 : Nat) : Int)) p.D = colA p.D 1 0 (sumMin p.cs) := by
      unfold Sq71.up colA
      rw [Int.neg_mul]
      simp
    have e2 : sumMax p.cs * ((1 : Nat) : Int) / (p.D : Int) = colZ p.D 1 0 (sumMax p.cs) := by
      unfold colZ
      simp
    show (List.range (sumMax p.cs * ((1 : Nat) : Int) / (p.D : Int) - Sq71.up (sumMin p.cs * ((1 : Nat) : Int)) p.D + 1).toNat).map (fun (i : Nat) => Sq71.up (sumMin p.cs * ((1 : Nat) : Int)) p.D + (i : Int)) = _
    rw [e1, e2]
    unfold wide
    rw [show lsOf false = 0 from rfl, show colZ p.D 1 0 (sumMax p.cs) - colA p.D 1 0 (sumMin p.cs) + 1 = colZ p.D 1 0 (sumMax p.cs) + 1 - colA p.D 1 0 (sumMin p.cs) by omega]
  rw [hx, List.flatMap_map]
  unfold endsN
  have fm : ∀ (l : List Nat) (f g : Nat → List Pt), (∀ x ∈ l, f x = g x) → l.flatMap f = l.flatMap g := by
    intro l f g h
    induction l with
    | nil => rfl
    | cons x l ih => rw [List.flatMap_cons, List.flatMap_cons, h x (by simp), ih fun y hy => h y (List.mem_cons_of_mem _ hy)]
  refine fm _ _ _ fun i hi => ?_
  obtain ⟨rb, ra, e1, e2, _, sem⟩ := all i (List.mem_range.1 hi)
  have ci := col_is (p := p) (k := 1) (st := false) hp.D0 m.both sem
  have e1' : (RB p 1 false)[i]? = some rb := e1
  have e2' : (RA p 1 false)[i]? = some ra := e2
  have ci' : Sq71.column p 1 false (colA p.D 1 0 (sumMin p.cs) + i) = if -rb ≤ ra then some (-rb, ra) else none := ci
  rw [ci']
  simp only [List.getD_eq_getElem?_getD, e1', e2', Option.getD_some]
  split
  · rename_i h
    split at h
    · cases h
    · rename_i hn
      rw [if_neg hn]
  · rename_i y h
    split at h
    · rename_i hc
      rw [if_pos hc]
      cases h
      rfl
    · cases h
end Pg
end

section
namespace Pg
open Sq71 (Polygon Steps)
theorem near_bd {D : Nat} (hD : 0 < D) {y u c : Int} {M N : Nat} (hu : u.natAbs ≤ M) (hc : c.natAbs ≤ M) (lo : -((N : Int)) ≤ (D : Int) * y - u) (hi : (D : Int) * y - c ≤ (N : Int)) : y.natAbs ≤ M + N := by
  rcases Int.le_total 0 y with t | t
  · have : 1 * y ≤ (D : Int) * y := Int.mul_le_mul_of_nonneg_right (by omega) t
    generalize (D : Int) * y = W at *
    omega
  · have := Int.mul_le_mul_of_nonneg_right (show (1 : Int) ≤ (D : Int) by omega) (show 0 ≤ -y by omega)
    rw [Int.mul_neg, Int.mul_neg] at this
    generalize (D : Int) * y = W at *
    omega
/-- a point of the polygon isn't far off -/
theorem pt_bd {p : Polygon} (hp : Fine p) {M X Dm : Nat} (hM : ∀ c ∈ p.cs, c.1.natAbs ≤ M ∧ c.2.natAbs ≤ M) (hD : p.D ≤ Dm) {x y : Int} (hx : x.natAbs ≤ X) (h : ∀ e ∈ Sq68.edges p.cs, inE false p.D ((1 : Nat) : Int) x y e) :
    y.natAbs ≤ M + 2 * M * (Dm * X + M) := by
  obtain ⟨a, L, z, U, m⟩ := hp.mono
  have D0 := hp.D0
  obtain ⟨⟨⟨u, v⟩, he, hw⟩, ⟨⟨c, d⟩, he', hw'⟩⟩ := m.both
  simp only at hw hw'
  have s1 := inE_iff.1 (h _ he)
  have s2 := inE_iff.1 (h _ he')
  have mu := hM u (edges_mem he).1
  have mv := hM v (edges_mem he).2
  have mc := hM c (edges_mem he').1
  have md := hM d (edges_mem he').2
  rw [show lsOf false = 0 from rfl] at s1 s2
  unfold sd at s1 s2
  simp only at s1 s2
  have k1 : (((1 : Nat) : Int)) = 1 := rfl
  rw [k1, Int.one_mul, Int.one_mul] at s1 s2
  have dx : ((p.D : Int) * x).natAbs ≤ Dm * X := by
    rw [Int.natAbs_mul, Int.natAbs_natCast]
    exact Nat.mul_le_mul hD hx
  have b1 := abs_mul_le (show (v.2 - u.2).natAbs ≤ 2 * M by omega) (show ((p.D : Int) * x - u.1).natAbs ≤ Dm * X + M by omega)
  have b2 := abs_mul_le (show (d.2 - c.2).natAbs ≤ 2 * M by omega) (show ((p.D : Int) * x - c.1).natAbs ≤ Dm * X + M by omega)
  generalize (v.2 - u.2) * ((p.D : Int) * x - u.1) = A at *
  generalize (d.2 - c.2) * ((p.D : Int) * x - c.1) = B at *
  generalize 2 * M * (Dm * X + M) = N at *
  have lo : -((N : Int)) ≤ (p.D : Int) * y - u.2 := by
    rcases Int.le_total 0 ((p.D : Int) * y - u.2) with t | t
    · omega
    · have : (v.1 - u.1) * ((p.D : Int) * y - u.2) ≤ 1 * ((p.D : Int) * y - u.2) := by
        have := Int.mul_le_mul_of_nonneg_right (show (1 : Int) ≤ v.1 - u.1 by omega) (show 0 ≤ -((p.D : Int) * y - u.2) by omega)
        rw [Int.mul_neg, Int.mul_neg] at this
        omega
      omega
  have hi : (p.D : Int) * y - c.2 ≤ (N : Int) := by
    rcases Int.le_total 0 ((p.D : Int) * y - c.2) with t | t
    · have : 1 * ((p.D : Int) * y - c.2) ≤ (c.1 - d.1) * ((p.D : Int) * y - c.2) := Int.mul_le_mul_of_nonneg_right (show (1 : Int) ≤ c.1 - d.1 by omega) t
      have e : (d.1 - c.1) * ((p.D : Int) * y - c.2) = -((c.1 - d.1) * ((p.D : Int) * y - c.2)) := by grind
      omega
    · omega
  exact near_bd D0 mu.2 mc.2 lo hi
theorem ends_bd {p : Polygon} (hp : Fine p) {M X Dm : Nat} (hM : ∀ c ∈ p.cs, c.1.natAbs ≤ M ∧ c.2.natAbs ≤ M) (hD : p.D ≤ Dm) (hX : ∀ i : Nat, i < (wide p 1 false).toNat → (colA p.D 1 0 (sumMin p.cs) + (i : Int)).natAbs ≤ X) :
    ∀ q ∈ endsN (colA p.D 1 0 (sumMin p.cs)) (RB p 1 false) (RA p 1 false) (wide p 1 false).toNat, q.1.natAbs ≤ X ∧ q.2.natAbs ≤ M + 2 * M * (Dm * X + M) := by
  obtain ⟨l1, l2, all⟩ := reach_ok hp (k := 1) (st := false) (by simp)
  intro q hq
  unfold endsN at hq
  obtain ⟨i, hi, hq⟩ := List.mem_flatMap.1 hq
  have hi := List.mem_range.1 hi
  obtain ⟨rb, ra, e1, e2, _, sem⟩ := all i hi
  have e1' : (RB p 1 false)[i]? = some rb := e1
  have e2' : (RA p 1 false)[i]? = some ra := e2
  have xi := hX i hi
  simp only [List.getD_eq_getElem?_getD, e1', e2', Option.getD_some] at hq
  split at hq
  · rename_i hc
    have f1 := pt_bd hp hM hD (x := colA p.D 1 0 (sumMin p.cs) + i) (y := -rb) xi ((sem (-rb)).1 ⟨Int.le_refl _, hc⟩)
    have f2 := pt_bd hp hM hD (x := colA p.D 1 0 (sumMin p.cs) + i) (y := ra) xi ((sem ra).1 ⟨hc, Int.le_refl _⟩)
    rcases List.mem_cons.1 hq with h | h
    · rw [h]; exact ⟨xi, f1⟩
    · have h : q = (colA p.D 1 0 (sumMin p.cs) + (i : Int), ra) := by simpa using h
      rw [h]; exact ⟨xi, f2⟩
  · cases hq
/-- the hull by the columns' ends -/
theorem hull_eq {s : Steps} {g : Polygon} (hp : Fine (Sq71.told s g)) : Sq71.hull s g = Sq68.corners ((endsN (colA (Sq71.told s g).D 1 0 (sumMin (Sq71.told s g).cs)) (RB (Sq71.told s g) 1 false) (RA (Sq71.told s g) 1 false) (wide (Sq71.told s g) 1 false).toNat).map
    fun c => ((c.1 * s.u.1 + c.2 * s.v.1, c.1 * s.u.2 + c.2 * s.v.2) : Pt)) := by
  unfold Sq71.hull
  simp only
  rw [← ends_eq hp]
  rfl
end Pg
end

section
namespace Pw
open PySem PySem.Spec PyProof.Rows L2
open PySem.W (EachIs)

/-- a list that is an arrangement of images is the images of an arrangement -/
theorem perm_back {α β : Type} (f : α → β) {m : List β} {vs : List β} (h : vs.Perm m) : ∀ L : List α, m = L.map f → ∃ L1 : List α, L1.Perm L ∧ vs = L1.map f := by
  induction h with
  | nil =>
    intro L e
    cases L with
    | nil => exact ⟨[], .nil, rfl⟩
    | cons a L => cases e
  | cons x p ih =>
    intro L e
    cases L with
    | nil => cases e
    | cons a L =>
      obtain ⟨L1, q, e1⟩ := ih L (List.cons.inj e).2
      exact ⟨a :: L1, q.cons a, by rw [List.map_cons, e1, (List.cons.inj e).1]⟩
  | swap x y l =>
    intro L e
    match L, e with
    | a :: b :: L, e =>
      have e1 := List.cons.inj e
      have e2 := List.cons.inj e1.2
      exact ⟨b :: a :: L, .swap a b L, by rw [List.map_cons, List.map_cons, e1.1, e2.1, e2.2]⟩
  | trans p q ih1 ih2 =>
    intro L e
    obtain ⟨L1, q1, e1⟩ := ih2 L e
    obtain ⟨L2, q2, e2⟩ := ih1 L1 e1
    exact ⟨L2, q2.trans q1, e2⟩

def fst2 (q : Addr × List Int) : Int := q.2.getD 0 0
def snd2 (q : Addr × List Int) : Int := q.2.getD 1 0
def encP (q : Addr × List Int) : PyData := .tuple [.int (fst2 q), .int (snd2 q)]
/-- the order of pairs -/
def leP (p q : Addr × List Int) : Prop := fst2 p < fst2 q ∨ (fst2 p = fst2 q ∧ snd2 p ≤ snd2 q)

theorem le_same : PySem.W.dataLe false encP = fun p q => decide (fst2 p < fst2 q ∨ (fst2 p = fst2 q ∧ snd2 p ≤ snd2 q)) := PySem.W.dataLe_ii fst2 snd2

theorem each_refs : ∀ L : List (Addr × List Int), EachIs (fun v q => v = Value.ref q.1) (L.map fun q => Value.ref q.1) L
  | [] => .nil
  | _ :: L => .cons rfl (each_refs L)
theorem refs_each : ∀ {vs : List Value} {L : List (Addr × List Int)}, EachIs (fun v q => v = Value.ref q.1) vs L → vs = L.map fun q => Value.ref q.1
  | _, _, .nil => rfl
  | _, _, .cons e h => by rw [e, refs_each h]; rfl
theorem each_of {Rr : Value → (Addr × List Int) → Prop} : ∀ {L : List (Addr × List Int)}, (∀ q ∈ L, Rr (.ref q.1) q) → EachIs Rr (L.map fun q => Value.ref q.1) L
  | [], _ => .nil
  | q :: _, h => .cons (h q List.mem_cons_self) (each_of fun r hr => h r (List.mem_cons_of_mem _ hr))

section
variable {P : Program} {w : World} {A : Around} {E : Value → Shared → Prop} {s : Shared}

theorem reads_pair {h : Heap} {q : Addr × List Int} (x : TS.TupInts h (.ref q.1) q.2) (h2 : q.2.length = 2) : Reads h (.ref q.1) (encP q) [] := by
  obtain ⟨b, items, e, ⟨o, ho, hc, n, hd⟩, hi⟩ := x
  cases e
  obtain ⟨q1, ks⟩ := q
  match ks, h2, hi with
  | [x, y], _, hi =>
    have hv : ∀ vs : List Value, IntsAre vs [x, y] → ∃ t u, vs = [Value.int x t, Value.int y u] := by
      intro vs hi
      cases hi with
      | cons k0 t hr =>
        cases hr with
        | cons k1 u hr2 =>
          cases hr2
          exact ⟨_, _, rfl⟩
    obtain ⟨t, u, hv⟩ := hv _ hi
    refine .tuple (as := []) ho hc hd ?_
    rw [hv]
    exact .cons (as := []) (bs := []) (.int _ _) (.cons (as := []) (bs := []) (.int _ _) .nil)

/-- sorted of a set of pairs of whole numbers -/
theorem sorted_pairs {a : Addr} {L : List (Addr × List Int)} {es : Array (Int × Value)} {ep : Nat} {t : SetTable} {Q : Value → Shared → Prop}
    (R : SetTR P w s.heap a L es ep t) (hh : A.handled = none) (h2 : ∀ p ∈ L, p.2.length = 2) (hu : A.units + 16 < cLine)
    (hQ : ∀ (s' : Shared) (p : Addr) (out : Array Value) (c : Nat) (M : List (Addr × List Int)), (∀ b o, s.heap.get? b = some o → s'.heap.get? b = some o) →
      s'.gens = s.gens → s'.os = s.os → s.heap.objs.size ≤ p → s'.heap.get? p = some (seqObj "list" out c) → out.toList = M.map (fun q => Value.ref q.1) →
      M.Perm L → M.Pairwise leP → Q (.ref p) s') :
    wpAny (model P w) A (call (.builtin "sorted") [.ref a]) Q E s := by
  obtain ⟨ob, hob, hex, hdat⟩ := R.ob
  have few := R.few
  have size := R.size
  refine Calls.call_function_entry kind_sorted plain_sorted entry_sorted (args_sorted1 _) ?_
  unfold Builtin.«sorted»
  refine wpAny_bind (m := checkCount "sorted" 1 1 _) (wpAny_pure ?_)
  refine wpAny_bind (collect_set (A := A.in1) hh ⟨ob, hob, hex.1, hdat⟩ R.fits
    (by unfold scanBound; omega) R.tab.ris R.led fun s1 vs keep1 hz g1 o1 pm => ?_)
  have rows : es.toList.map (·.2) = L.map fun q => Value.ref q.1 := by
    rw [R.rows, rowsOf, List.map_map]
    rfl
  rw [rows] at pm
  obtain ⟨L1, pL, ev⟩ := perm_back (fun q : Addr × List Int => Value.ref q.1) pm L rfl
  have len1 : vs.length < 64 := by rw [ev, List.length_map, pL.length_eq]; exact few
  refine wpAny_bind (wpAny_newList ?_ (by rw [sizeLine_eq]; omega))
  have hnew : (s1.heap.push (seqObj "list" vs.toArray 0)).get? s1.heap.objs.size = some (seqObj "list" vs.toArray 0) := Heap.get?_push_size _ rfl
  have read : ∀ q ∈ L1, Reads (s1.heap.push (seqObj "list" vs.toArray 0)) (.ref q.1) (encP q) [] := fun q hq =>
    reads_pair (tupInts_of (P := P) (w := w) (isT_keep (R.tup q (pL.mem_iff.1 hq)) fun b u e => Heap.get?_push_of_some _ (keep1 b u e))) (h2 q (pL.mem_iff.1 hq))
  have same1 : EachIs (fun v q => v = Value.ref q.1) vs L1 := by rw [ev]; exact each_refs L1
  have same2 : EachIs (fun v q => ∃ as, Reads (s1.heap.push (seqObj "list" vs.toArray 0)) v (encP q) as ∧ s1.heap.objs.size ∉ as) vs L1 := by
    have := each_of (Rr := fun v q => ∃ as, Reads (s1.heap.push (seqObj "list" vs.toArray 0)) v (encP q) as ∧ s1.heap.objs.size ∉ as) (L := L1)
      fun q hq => ⟨[], read q hq, by simp⟩
    rw [ev] at this ⊢
    exact this
  refine wpAny_bind (wpAny_holding (PySem.W.list_sort_data (s := { s1 with heap := s1.heap.push (seqObj "list" vs.toArray 0) }) (bs := L1) (enc := encP)
    (R := fun v q => v = Value.ref q.1) hnew same1 same2 ?_ ?_ ?_ ?_ fun out ho hs => ?_))
  · intro d hd d' hd'
    obtain ⟨x, _, rfl⟩ := List.mem_map.1 hd
    obtain ⟨y, _, rfl⟩ := List.mem_map.1 hd'
    rfl
  · left
    intro d hd
    obtain ⟨x, _, rfl⟩ := List.mem_map.1 hd
    exact ⟨_, _, rfl⟩
  · rw [ev, List.length_map] at len1
    rw [sizeLine_eq]; omega
  · intro b _
    have d2 : (encP b).depth ≤ 4 := by
      show PyData.depth (.tuple [.int (fst2 b), .int (snd2 b)]) ≤ 4
      simp [PyData.depth, PyData.depthAll]
    have u1 : A.in1.units ≤ A.units + 4 := by simp
    omega
  · obtain ⟨c, hc⟩ := sortedHeap_at (vs := vs) (out := out.toArray) hnew
    have eout := refs_each hs
    have srt : (L1.mergeSort (PySem.W.dataLe false encP)).Pairwise leP := by
      have := List.pairwise_mergeSort (le := PySem.W.dataLe false encP) (by
        intro p q r
        rw [le_same]
        simp only [decide_eq_true_eq]
        omega) (by
        intro p q
        rw [le_same]
        simp only [Bool.or_eq_true, decide_eq_true_eq]
        omega) L1
      refine this.imp fun {p q} h => ?_
      rw [le_same] at h
      have h' : decide (fst2 p < fst2 q ∨ (fst2 p = fst2 q ∧ snd2 p ≤ snd2 q)) = true := h
      have h3 := of_decide_eq_true h'
      exact h3
    refine wpAny_pure ⟨_, rfl, hQ _ s1.heap.objs.size out.toArray c (L1.mergeSort (PySem.W.dataLe false encP)) (fun b u e => ?_) g1 o1 hz hc (by simpa using eout)
      ((List.mergeSort_perm L1 _).trans pL) srt⟩
    have k := keep1 b u e
    have lt := Heap.lt_size k
    show (sortedHeap (s1.heap.push (seqObj "list" vs.toArray 0)) s1.heap.objs.size vs out.toArray).get? b = some u
    rw [sortedHeap_old (Nat.ne_of_lt lt) (by rw [size_push']; exact Nat.lt_succ_of_lt lt)]
    exact Heap.get?_push_of_some _ k
end

/-- what sorted asks of a set of pairs, and hands on -/
def rSortP (K : PySem.W.Frag) (P : Program) (w : World) : List V → Hp → VK → Prop := fun vs H Q =>
  ∃ (a : Addr) (L : List (Addr × List Int)), vs = [V.ref a] ∧ H a = some (SetTO P w a L) ∧
    (∀ p ∈ L, SqT K H p.1 (p.2.map V.int) ∧ p.2.length = 2) ∧
    ∀ (M : List (Addr × List Int)) (p : Addr), M.Perm L → (M.map (·.2)).Nodup → M.length < 64 → M.Pairwise leP → H p = none →
      Q (.ref p) (upd H p (.lst (M.map fun q => V.ref q.1)))
section
variable {X : Cx}
theorem cr_sortP (hc : X.calm = true) (hu : X.A.units + 64 < cLine) : CallR X (.builtin "sorted") (rSortP X.K X.prog X.w) := by
  intro pins s σ H vs us Q I r h
  obtain ⟨a, L, rfl, hset, hel, q⟩ := h
  have whole : SetT0 X.prog X.w s.heap a L := (I.hok a _ hset).1
  obtain ⟨es, ep, t, R⟩ := whole.full fun p hp => I.isT (hel p hp).1
  rw [Vals.ref1 r]
  refine sorted_pairs R (I.ok.hd hc) (fun p hp => (hel p hp).2) (by omega) ?_
  intro s' p out c M keep g o hp hat hout pm srt
  have few : M.length < 64 := by rw [pm.length_eq]; exact R.few
  have size : (M.map fun q => V.ref q.1).length ≤ sizeLine := by
    rw [List.length_map, sizeLine_eq]
    omega
  have new : H p = none := I.hok.fresh hp
  have vals : Vals (M.map fun q => V.ref q.1) out.toList := by
    rw [hout]
    exact vals_of_refs M
  obtain ⟨hp', gn, dr, tk, os'⟩ := s'
  simp only at keep g o hat
  subst o
  refine ⟨.ref p, _, ?_, rfl, q M p pm ((pm.map (·.2)).nodup_iff.mpr R.nd) few srt new⟩
  exact I.call (ch := []) (Un.laid keep hp new) (I.hok.laid keep hp ⟨size, out.toList, c, vals, hat⟩) (by rw [g]; exact I.bare)
    (fun _ z => nomatch z)
end
end Pw
end

section
namespace Pw
open PySem PySem.Spec PyProof.Rows L2
section
variable {P : Program} {w : World} {A : Around} {E : Value → Shared → Prop}
abbrev emptySet (w : World) : Obj := { cls := .type "set", dict := none, data := .set #[] 0 (.fresh 0 0 (!w.params.followText "set-order")) }
/-- set(x): a new set, then its own __init__ with x -/
theorem set_call {s : Shared} {x : Value} {Q : Value → Shared → Prop}
    (ini : codeAny (model P w) A.in1 (.call (.builtin "set.__init__") ⟨[.ref s.heap.objs.size, x], []⟩) (wants (fun v s2 => v = .none ∧ Q (.ref s.heap.objs.size) s2) E) { s with heap := s.heap.push (emptySet w) }) :
    wpAny (model P w) A (call (.type "set") [x]) Q E s := by
  have ft := F.called_set
  obtain ⟨_, _, q1⟩ := ft.mro
  have q2 := ft.made
  have q3 := ft.sub
  have q4 := ft.notType
  have q5 := ft.canCreate
  have q6 := F.typeCall_set_1 x
  refine wpAny_call (codeAny_of_tree (wpAny_pure ⟨Code.quiet_builtin _ (by decide +kernel), codeAny_builtin F.entry_type_call ?_⟩))
  rw [Around.under_plain (weight_type_call_type "set" [x] []) rfl]
  repeat (any_goals (first | assumption | wp_step))
  have made := code_set_led1 (P := P) (w := w) (A := A.in1) (s := s) x (E := E) (Q₁ := fun v s1 => v = .ref s.heap.objs.size ∧ s1 = { s with heap := s.heap.push (emptySet w) }) ⟨rfl, rfl⟩
  refine codeAny_mono made fun r s1 z => ?_
  match r, z with
  | .error _, z => exact z
  | .ok (.ret v), ⟨e1, e2⟩ =>
    subst e1 e2
    have q7 : Shared.TypeIs { s with heap := s.heap.push (emptySet w) } (.ref s.heap.objs.size) "set" := ⟨_, Heap.get?_push_size _ rfl, rfl⟩
    have q8 := ft.init.lookup
    have q9 := ft.init.bind (.ref s.heap.objs.size)
    repeat (any_goals (first | assumption | wp_step))
    refine codeAny_mono ini fun r2 s2 z2 => ?_
    match r2, z2 with
    | .error _, z2 => exact z2
    | .ok (.ret _), ⟨e3, z3⟩ =>
      subst e3
      repeat (any_goals (first | assumption | wp_step))
end
end Pw
end

section
namespace Pw
open PySem PySem.Spec PyProof.Rows L2
section
variable {P : Program} {w : World} {A : Around} {E : Value → Shared → Prop} {s : Shared}
/-- set of a tuple of tuples of whole numbers -/
theorem set_of_tuple {l : Addr} {items : Array Value} (ks : List (Addr × List Int)) {Q : Value → Shared → Prop} (hh : A.handled = none) (hl : s.heap.IsTuple l items)
    (hit : items.toList = ks.map fun p => Value.ref p.1) (hk : ∀ p ∈ ks, IsT P w s.heap p.2 p.1) (few : ks.length < 64) (hu : A.units + 3 < cLine)
    (h : ∀ (h' : Heap) (tk : Nat) L es ep t, SetTR P w h' s.heap.objs.size L es ep t → Got ks ks.length L → (∀ b o, s.heap.get? b = some o → h'.get? b = some o) →
      Q (.ref s.heap.objs.size) { s with heap := h', toks := tk }) :
    wpAny (model P w) A (call (.type "set") [.ref l]) Q E s := by
  have size : items.size = ks.length := by
    rw [← Array.length_toList, hit, List.length_map]
  have new : (s.heap.push (emptySet w)).get? s.heap.objs.size = some (emptySet w) := Heap.get?_push_size _ rfl
  have ty : Shared.TypeIs { s with heap := s.heap.push (emptySet w) } (.ref s.heap.objs.size) "set" := ⟨_, new, rfl⟩
  refine set_call (codeAny_mono (codeAny_call_builtin (R := wants (fun v s2 => v = .none ∧ ∃ g tk L es ep t, s2 = { s with heap := g, toks := tk } ∧ SetTR P w g s.heap.objs.size L es ep t ∧ Got ks ks.length L ∧
    (∀ b o, s.heap.get? b = some o → g.get? b = some o)) E) F.called_set.init.plain F.entry_set_init (check_set_init_1 ty ?_)) fun r s2 z => ?_)
  · obtain ⟨⟨oc, od, dt, os⟩, at0, ec, m, ed⟩ := hl
    replace ec : oc = .type "tuple" := ec
    replace ed : dt = .seq items m := ed
    subst ec ed
    have below : l < s.heap.objs.size := Heap.lt_size at0
    have at1 : (s.heap.push (emptySet w)).get? l = some { cls := .type "tuple", dict := od, data := .seq items m, slots := os } := Heap.get?_push_of_some _ at0
    have y1 := F.sub_tuple_set
    have y2 := F.sub_tuple_frozenset
    have y3 : (Value.type "tuple" == .type "dict") = false := rfl
    unfold Builtin.«set.__init__» noKeywords Builtin.Frozenset.updateFrom
    generalize ePI : pyIter = PI
    wp_walk
    subst ePI
    refine wpAny_pyIter_tuple ⟨_, at1, rfl, m, rfl⟩ (wpAny_bind (wpAny_runValue ?_))
    have calm : A.in1.in1.in1.handled = none := by simp [hh]
    have sz1 : (s.heap.push (emptySet w)).objs.size = s.heap.objs.size + 1 := Heap.size_push ..
    have apart : l ≠ (s.heap.push (emptySet w)).objs.size := fun e => by rw [sz1] at e; exact absurd below (by rw [e]; exact Nat.not_lt.2 (Nat.le_succ _))
    have away : s.heap.objs.size ∉ [(s.heap.push (emptySet w)).objs.size, l] := fun e => by
      rw [sz1] at e
      rcases List.mem_cons.1 e with e | e
      · exact absurd e (Nat.ne_of_lt (Nat.lt_succ_self _))
      · exact absurd (List.mem_singleton.1 e) (Nat.ne_of_gt below)
    have item : ∀ (i : Nat) (v : Value), items[i]? = some v → ∃ p, ks[i]? = some p ∧ v = .ref p.1 := fun i v e => by
      rw [← Array.getElem?_toList, hit] at e
      obtain ⟨p, e1, e2⟩ := Option.map_eq_some_iff.1 ((List.getElem?_map ..).symm.trans e)
      exact ⟨p, e1, e2.symm⟩
    have void : ∀ b, s.heap.objs.size ≤ b → s.heap.get? b = none := fun b le => Option.eq_none_iff_forall_ne_some.2 fun o e => Nat.not_lt.2 le (Heap.lt_size e)
    have one : ∀ b ∈ [(s.heap.push (emptySet w)).objs.size], s.heap.get? b = none := fun b e => void b (by rw [List.mem_singleton.1 e, sz1]; exact Nat.le_add_right _ _)
    refine set_update_tups ((Walks.tuple calm _ l apart items).toS) s.heap.objs.size away ks size few item s.heap hk (void _ (Nat.le_refl _)) one hu (items.size - 0) 0 _ (by omega) (Nat.zero_le _)
      ⟨⟨_, Heap.get?_push_size _ rfl, rfl, rfl⟩, ⟨_, Heap.get?_push_of_some _ at1, rfl, m, rfl⟩⟩ (fun b o e => Heap.get?_push_of_some _ (Heap.get?_push_of_some _ e)) ⟨[], #[], 0, _, setTR_fresh (Heap.get?_push_of_some _ new), Got.zero ks⟩ ?_
    intro s2 L es ep t mv R got keep
    rw [Moved.eq_with mv]
    rw [size] at got
    exact wpAny_pure (wpAny_pure ⟨rfl, s2.heap, s2.toks, L, es, ep, t, rfl, R, got, keep⟩)
  · match r, z with
    | .error _, z => exact z
    | .ok (.ret _), ⟨e1, g, tk, L, es, ep, t, e2, R, got, keep⟩ =>
      subst e2
      exact ⟨e1, h g tk L es ep t R got keep⟩
end
def rSetOfU (K : PySem.W.Frag) (P : Program) (w : World) : List V → Hp → VK → Prop := fun xs H Q =>
  ∃ (l : Addr) (ks : List (Addr × List Int)), xs = [V.ref l] ∧ SqT K H l (ks.map fun p => V.ref p.1) ∧ (∀ p ∈ ks, SqT K H p.1 (p.2.map V.int)) ∧ ks.length < 64 ∧
    ∀ a L, H a = none → (∀ p ∈ L, p ∈ ks) → (∀ p ∈ ks, p.2 ∈ L.map (·.2)) → Q (.ref a) (upd H a (SetTO P w a L))
section
variable {X : Cx}
theorem cr_setOfU (hc : X.calm = true) (hu : X.A.units + 64 < cLine) : CallR X (.type "set") (rSetOfU X.K X.prog X.w) := by
  intro pins s σ H xs us Q I r h
  obtain ⟨l, ks, rfl, hl, hk, few, q⟩ := h
  rw [Vals.ref1 r]
  obtain ⟨its, rv, pl, hz⟩ := I.tuple hl
  refine set_of_tuple (P := X.prog) (w := X.w) ks (I.ok.hd hc) pl (by simpa using refs_of_vals rv) (fun p hp => I.isT (hk p hp)) few (by omega) ?_
  intro h' tk L es ep t R got keep
  refine ⟨.ref s.heap.objs.size, upd H s.heap.objs.size (SetTO X.prog X.w s.heap.objs.size L), I.laid (t' := tk) keep (Nat.le_refl _) (setTO_new R.t0), rfl, ?_⟩
  refine q _ L (I.hok.fresh (Nat.le_refl _)) (fun p hp => List.mem_of_mem_take (got.sub p hp)) fun p hp => ?_
  exact got.all p (by rw [List.take_length]; exact hp)
end
end Pw
end

section
namespace Pw
open PySem PySem.Spec PyProof.Rows L2

/-! ### tables of up to 2048 slots: each slot is met from each start -/
/-- a table's last slot, as far as they come here -/
def Wd (m : Nat) : Prop := m = 7 ∨ m = 31 ∨ m = 127 ∨ m = 511 ∨ m = 2047
theorem Wd.odd {m : Nat} (h : Wd m) : m % 2 = 1 := by
  unfold Wd at h
  omega
theorem Wd.top {m : Nat} (h : Wd m) : m ≤ 2047 := by
  unfold Wd at h
  omega
/-- none of the next n is 0 -/
def noBack (m : Nat) : Nat → Nat → Bool
  | 0, _ => true
  | n + 1, x => match (x * 5 + 1) % (m + 1) with
    | 0 => false
    | y + 1 => noBack m n (y + 1)
theorem noBack_wd {m : Nat} (h : Wd m) : noBack m m 0 = true := by
  rcases h with rfl | rfl | rfl | rfl | rfl <;> decide +kernel
theorem noBack_at (m : Nat) : ∀ (n a : Nat), noBack m n (lcgN m a) = true → ∀ b, a < b → b ≤ a + n → lcgN m b ≠ 0
  | 0, a, _, b, h1, h2 => by omega
  | n + 1, a, h, b, h1, h2 => by
    unfold noBack at h
    have nx : lcgN m (a + 1) = (lcgN m a * 5 + 1) % (m + 1) := rfl
    rw [← nx] at h
    cases e : lcgN m (a + 1) with
    | zero => rw [e] at h; cases h
    | succ y =>
      rw [e] at h
      have h' : noBack m n (y + 1) = true := h
      rw [← e] at h'
      rcases Nat.lt_or_ge (a + 1) b with c | c
      · exact noBack_at m n (a + 1) h' b c (by omega)
      · have : b = a + 1 := by omega
        rw [this, e]
        exact Nat.succ_ne_zero y
theorem lcgN_lt (m : Nat) : ∀ k, lcgN m k ≤ m
  | 0 => Nat.zero_le _
  | _ + 1 => Nat.le_of_lt_succ (Nat.mod_lt _ (Nat.succ_pos _))
theorem step_one {m x y : Nat} (hm : Wd m) (hx : x ≤ m) (hy : y ≤ m) (e : (x * 5 + 1) % (m + 1) = (y * 5 + 1) % (m + 1)) : x = y := by
  rcases hm with rfl | rfl | rfl | rfl | rfl <;> omega
theorem lcgN_one {m : Nat} (hm : Wd m) : ∀ a d, lcgN m a = lcgN m (a + d) → lcgN m d = 0
  | 0, d, e => by
    rw [Nat.zero_add] at e
    exact e.symm
  | a + 1, d, e => by
    rw [Nat.add_right_comm] at e
    exact lcgN_one hm a d (step_one hm (lcgN_lt m a) (lcgN_lt m (a + d)) e)
theorem lcgN_ne {m : Nat} (hm : Wd m) {d : Nat} (h0 : 0 < d) (h1 : d ≤ m) : lcgN m d ≠ 0 :=
  noBack_at m m 0 (noBack_wd hm) d h0 (by omega)
theorem lcgN_nodup {m : Nat} (hm : Wd m) : ((List.range (m + 1)).map (lcgN m)).Nodup := by
  refine List.pairwise_map.2 (List.Pairwise.imp_of_mem ?_ (List.pairwise_lt_range (n := m + 1)))
  intro a b ha hb hab e
  have hb' := List.mem_range.1 hb
  refine lcgN_ne hm (d := b - a) (by omega) (by omega) (lcgN_one hm a (b - a) ?_)
  rw [e]
  congr 1
  omega
theorem lcgN_hits {m j : Nat} (hm : Wd m) (hj : j ≤ m) : ∃ a, a ≤ m ∧ lcgN m a = j := by
  rcases Classical.em (j ∈ (List.range (m + 1)).map (lcgN m)) with c | c
  · obtain ⟨a, ha, e⟩ := List.mem_map.1 c
    exact ⟨a, Nat.le_of_lt_succ (List.mem_range.1 ha), e⟩
  · have l := nat_nodup_len _ ((List.range (m + 1)).erase j) (lcgN_nodup hm) fun x hx => by
      have ne : x ≠ j := fun e => c (e ▸ hx)
      obtain ⟨a, _, e⟩ := List.mem_map.1 hx
      exact (List.mem_erase_of_ne ne).2 (List.mem_range.2 (e ▸ Nat.lt_succ_of_le (lcgN_lt m a)))
    rw [List.length_map, List.length_range, List.length_erase_of_mem (List.mem_range.2 (Nat.lt_succ_of_le hj)), List.length_range] at l
    omega
theorem lcgN_whole {m : Nat} (hm : Wd m) : lcgN m (m + 1) = 0 := by
  obtain ⟨a, ha, e⟩ := lcgN_hits hm (lcgN_lt m (m + 1))
  cases a with
  | zero => exact e.symm
  | succ a =>
    have z := lcgN_one hm (a + 1) (m - a) (by rw [e]; congr 1; omega)
    rcases Nat.lt_or_ge 0 (m - a) with c | c
    · exact absurd z (lcgN_ne hm c (by omega))
    · omega
theorem lcgN_over {m : Nat} (hm : Wd m) : ∀ k, lcgN m (k + (m + 1)) = lcgN m k
  | 0 => by
    rw [Nat.zero_add]
    exact lcgN_whole hm
  | k + 1 => by
    rw [Nat.add_right_comm]
    show (lcgN m (k + (m + 1)) * 5 + 1) % (m + 1) = _
    rw [lcgN_over hm k]
    rfl
theorem lcgI_hits {m i j : Nat} (hm : Wd m) (hi : i ≤ m) (hj : j ≤ m) : ∃ k, k ≤ m ∧ lcgI m i k = j := by
  obtain ⟨a, la, rfl⟩ := lcgN_hits hm hi
  obtain ⟨b, lb, rfl⟩ := lcgN_hits hm hj
  refine ⟨if a ≤ b then b - a else b + (m + 1) - a, ?_, ?_⟩
  · split <;> omega
  · rw [lcgN_add]
    split
    · congr 1
      omega
    · rw [← lcgN_over hm b]
      congr 1
      omega
/-- each slot begins a run, early enough -/
theorem run_hits {m j : Nat} (hm : Wd m) (hj : j ≤ m) (h : Int) : ∃ n, n ≤ m + 12 ∧ runI m (SetTable.bits h) n = j := by
  obtain ⟨k, hk, e⟩ := lcgI_hits hm (runI_le m (SetTable.bits h) 12) hj
  refine ⟨12 + k, by omega, ?_⟩
  rw [runI_tail (bits_lt h), e]
theorem way_hits {m j : Nat} (hm : Wd m) (hj : j ≤ m) (h : Int) : ∃ n, n < 10 * SetTable.turns m ∧ way m h n = j := by
  obtain ⟨n, hn, rfl⟩ := run_hits hm hj h
  obtain ⟨k, hk, e⟩ := run_nth m (SetTable.bits h) n
  refine ⟨k, ?_, congrArg SetTable.Probe.j e⟩
  show k < 10 * (m + 15)
  omega
theorem way_in (m : Nat) (h : Int) (n : Nat) : way m h n ≤ m := by
  have lo : SetTable.bits h % (m + 1) ≤ m := Nat.le_of_lt_succ (Nat.mod_lt _ (Nat.succ_pos _))
  have re := runEnd_bd lo
  refine Nat.le_trans (Nat.le_add_right _ _) (nth_in n (runAt m (SetTable.bits h % (m + 1)) (SetTable.bits h)) ?_)
  simp only [runAt]
  omega

/-! ### a table's word -/
structure Tab (t : SetTable) (hs : List Int) : Prop where
  wide : Wd t.mask
  rise : Ris t.place.toList
  clean : t.dummies = #[]
  many : t.place.toList.length = hs.length
  inside : ∀ j ∈ t.place.toList, j ≤ t.mask
  found : ∀ (i j : Nat) (h : Int), t.place.toList[i]? = some j → hs[i]? = some h → ∃ n, way t.mask h n = j ∧ ∀ n', n' < n → way t.mask h n' ∈ t.place.toList
theorem Tab.gap {t : SetTable} {hs : List Int} (T : Tab t hs) (room : hs.length ≤ t.mask) (h : Int) :
    ∃ n, n < 10 * SetTable.turns t.mask ∧ way t.mask h n ∉ t.place.toList ∧ ∀ n', n' < n → way t.mask h n' ∈ t.place.toList := by
  obtain ⟨j, hj, free⟩ := st_missing t.place.toList (t.mask + 1) (by rw [T.many]; omega)
  obtain ⟨n, hn, e⟩ := way_hits T.wide (Nat.le_of_lt_succ hj) h
  obtain ⟨k, hk, no, less⟩ := st_least (p := fun n => way t.mask h n ∉ t.place.toList) n (by
    show way t.mask h n ∉ _
    rw [e]
    exact free)
  exact ⟨k, Nat.lt_of_le_of_lt hk hn, no, fun n' hn' => Classical.not_not.1 (less n' hn')⟩
theorem Tab.ahead {t : SetTable} {hs : List Int} (T : Tab t hs) {h : Int} {n i j : Nat} (free : way t.mask h n ∉ t.place.toList) (hj : t.place.toList[i]? = some j) (hi : hs[i]? = some h) :
    ∃ c, c < n ∧ way t.mask h c = j := by
  obtain ⟨c, e, full⟩ := T.found i j h hj hi
  refine ⟨c, ?_, e⟩
  rcases Nat.lt_trichotomy c n with z | z | z
  · exact z
  · subst z
    rw [e] at free
    exact absurd (List.mem_of_getElem? hj) free
  · exact absurd (full n z) free
theorem Tab.size {t : SetTable} {hs : List Int} (T : Tab t hs) : t.place.size = hs.length := by
  rw [← T.many, Array.length_toList]
theorem Tab.more {t : SetTable} {hs : List Int} (T : Tab t hs) {h : Int} {n : Nat} (free : way t.mask h n ∉ t.place.toList) (full : ∀ c, c < n → way t.mask h c ∈ t.place.toList) {j p : Nat}
    (hj : way t.mask h n = j) (hp : SetTable.below t.place j = p) : p ≤ hs.length ∧ Tab (t.put j).1 (hs.take p ++ h :: hs.drop p) ∧ (t.put j).1.fill = hs.length + 1 := by
  have jm : j ≤ t.mask := hj ▸ way_in t.mask h n
  rw [hj] at free
  have low : p ≤ t.place.size := hp ▸ (below_cut T.rise j).1
  have low1 : p ≤ t.place.toList.length := by rw [Array.length_toList]; exact low
  have low2 : p ≤ hs.length := by rw [← T.size]; exact low
  have pl : (t.put j).1.place.toList = t.place.toList.take p ++ j :: t.place.toList.drop p := by rw [put_place, hp]
  have dm : (t.put j).1.dummies = #[] := put_dm T.clean j
  have len : (t.put j).1.place.toList.length = hs.length + 1 := by rw [pl, len_ins _ low1, T.many]
  have stay : ∀ x ∈ t.place.toList, x ∈ (t.put j).1.place.toList := fun x hx => by
    rw [pl, mem_ins]
    exact .inr hx
  refine ⟨low2, ⟨T.wide, ris_insert T.rise ?_, dm, ?_, ?_, ?_⟩, ?_⟩
  · intro e
    refine free (List.mem_of_getElem? (i := SetTable.below t.place j) ?_)
    rw [Array.getElem?_toList]
    exact e
  · rw [len, len_ins _ low2]
  · intro x hx
    rw [pl, mem_ins] at hx
    rcases hx with rfl | hx
    · exact jm
    · exact T.inside x hx
  · intro i j' h' hj' hh'
    rw [pl, tins_get _ low1] at hj'
    rw [tins_get _ low2] at hh'
    by_cases c1 : i < p
    · rw [if_pos c1] at hj' hh'
      obtain ⟨k, e, z⟩ := T.found i j' h' hj' hh'
      exact ⟨k, e, fun x hx => stay _ (z x hx)⟩
    · rw [if_neg c1] at hj' hh'
      by_cases c2 : i = p
      · rw [if_pos c2] at hj' hh'
        cases hj'
        cases hh'
        exact ⟨n, hj, fun x hx => stay _ (full x hx)⟩
      · rw [if_neg c2] at hj' hh'
        obtain ⟨k, e, z⟩ := T.found (i - 1) j' h' hj' hh'
        exact ⟨k, e, fun x hx => stay _ (z x hx)⟩
  · show (t.put j).1.place.size + (t.put j).1.dummies.size = _
    rw [dm, ← Array.length_toList, len]
    rfl

/-! ### laid anew -/
theorem free_at {m j : Nat} (hm : Wd m) (hj : j ≤ m) (ow : Array (Option Nat)) (e0 : oAt ow j = none) (h : Int) :
    ∃ n, SetTable.layClean.free m ow (SetTable.turns m) (SetTable.bits h % (m + 1)) (SetTable.bits h) = some (way m h n) ∧ oAt ow (way m h n) = none ∧ ∀ c, c < n → oAt ow (way m h c) ≠ none := by
  obtain ⟨r, hr, e⟩ := run_hits hm hj h
  have meet : way m h (off m (SetTable.bits h % (m + 1)) (SetTable.bits h) r) = j := by
    unfold way
    rw [nth_off, itL_run]
    exact e
  obtain ⟨n, ln, yes, no⟩ := st_least (p := fun c => oAt ow (way m h c) = none) _ (meet.symm ▸ e0)
  refine ⟨n, free_spec m ow (SetTable.turns m) r _ _ n (by show r < m + 15; omega) ln (fun c hc => ?_) ?_, yes, no⟩
  · have := no c hc
    exact Option.isNone_eq_false_iff.2 (Option.isSome_iff_ne_none.2 this)
  · have y : oAt ow (way m h n) = none := yes
    show (oAt ow (way m h n)).isNone = true
    rw [y]
    rfl
theorem own_more {m : Nat} (hm : Wd m) {done : List Int} {ow : Array (Option Nat)} (W : L2.Own m done ow) (room : done.length ≤ m) (h : Int) :
    ∃ j, SetTable.layClean.free m ow (SetTable.turns m) (SetTable.bits h % (m + 1)) (SetTable.bits h) = some j ∧ L2.Own m (done ++ [h]) (ow.setIfInBounds j (some done.length)) := by
  obtain ⟨taken, ht, cover⟩ := W.ps
  obtain ⟨q, hq, nq⟩ := st_missing taken (m + 1) (by omega)
  have q0 : oAt ow q = none := Classical.byContradiction fun z => nq (cover q (Nat.le_of_lt_succ hq) z)
  obtain ⟨n, e, empty, full⟩ := free_at hm (Nat.le_of_lt_succ hq) ow q0 h
  have jm := way_in m h n
  revert e empty
  generalize hj : way m h n = j at jm
  intro e empty
  have js : j < ow.size := by rw [W.sz]; omega
  have here : oAt (ow.setIfInBounds j (some done.length)) j = some done.length := oAt_set_self _ js
  have there : ∀ i, i ≠ j → oAt (ow.setIfInBounds j (some done.length)) i = oAt ow i := fun i hi => oAt_set_ne _ hi
  have stay : ∀ i, oAt ow i ≠ none → oAt (ow.setIfInBounds j (some done.length)) i ≠ none := fun i hi => by
    by_cases c : i = j
    · rw [c, here]; exact Option.some_ne_none _
    · rw [there i c]; exact hi
  refine ⟨j, e, ⟨?_, ?_, ?_, j :: taken, ?_, ?_⟩⟩
  · rw [Array.size_setIfInBounds, W.sz]
  · intro i k hi ek
    by_cases c : i = j
    · rw [c, here] at ek
      cases ek
      exact ⟨h, n, by simp, hj.trans c.symm, fun x hx => stay _ (full x hx)⟩
    · rw [there i c] at ek
      obtain ⟨h', n', a, b, d⟩ := W.at_ i k hi ek
      refine ⟨h', n', ?_, b, fun x hx => stay _ (d x hx)⟩
      have := (List.getElem?_eq_some_iff.1 a).1
      rw [List.getElem?_append_left this, a]
  · intro k hk
    rw [List.length_append] at hk
    by_cases c : k = done.length
    · exact ⟨j, jm, c ▸ here⟩
    · obtain ⟨i, hi, ei⟩ := W.all k (by simp only [List.length_singleton] at hk; omega)
      refine ⟨i, hi, ?_⟩
      have ne : i ≠ j := fun z => by
        rw [z, empty] at ei
        cases ei
      rw [there i ne]
      exact ei
  · rw [List.length_cons, List.length_append, ht]
    rfl
  · intro i hi z
    by_cases c : i = j
    · rw [c]; exact List.mem_cons_self
    · rw [there i c] at z
      exact List.mem_cons_of_mem _ (cover i hi z)
theorem own_fold {m : Nat} (hm : Wd m) : ∀ (todo done : List Int) (ow : Array (Option Nat)), L2.Own m done ow → done.length + todo.length ≤ m →
    ∃ ow', todo.foldl (stepF m) (some (ow, done.length)) = some (ow', (done ++ todo).length) ∧ L2.Own m (done ++ todo) ow'
  | [], done, ow, W, _ => by
    rw [List.append_nil]
    exact ⟨ow, rfl, W⟩
  | h :: todo, done, ow, W, room => by
    simp only [List.length_cons] at room
    obtain ⟨j, e, W1⟩ := own_more hm W (by omega) h
    have l1 : (done ++ [h]).length = done.length + 1 := by simp
    obtain ⟨ow', e2, W2⟩ := own_fold hm todo _ _ W1 (by omega)
    have ap : done ++ [h] ++ todo = done ++ h :: todo := by simp
    rw [ap] at e2 W2
    rw [l1] at e2
    refine ⟨ow', ?_, W2⟩
    rw [List.foldl_cons, stepF_some e, e2]
theorem lay_ok {m : Nat} (hm : Wd m) {hs : Array Int} (room : hs.size ≤ m) : ∃ ow, SetTable.layClean m hs = some ow ∧ L2.Own m hs.toList ow := by
  obtain ⟨ow, e, W⟩ := own_fold hm hs.toList [] _ (L2.Own.init m) (by simpa using room)
  refine ⟨ow, ?_, by simpa using W⟩
  rw [layClean_eq]
  have e' : hs.toList.foldl (stepF m) (some (Array.replicate (m + 1) none, 0)) = _ := e
  rw [e']
  rfl
theorem anew_ok (t : SetTable) {hs : Array Int} {want m : Nat} (hw : SetTable.sizeAbove want = m + 1) (hm : Wd m) (room : hs.size ≤ m) :
    ∃ t' ord, t.relaid hs want = some (t', ord) ∧ ord.toList.Perm (List.range hs.size) ∧ Tab t' (ord.toList.map fun i => hs.getD i 0) ∧ t'.mask = m ∧ t'.led = t.led ∧ t'.plain = t.plain := by
  have hw1 : SetTable.sizeAbove want - 1 = m := by omega
  obtain ⟨ow, e, W⟩ := lay_ok hm room
  have hl := ris_live (fun j => ow.getD j none) (List.range (m + 1)) List.pairwise_lt_range
  have rise : Ris ((liveOf m ow).map (·.1)) := hl.1
  have bound : ∀ x ∈ (liveOf m ow).map (·.1), x ∈ List.range (m + 1) := hl.2
  have num : (liveOf m ow).length = hs.size := by
    obtain ⟨taken, ht, cover⟩ := W.ps
    have up := nat_nodup_len _ taken (List.Pairwise.imp (fun z => Nat.ne_of_lt z) rise) fun x hx => by
      obtain ⟨⟨y, k⟩, hq, rfl⟩ := List.mem_map.1 hx
      have := (mem_live W.sz).1 hq
      exact cover _ this.1 (by rw [this.2]; exact Option.some_ne_none _)
    have down := nat_nodup_len _ ((liveOf m ow).map (·.2)) (List.nodup_range (n := hs.size)) fun k hk => by
      obtain ⟨j, l, ej⟩ := W.all k (by simpa using hk)
      exact List.mem_map.2 ⟨(j, k), (mem_live W.sz).2 ⟨l, ej⟩, rfl⟩
    have sz : hs.toList.length = hs.size := Array.length_toList
    rw [List.length_map, ht, sz] at up
    rw [List.length_map, List.length_range] at down
    exact Nat.le_antisymm up down
  refine ⟨tabOf t m ow, ((liveOf m ow).map (·.2)).toArray, ?_, ?_, ⟨hm, rise, rfl, ?_, ?_, ?_⟩, rfl, rfl, rfl⟩
  · rw [relaid_eq, hw1, e]
    rfl
  · refine perm_range hs.size _ (by simpa using num) fun k hk => ?_
    obtain ⟨j, l, ej⟩ := W.all k (by simpa using hk)
    exact List.mem_map.2 ⟨(j, k), (mem_live W.sz).2 ⟨l, ej⟩, rfl⟩
  · show ((liveOf m ow).map (·.1)).length = _
    simp
  · exact fun j hj => Nat.le_of_lt_succ (List.mem_range.1 (bound j hj))
  · intro i j h ej eh
    have ej1 : ((liveOf m ow).map (·.1))[i]? = some j := ej
    have eh1 : (((liveOf m ow).map (·.2)).map fun i => hs.getD i 0)[i]? = some h := eh
    rw [List.getElem?_map, Option.map_eq_some_iff] at ej1
    obtain ⟨⟨j1, k⟩, eq, rfl⟩ := ej1
    rw [List.getElem?_map, List.getElem?_map, eq] at eh1
    have eh2 : hs.getD k 0 = h := Option.some.inj eh1
    obtain ⟨l, own⟩ := (mem_live W.sz).1 (List.mem_of_getElem? eq)
    obtain ⟨h', n, at1, wy, full⟩ := W.at_ j1 k l own
    have same : h' = h := by
      rw [← eh2, Array.getD_eq_getD_getElem?, ← Array.getElem?_toList, at1]
      rfl
    subst same
    refine ⟨n, wy, fun c hc => ?_⟩
    obtain ⟨k2, e2⟩ := Option.ne_none_iff_exists'.1 (full c hc)
    exact List.mem_map.2 ⟨(_, k2), (mem_live W.sz).2 ⟨way_in m h' c, e2⟩, rfl⟩
end Pw
end

section
namespace Pw
open PySem PySem.Spec PyProof.Rows L2

/-- a set of tuples at a, of up to 1228 of them -/
structure SetB (P : Program) (w : World) (h : Heap) (a : Addr) (L : List (Addr × List Int)) (es : Array (Int × Value)) (ep : Nat) (t : SetTable) : Prop where
  obj : ∃ u, h.get? a = some u ∧ u.ExactSet ∧ u.data = .set es ep t
  rows : es.toList = rowsOf P w L
  tab : Tab t (L.map fun p => thash P w p.2)
  once : (L.map (·.2)).Nodup
  tups : ∀ p ∈ L, IsT P w h p.2 p.1
  plain : t.plain = true
  led : w.params.followText "set-order" = true ∨ t.led = true
  room : L.length * 5 < t.mask * 3
section
variable {P : Program} {w : World} {A : Around} {E : Value → Shared → Prop} {s : Shared}
variable {a : Addr} {L : List (Addr × List Int)} {es : Array (Int × Value)} {ep : Nat} {t : SetTable}
theorem rows_size (h : es.toList = rowsOf P w L) : es.size = L.length := by
  rw [← Array.length_toList, h, rowsOf, List.length_map]
theorem SetB.num {h : Heap} (R : SetB P w h a L es ep t) : es.size = L.length := rows_size R.rows
theorem SetB.fits {h : Heap} (R : SetB P w h a L es ep t) : t.fits es.size = true := by
  have e := R.tab.size
  rw [List.length_map] at e
  have r := R.room
  simp only [SetTable.fits, SetTable.fill, R.tab.clean, Bool.and_eq_true, beq_iff_eq, decide_eq_true_eq, R.num, e]
  refine ⟨trivial, ?_⟩
  show L.length + 0 ≤ _
  omega
theorem SetB.at {h : Heap} (R : SetB P w h a L es ep t) {i : Nat} {p : Addr × List Int} (e : L[i]? = some p) : es[i]? = some (thash P w p.2, Value.ref p.1) := by
  rw [← Array.getElem?_toList, R.rows, rowsOf, List.getElem?_map, e]
  rfl
theorem SetB.whole {h : Heap} (R : SetB P w h a L es ep t) : ¬ t.gaveWay = true := by
  have := R.tab.wide.odd
  simp [SetTable.gaveWay, this]
theorem SetTR.big {h : Heap} (R : SetTR P w h a L es ep t) : SetB P w h a L es ep t where
  obj := R.ob
  rows := R.rows
  tab := ⟨by
      rcases R.tab.mok with e | e | e
      · exact .inl e
      · exact .inr (.inl e)
      · exact .inr (.inr (.inl e)), R.tab.ris, R.tab.dm, by rw [Array.length_toList]; exact R.tab.sz, R.tab.bd, fun i j h ej eh => R.tab.reach i h j eh ej⟩
  once := R.nd
  tups := R.tup
  plain := R.plain
  led := R.led
  room := R.room

/-- where a search begins -/
abbrev beg (t : SetTable) (h : Int) : SetTable.Probe := runAt t.mask (SetTable.bits h % (t.mask + 1)) (SetTable.bits h)
theorem nth_clean (m : Nat) : ∀ (n : Nat) (p : SetTable.Probe), p.dummy = none → (nth m p n).dummy = none
  | 0, _, h => h
  | n + 1, p, h => nth_clean m n (adv m p) (by unfold adv; split <;> exact h)

/-- the search, from its c-th slot on -/
theorem look_from (R : SetB P w s.heap a L es ep t) {x : Addr} {k : List Int} (hx : IsT P w s.heap k x) (hu : A.units < cLine) {n : Nat} (ln : n < 10 * SetTable.turns t.mask)
    (free : way t.mask (thash P w k) n ∉ t.place.toList) (full : ∀ c, c < n → way t.mask (thash P w k) c ∈ t.place.toList) {Q : SetFound → Shared → Prop}
    (yes : k ∈ L.map (·.2) → Q (.there none) s) (no : k ∉ L.map (·.2) → Q (.free (way t.mask (thash P w k) n) false) s) :
    ∀ (fuel c : Nat) (st : Option SetTable.Probe), st.getD (t.probeStart (thash P w k)) = nth t.mask (beg t (thash P w k)) c → c ≤ n → n - c < fuel →
      (∀ (i : Nat) p, L[i]? = some p → p.2 = k → ∃ d, c ≤ d ∧ d < n ∧ t.place.toList[i]? = some (way t.mask (thash P w k) d)) →
      wpAny (model P w) A (setSearchFrom a (.ref x) (thash P w k) true fuel st) Q E s := by
  intro fuel
  induction fuel with
  | zero => intro c st _ _ z; exact absurd z (Nat.not_lt_zero _)
  | succ fuel ih =>
    intro c st hst lc lf ahead
    obtain ⟨u, hu1, hu2, hu3⟩ := R.obj
    rw [setSearchFrom_succ]
    refine wpAny_bind (wpAny_setState_of hu1 hu3 R.fits ?_)
    dsimp only
    refine wp_if_neg R.whole ?_
    try refine wpAny_bind (wpAny_pure ?_)
    have on : ∀ q, nth t.mask (nth t.mask (beg t (thash P w k)) c) q = nth t.mask (beg t (thash P w k)) (c + q) := fun q => (nth_add t.mask c _ q).symm
    have onj : ∀ q, (nth t.mask (nth t.mask (beg t (thash P w k)) c) q).j = way t.mask (thash P w k) (c + q) := fun q => congrArg SetTable.Probe.j (on q)
    have cn : c + (n - c) = n := by omega
    have hashes : ∀ (i : Nat) p, L[i]? = some p → (es[i]?.map (·.1)).getD 0 = thash P w p.2 := fun i p e => by rw [R.at e]; rfl
    rcases go_spec t R.tab.rise R.tab.clean (fun i => (es[i]?.map (·.1)).getD 0) (thash P w k) (10 * SetTable.turns t.mask) (n - c) (nth t.mask (beg t (thash P w k)) c)
      (nth_clean t.mask c _ rfl) (by omega) (fun q hq => by rw [onj]; exact full _ (by omega)) (by rw [onj, cn]; exact free) with ⟨q, i, lq, ei, eh, none_of, pr⟩ | ⟨none_of, pr⟩
    · have pr' : t.probe (fun i => (es[i]?.map (·.1)).getD 0) (thash P w k) (st.getD (t.probeStart (thash P w k))) =
          some (.candidate (way t.mask (thash P w k) (c + q)) i (nth t.mask (beg t (thash P w k)) (c + (q + 1)))) := by
        rw [hst, ← onj, ← on]
        exact pr
      rw [pr']
      dsimp only
      rw [onj] at ei
      have li : i < L.length := by
        have := (List.getElem?_eq_some_iff.1 ei).1
        rw [R.tab.many, List.length_map] at this
        exact this
      obtain ⟨p, ep⟩ : ∃ p, L[i]? = some p := ⟨_, List.getElem?_eq_getElem li⟩
      have pin : p ∈ L := List.mem_of_getElem? ep
      have goal : wpAny (model P w) A (searchRest a (.ref x) (thash P w k) true fuel es t (way t.mask (thash P w k) (c + q)) i (nth t.mask (beg t (thash P w k)) (c + (q + 1)))) Q E s := by
        unfold searchRest
        rw [R.at ep]
        dsimp only
        refine wpAny_bind (wpAny_holding (wpAny_eqBool_tuple hu (R.tups p pin) hx ?_))
        refine wpAny_bind (wpAny_setState_of hu1 hu3 R.fits ?_)
        dsimp only
        by_cases same : p.2 = k
        · refine wp_if_pos (by simp [same]) (wpAny_pure (yes (List.mem_map.2 ⟨p, pin, same⟩)))
        · refine wp_if_neg (by simp [same]) ?_
          try refine wpAny_bind (wpAny_pure ?_)
          have live : t.slot (way t.mask (thash P w k) (c + q)) = .live i := slot_live R.tab.rise ei
          rw [sameMem]
          dsimp only
          simp only [if_true, live, R.at ep]
          refine wpAny_bind (wpAny_isSame_ref_self (wpAny_bind (wpAny_pure ?_)))
          simp only [if_true]
          refine wp_if_neg (by simp [same]) (ih (c + (q + 1)) _ rfl (by omega) (by omega) ?_)
          intro i0 p0 e0 k0
          obtain ⟨d, d1, d2, d3⟩ := ahead i0 p0 e0 k0
          refine ⟨d, Classical.byContradiction fun z => ?_, d2, d3⟩
          rcases Nat.lt_or_ge d (c + q) with y | y
          · refine none_of (d - c) i0 (by omega) ?_ ((hashes i0 p0 e0).trans (by rw [k0]))
            rw [onj, d3]
            congr 2
            omega
          · have : d = c + q := by omega
            subst this
            have l0 := slot_live R.tab.rise d3
            rw [live] at l0
            cases l0
            rw [ep] at e0
            cases e0
            exact same k0
      by_cases l : t.led = true
      · refine wp_if_neg (by simp [l]) ?_
        try refine wpAny_bind (wpAny_pure ?_)
        exact goal
      · refine wp_if_pos (by simp [l]) (wpAny_bind (seen_tup hx ?_ ?_))
        · intro y hy
          obtain ⟨e, he, rfl⟩ := List.mem_map.1 hy
          have he1 : e ∈ es.toList := by
            have : e ∈ es ∧ e.1 = thash P w k := by simpa using he
            simpa using this.1
          rw [R.rows] at he1
          obtain ⟨p2, hp2, rfl⟩ := List.mem_map.1 he1
          exact ⟨p2.2, p2.1, rfl, R.tups p2 hp2⟩
        · refine wp_if_neg (by decide) ?_
          try refine wpAny_bind (wpAny_pure ?_)
          exact goal
    · have pr' : t.probe (fun i => (es[i]?.map (·.1)).getD 0) (thash P w k) (st.getD (t.probeStart (thash P w k))) = some (.empty (way t.mask (thash P w k) n) none) := by
        rw [hst]
        have := onj (n - c)
        rw [cn] at this
        rw [← this]
        exact pr
      rw [pr']
      dsimp only
      refine wpAny_pure (no fun z => ?_)
      obtain ⟨p0, m0, k0⟩ := List.mem_map.1 z
      obtain ⟨i0, e0⟩ := List.getElem?_of_mem m0
      obtain ⟨d, d1, d2, d3⟩ := ahead i0 p0 e0 k0
      refine none_of (d - c) i0 (by omega) ?_ ((hashes i0 p0 e0).trans (by rw [k0]))
      rw [onj, d3]
      congr 2
      omega
theorem look_at (R : SetB P w s.heap a L es ep t) {x : Addr} {k : List Int} (hx : IsT P w s.heap k x) (hu : A.units < cLine) {Q : SetFound → Shared → Prop}
    (yes : k ∈ L.map (·.2) → Q (.there none) s)
    (no : ∀ n, k ∉ L.map (·.2) → way t.mask (thash P w k) n ∉ t.place.toList → (∀ c, c < n → way t.mask (thash P w k) c ∈ t.place.toList) → Q (.free (way t.mask (thash P w k) n) false) s) :
    wpAny (model P w) A (setSearch a (.ref x) (thash P w k) true) Q E s := by
  have r := R.room
  have top := R.tab.wide.top
  obtain ⟨n, ln, free, full⟩ := R.tab.gap (by rw [List.length_map]; omega) (thash P w k)
  have ln' : n < 10 * (t.mask + 15) := ln
  unfold setSearch
  refine look_from R hx hu ln free full yes (fun z => no n z free full) 100000 0 none rfl (Nat.zero_le _) (by omega) ?_
  intro i p ei ek
  have li : i < t.place.toList.length := by
    rw [R.tab.many, List.length_map]
    exact (List.getElem?_eq_some_iff.1 ei).1
  have ej := List.getElem?_eq_getElem li
  obtain ⟨d, ld, ed⟩ := R.tab.ahead free ej (by rw [List.getElem?_map, ei, ← ek]; rfl)
  exact ⟨d, Nat.zero_le _, ld, by rw [ej, ed]⟩

/-- all laid anew in a larger table -/
theorem relay_big {u : Obj} (hu1 : s.heap.get? a = some u) (hu2 : u.ExactSet) (hu3 : u.data = .set es ep t) (rows : es.toList = rowsOf P w L) (fits : t.fits es.size = true)
    (once : (L.map (·.2)).Nodup) (tups : ∀ p ∈ L, IsT P w s.heap p.2 p.1) (plain : t.plain = true) (led : w.params.followText "set-order" = true ∨ t.led = true) {want m : Nat}
    (hw : SetTable.sizeAbove want = m + 1) (hm : Wd m) (room : L.length * 5 < m * 3) {Q : Unit → Shared → Prop}
    (k : ∀ h' L' es' ep' t', Heap.SameBut a s.heap h' → SetB P w h' a L' es' ep' t' → L'.Perm L → Q () { s with heap := h' }) : wpAny (model P w) A (setRelay a want) Q E s := by
  have num : es.size = L.length := rows_size rows
  have top := hm.top
  obtain ⟨t', ord, e, perm, T, em, el, ep1⟩ := anew_ok t (hs := es.map (·.1)) hw hm (by rw [Array.size_map]; omega)
  rw [Array.size_map, num] at perm
  obtain ⟨L2, r1, r2, r3⟩ := order_rows L es ord rows perm
  rw [← r3] at T
  have num2 : (ord.filterMap (es[·]?)).size = es.size := by rw [rows_size r1, r2.length_eq, num]
  rw [setRelay_eq]
  refine wpAny_bind (wpAny_setState_of hu1 hu3 fits ?_)
  dsimp only
  refine wp_if_neg (by rw [hw, sizeLine_eq]; omega) ?_
  try refine wpAny_bind (wpAny_pure ?_)
  rw [e]
  dsimp only
  refine wpAny_bind (wp_if_neg (by simp [num2]) ?_)
  try refine wpAny_bind (wpAny_pure ?_)
  refine wpAny_pure ?_
  dsimp only
  refine wpAny_storeSet_of hu1 hu3 ?_ (by rw [num2, num, sizeLine_eq]; omega)
  have sb : Heap.SameBut a s.heap (s.heap.update a (Obj.putSet (ord.filterMap (es[·]?)) t')) := Heap.SameBut.update ..
  refine k _ L2 _ (ep + 1) t' sb ⟨⟨_, store_at hu1 hu3, ⟨hu2.1, hu2.2.1, hu2.2.2⟩, rfl⟩, r1, T, (r2.map (·.2)).nodup_iff.2 once,
    fun p hp => isT_same (tups p (r2.mem_iff.1 hp)) hu1 hu3 sb, by rw [ep1, plain], by rw [el]; exact led, by rw [r2.length_eq, em]; exact room⟩ r2

theorem grow_32 : SetTable.sizeAbove (SetTable.grown 5) = 31 + 1 := by decide +kernel
theorem grow_128 : SetTable.sizeAbove (SetTable.grown 19) = 127 + 1 := by decide +kernel
theorem grow_512 : SetTable.sizeAbove (SetTable.grown 77) = 511 + 1 := by decide +kernel
theorem grow_2048 : SetTable.sizeAbove (SetTable.grown 307) = 2047 + 1 := by decide +kernel
theorem grow {m n : Nat} (hm : Wd m) (r : n * 5 < m * 3) (f : m * 3 ≤ (n + 1) * 5) (few : n + 1 < 1229) : ∃ m', SetTable.sizeAbove (SetTable.grown (n + 1)) = m' + 1 ∧ Wd m' ∧ (n + 1) * 5 < m' * 3 := by
  rcases hm with rfl | rfl | rfl | rfl | rfl
  · obtain rfl : n = 4 := by omega
    exact ⟨31, grow_32, .inr (.inl rfl), by omega⟩
  · obtain rfl : n = 18 := by omega
    exact ⟨127, grow_128, .inr (.inr (.inl rfl)), by omega⟩
  · obtain rfl : n = 76 := by omega
    exact ⟨511, grow_512, .inr (.inr (.inr (.inl rfl))), by omega⟩
  · obtain rfl : n = 306 := by omega
    exact ⟨2047, grow_2048, .inr (.inr (.inr (.inr rfl))), by omega⟩
  · omega

/-- one more, or the same -/
theorem add_big (R : SetB P w s.heap a L es ep t) {x : Addr} {k : List Int} (hx : IsT P w s.heap k x) (hu : A.units < cLine) (few : L.length + 1 < 1229) {Q : Bool → Shared → Prop}
    (z : ∀ b h' L' es' ep' t', Heap.SameBut a s.heap h' → SetB P w h' a L' es' ep' t' → (k ∈ L.map (·.2) → L' = L) → (k ∉ L.map (·.2) → L'.Perm ((x, k) :: L)) → Q b { s with heap := h' }) :
    wpAny (model P w) A (setAddHashed a (.ref x) (thash P w k)) Q E s := by
  obtain ⟨u, hu1, hu2, hu3⟩ := R.obj
  have num := R.num
  have room := R.room
  unfold setAddHashed
  refine wpAny_holding ?_
  rw [show (100000 : Nat) = 99999 + 1 from rfl, setAddHashedIn_succ]
  refine wpAny_bind (wpAny_setState_of hu1 hu3 R.fits ?_)
  dsimp only
  refine wp_if_neg (by simp [byScan, Value.scannable]) ?_
  try refine wpAny_bind (wpAny_pure ?_)
  refine wpAny_bind (look_at R hx hu (fun isin => ?_) fun n out free full => ?_)
  · dsimp only
    exact wpAny_pure (z false s.heap L es ep t (.refl a s.heap) R (fun _ => rfl) fun c => absurd isin c)
  · dsimp only
    refine wpAny_bind (wpAny_setState_of hu1 hu3 R.fits ?_)
    dsimp only
    obtain ⟨b1, b2, b3⟩ := R.tab.more free full rfl rfl
    revert b1 b2 b3
    generalize way t.mask (thash P w k) n = j
    intro b1 b2 b3
    have q2 : (t.put j).2 = SetTable.below t.place j := rfl
    have q3 : (t.put j).1.plain = true := R.plain
    have q4 : (t.put j).1.mask = t.mask := rfl
    have q5 : (t.put j).1.led = t.led := rfl
    revert b1 b2 b3 q2 q3 q4 q5
    generalize t.put j = tp
    generalize SetTable.below t.place j = p
    obtain ⟨t1, p1⟩ := tp
    dsimp only
    intro b1 b2 b3 q2 q3 q4 q5
    subst q2
    first
      | (refine wpAny_bind ?_; refine wp_if_pos q3 ?_; refine hashBy_tup hx ?_)
      | refine wp_if_pos q3 (wpAny_bind (hashBy_tup hx ?_))
    simp only [if_true]
    have rows1 : (SetTable.insertAt es p1 (thash P w k, Value.ref x)).toList = rowsOf P w (L.take p1 ++ (x, k) :: L.drop p1) := by
      rw [SetTable.toList_insertAt, rows_put, R.rows]
    have perm := put_perm L p1 (x, k)
    have hash1 : (L.map fun p => thash P w p.2).take p1 ++ thash P w k :: (L.map fun p => thash P w p.2).drop p1 = (L.take p1 ++ (x, k) :: L.drop p1).map fun p => thash P w p.2 := by
      simp
    rw [hash1] at b2
    revert rows1 perm b2
    generalize SetTable.insertAt es p1 (thash P w k, Value.ref x) = es1
    generalize L.take p1 ++ (x, k) :: L.drop p1 = L1
    intro b2 rows1 perm
    have len : L1.length = L.length + 1 := perm.length_eq
    have num1 : es1.size = L.length + 1 := by rw [rows_size rows1, len]
    have once1 : (L1.map (·.2)).Nodup := by
      rw [(perm.map (·.2)).nodup_iff, List.map_cons, List.nodup_cons]
      exact ⟨out, R.once⟩
    refine wpAny_bind (wpAny_storeSet_of hu1 hu3 ?_ (by rw [num1, sizeLine_eq]; omega))
    have sb : Heap.SameBut a s.heap (s.heap.update a (Obj.putSet es1 t1)) := Heap.SameBut.update ..
    have new := store_at (es' := es1) (t' := t1) hu1 hu3
    revert sb new
    generalize s.heap.update a (Obj.putSet es1 t1) = h1
    intro sb new
    have tups1 : ∀ p ∈ L1, IsT P w h1 p.2 p.1 := fun p hp => by
      rcases List.mem_cons.1 (perm.mem_iff.1 hp) with rfl | hp
      · exact isT_same hx hu1 hu3 sb
      · exact isT_same (R.tups p hp) hu1 hu3 sb
    have led1 : w.params.followText "set-order" = true ∨ t1.led = true := by
      rw [q5]
      exact R.led
    have fill : t1.tooFull = decide (t.mask * 3 ≤ (L.length + 1) * 5) := by
      simp only [SetTable.tooFull, b3, List.length_map, q4]
    by_cases hf : t1.tooFull = true
    · first
        | (refine wpAny_bind ?_; refine wp_if_pos (by simp [hf]) ?_)
        | (refine wp_if_pos (by simp [hf]) ?_; refine wpAny_bind ?_)
      rw [fill, decide_eq_true_eq] at hf
      obtain ⟨m', g1, g2, g3⟩ := grow R.tab.wide room hf few
      have fits1 : t1.fits es1.size = true := by
        have e := b2.size
        rw [List.length_map, len] at e
        simp only [SetTable.fits, SetTable.fill, b2.clean, Bool.and_eq_true, beq_iff_eq, decide_eq_true_eq, num1, e, q4]
        refine ⟨trivial, ?_⟩
        show L.length + 1 + 0 ≤ _
        have : 7 ≤ t.mask := by
          rcases R.tab.wide with y | y | y | y | y <;> omega
        omega
      rw [num]
      refine relay_big (s := { s with heap := h1 }) new ⟨hu2.1, hu2.2.1, hu2.2.2⟩ rfl rows1 fits1 once1 tups1 q3 led1 g1 g2 (by rw [len]; exact g3) ?_
      intro h2 L2 es2 ep2 t2 sb2 R2 perm2
      exact wpAny_pure (z true h2 L2 es2 ep2 t2 (sb.trans sb2) R2 (fun y => absurd y out) fun _ => perm2.trans perm)
    · first
        | refine wp_if_neg (by simp [hf]) ?_
        | (refine wpAny_bind ?_; refine wp_if_neg (by simp [hf]) ?_; refine wpAny_pure ?_)
      rw [fill, decide_eq_true_eq] at hf
      refine wpAny_pure (z true h1 L1 es1 (ep + 1) t1 sb ⟨⟨_, new, ⟨hu2.1, hu2.2.1, hu2.2.2⟩, rfl⟩, rows1, b2, once1, tups1, q3, led1, ?_⟩ (fun y => absurd y out) fun _ => perm)
      rw [len, q4]
      omega
end
end Pw
end

section
namespace Pw
open PySem PySem.Spec PyProof.Rows L2
section
variable {P : Program} {w : World} {A : Around} {E : Value → Shared → Prop} {s : Shared}
theorem SetB.stays {h h' : Heap} {a : Addr} {L : List (Addr × List Int)} {es : Array (Int × Value)} {ep : Nat} {t : SetTable} (R : SetB P w h a L es ep t)
    (here : ∀ u, h.get? a = some u → h'.get? a = some u) (tups : ∀ p ∈ L, IsT P w h' p.2 p.1) : SetB P w h' a L es ep t := by
  obtain ⟨u, hu, r⟩ := R.obj
  exact ⟨⟨u, here u hu, r⟩, R.rows, R.tab, R.once, tups, R.plain, R.led, R.room⟩

/-- the loop that puts all in -/
theorem all_in {it : Addr} {fp wr : List Addr} {G : Array GenState → Array GenState → Prop} {n : Nat} {Pv : Nat → Value → Prop} {St : Nat → Shared → Prop} {R : Result → Shared → Prop}
    (W : WalksS P w A.in1 it fp wr G n Pv St) (a : Addr) (apart : a ∉ fp) (ks : List (Addr × List Int)) (hn : n = ks.length) (few : ks.length < 1229)
    (value : ∀ i v, Pv i v → ∃ p, ks[i]? = some p ∧ v = .ref p.1) (h0 : Heap) (tups : ∀ p ∈ ks, IsT P w h0 p.2 p.1) (new : h0.get? a = none) (newW : ∀ b ∈ wr, h0.get? b = none) (hu : A.in1.units < cLine)
    (fin : ∀ s1 s2 : Shared, Moved (a :: wr) G s1 s2 → ∀ L es ep t, SetB P w s2.heap a L es ep t → Got ks n L → (∀ b u, h0.get? b = some u → s2.heap.get? b = some u) → s1 = s → R (.ok (.ret .none)) s2) :
    ∀ (d i : Nat) (s1 : Shared), i + d = n → St i s1 → (∀ b u, h0.get? b = some u → s1.heap.get? b = some u) → (∃ L es ep t, SetB P w s1.heap a L es ep t ∧ Got ks i L) →
      (∀ s2, Moved (a :: wr) G s1 s2 → Moved (a :: wr) G s s2) →
      codeAny (model P w) A (.builtin "set.update.loop" ⟨[.ref a, .ref it], []⟩) R s1 := by
  have out : a ∉ wr := fun z => apart (W.sub _ z)
  have wide : ∀ b ∈ wr, b ∈ a :: wr := fun b hb => List.mem_cons_of_mem _ hb
  intro d
  induction d with
  | zero =>
    intro i s1 hd st kept ⟨L, es, ep, t, S, g⟩ back
    obtain rfl : i = n := by omega
    refine codeAny_builtin F.entry_set_update_loop ?_
    rw [Around.under_plainId F.plain_set_update_loop _]
    show wpAny _ A.in1 (pyNext (.ref it) >>= _) _ _ s1
    refine wpAny_bind (W.done s1 _ _ st fun s2 mv => ?_)
    show wpAny _ A.in1 (ret Value.none) _ _ s2
    have kept2 : ∀ b u, h0.get? b = some u → s2.heap.get? b = some u := fun b u e =>
      mv.heap b u (fun hb => by rw [newW b hb] at e; cases e) (kept b u e)
    refine wpAny_pure (fin s s2 (back s2 (mv.mono wide)) L es ep t (S.stays (fun u e => mv.heap a u out e) fun p hp => isT_keep (tups p (List.mem_of_mem_take (g.sub p hp))) kept2) g kept2 rfl)
  | succ d ih =>
    intro i s1 hd st kept ⟨L, es, ep, t, S, g⟩ back
    refine codeAny_builtin F.entry_set_update_loop ?_
    rw [Around.under_plainId F.plain_set_update_loop _]
    show wpAny _ A.in1 (pyNext (.ref it) >>= _) _ _ s1
    refine wpAny_bind (W.item i s1 _ _ (by omega) st fun v s2 hv st2 mv => ?_)
    obtain ⟨p, hp, rfl⟩ := value i v hv
    have kept2 : ∀ b u, h0.get? b = some u → s2.heap.get? b = some u := fun b u e =>
      mv.heap b u (fun hb => by rw [newW b hb] at e; cases e) (kept b u e)
    have S2 : SetB P w s2.heap a L es ep t := S.stays (fun u e => mv.heap a u out e) fun q hq => isT_keep (tups q (List.mem_of_mem_take (g.sub q hq))) kept2
    have hx : IsT P w s2.heap p.2 p.1 := isT_keep (tups p (List.mem_of_getElem? hp)) kept2
    show wpAny _ A.in1 (holding [Value.ref p.1] (setAdd a (.ref p.1)) >>= _) _ _ s2
    refine wpAny_bind (wpAny_holding ?_)
    unfold setAdd
    refine wpAny_holding (wpAny_bind (wpAny_pyHash_tuple hu hx ?_))
    refine add_big (s := { s2 with toks := s2.toks + (p.2.length + 1) }) S2 hx hu (by have := g.len; omega) fun b h' L' es' ep' t' sb S3 same more => ?_
    have g3 : Got ks (i + 1) L' := by
      by_cases c : p.2 ∈ L.map (·.2)
      · rw [same c]
        exact g.same hp c
      · exact g.more hp (more c)
    have kept3 : ∀ b u, h0.get? b = some u → h'.get? b = some u := fun b u e => by
      rw [sb.2 b fun z => by rw [z, new] at e; cases e]
      exact kept2 b u e
    refine wpAny_pure ⟨plainId_quiet F.plain_set_update_loop _, ih (i + 1) _ (by omega) (W.frame _ s2 _ _ st2 (Nat.le_add_right _ _) fun b hb u e => ?_) kept3 ⟨L', es', ep', t', S3, g3⟩ fun s3 mv3 => back s3 ?_⟩
    · have ne : b ≠ a := fun z => apart (z ▸ hb)
      rw [sb.2 b ne]
      exact e
    · refine Moved.trans W.gtrans ((mv.mono wide).then_heap (Nat.le_add_right _ _) fun b u hb e => ?_) mv3
      have ne : b ≠ a := fun z => hb (by rw [z]; exact List.mem_cons_self)
      rw [sb.2 b ne]
      exact e

theorem big_new {h : Heap} {a : Addr} (ho : h.get? a = some (emptySet w)) : SetB P w h a [] #[] 0 (.fresh 0 0 (!w.params.followText "set-order")) := SetTR.big (setTR_fresh ho)

/-- set of a list of tuples of whole numbers -/
theorem set_of_list {l : Addr} {items : Array Value} (ks : List (Addr × List Int)) {Q : Value → Shared → Prop} (hh : A.handled = none) (hl : s.heap.IsList l items)
    (hit : items.toList = ks.map fun p => Value.ref p.1) (hk : ∀ p ∈ ks, IsT P w s.heap p.2 p.1) (few : ks.length < 1229) (hu : A.units + 3 < cLine)
    (h : ∀ (h' : Heap) (tk : Nat) L es ep t, SetB P w h' s.heap.objs.size L es ep t → Got ks ks.length L → (∀ b o, s.heap.get? b = some o → h'.get? b = some o) →
      Q (.ref s.heap.objs.size) { s with heap := h', toks := tk }) :
    wpAny (model P w) A (call (.type "set") [.ref l]) Q E s := by
  have size : items.size = ks.length := by
    rw [← Array.length_toList, hit, List.length_map]
  have new : (s.heap.push (emptySet w)).get? s.heap.objs.size = some (emptySet w) := Heap.get?_push_size _ rfl
  have ty : Shared.TypeIs { s with heap := s.heap.push (emptySet w) } (.ref s.heap.objs.size) "set" := ⟨_, new, rfl⟩
  refine set_call (codeAny_mono (codeAny_call_builtin (R := wants (fun v s2 => v = .none ∧ ∃ g tk L es ep t, s2 = { s with heap := g, toks := tk } ∧ SetB P w g s.heap.objs.size L es ep t ∧ Got ks ks.length L ∧
    (∀ b o, s.heap.get? b = some o → g.get? b = some o)) E) F.called_set.init.plain F.entry_set_init (check_set_init_1 ty ?_)) fun r s2 z => ?_)
  · obtain ⟨⟨oc, od, dt, os⟩, at0, ec, m, ed⟩ := hl
    replace ec : oc = .type "list" := ec
    replace ed : dt = .seq items m := ed
    subst ec ed
    have below : l < s.heap.objs.size := Heap.lt_size at0
    have at1 : (s.heap.push (emptySet w)).get? l = some { cls := .type "list", dict := od, data := .seq items m, slots := os } := Heap.get?_push_of_some _ at0
    have l1 : (s.heap.push (emptySet w)).IsList l items := ⟨_, at1, rfl, m, rfl⟩
    have y1 := F.sub_list_set
    have y2 := F.sub_list_frozenset
    have y3 : (Value.type "list" == .type "dict") = false := rfl
    unfold Builtin.«set.__init__» noKeywords Builtin.Frozenset.updateFrom
    generalize ePI : pyIter = PI
    wp_walk
    subst ePI
    refine wpAny_pyIter_list l1 (wpAny_bind (wpAny_runValue ?_))
    have calm : A.in1.in1.in1.handled = none := by simp [hh]
    have sz1 : (s.heap.push (emptySet w)).objs.size = s.heap.objs.size + 1 := Heap.size_push ..
    have apart : l ≠ (s.heap.push (emptySet w)).objs.size := fun e => by rw [sz1] at e; exact absurd below (by rw [e]; exact Nat.not_lt.2 (Nat.le_succ _))
    have away : s.heap.objs.size ∉ [(s.heap.push (emptySet w)).objs.size, l] := fun e => by
      rw [sz1] at e
      rcases List.mem_cons.1 e with e | e
      · exact absurd e (Nat.ne_of_lt (Nat.lt_succ_self _))
      · exact absurd (List.mem_singleton.1 e) (Nat.ne_of_gt below)
    have item : ∀ (i : Nat) (v : Value), items[i]? = some v → ∃ p, ks[i]? = some p ∧ v = .ref p.1 := fun i v e => by
      rw [← Array.getElem?_toList, hit] at e
      obtain ⟨p, e1, e2⟩ := Option.map_eq_some_iff.1 ((List.getElem?_map ..).symm.trans e)
      exact ⟨p, e1, e2.symm⟩
    have void : ∀ b, s.heap.objs.size ≤ b → s.heap.get? b = none := fun b le => Option.eq_none_iff_forall_ne_some.2 fun o e => Nat.not_lt.2 le (Heap.lt_size e)
    have one : ∀ b ∈ [(s.heap.push (emptySet w)).objs.size], s.heap.get? b = none := fun b e => void b (by rw [List.mem_singleton.1 e, sz1]; exact Nat.le_add_right _ _)
    refine all_in ((Walks.list calm _ l apart items).toS) s.heap.objs.size away ks size few item s.heap hk (void _ (Nat.le_refl _)) one hu ?fin items.size 0 _ (by omega)
      ⟨⟨_, Heap.get?_push_size _ rfl, rfl, rfl⟩, l1.push _⟩ (fun b o e => Heap.get?_push_of_some _ (Heap.get?_push_of_some _ e)) ⟨[], #[], 0, _, big_new (Heap.get?_push_of_some _ new), Got.zero ks⟩ (fun s2 z => z)
    case fin =>
      intro s1 s2 mv L es ep t R got keep e1
      subst e1
      rw [Moved.eq_with mv]
      rw [size] at got
      exact wpAny_pure (wpAny_pure ⟨rfl, s2.heap, s2.toks, L, es, ep, t, rfl, R, got, keep⟩)
  · match r, z with
    | .error _, z => exact z
    | .ok (.ret _), ⟨e1, g, tk, L, es, ep, t, e2, R, got, keep⟩ =>
      subst e2
      exact ⟨e1, h g tk L es ep t R got keep⟩
end
end Pw
end

section
namespace Pw
open PySem PySem.Spec PyProof.Rows L2
open PySem.W (EachIs)
section
variable {P : Program} {w : World} {A : Around} {E : Value → Shared → Prop} {s : Shared}
theorem SetB.few {h : Heap} {a : Addr} {L : List (Addr × List Int)} {es : Array (Int × Value)} {ep : Nat} {t : SetTable} (R : SetB P w h a L es ep t) : L.length < 1229 := by
  have := R.room
  have := R.tab.wide.top
  omega
/-- sorted of a set of pairs of whole numbers, of up to 1228 of them -/
theorem sorted_big {a : Addr} {L : List (Addr × List Int)} {es : Array (Int × Value)} {ep : Nat} {t : SetTable} {Q : Value → Shared → Prop}
    (R : SetB P w s.heap a L es ep t) (hh : A.handled = none) (h2 : ∀ p ∈ L, p.2.length = 2) (hu : A.units + 16 < cLine)
    (hQ : ∀ (s' : Shared) (p : Addr) (out : Array Value) (c : Nat) (M : List (Addr × List Int)), (∀ b o, s.heap.get? b = some o → s'.heap.get? b = some o) →
      s'.gens = s.gens → s'.os = s.os → s.heap.objs.size ≤ p → s'.heap.get? p = some (seqObj "list" out c) → out.toList = M.map (fun q => Value.ref q.1) →
      M.Perm L → M.Pairwise leP → Q (.ref p) s') :
    wpAny (model P w) A (call (.builtin "sorted") [.ref a]) Q E s := by
  obtain ⟨ob, hob, hex, hdat⟩ := R.obj
  have few := R.few
  have size := R.num
  refine Calls.call_function_entry kind_sorted plain_sorted entry_sorted (args_sorted1 _) ?_
  unfold Builtin.«sorted»
  refine wpAny_bind (m := checkCount "sorted" 1 1 _) (wpAny_pure ?_)
  refine wpAny_bind (collect_set (A := A.in1) hh ⟨ob, hob, hex.1, hdat⟩ R.fits
    (by unfold scanBound; omega) R.tab.rise R.led fun s1 vs keep1 hz g1 o1 pm => ?_)
  have rows : es.toList.map (·.2) = L.map fun q => Value.ref q.1 := by
    rw [R.rows, rowsOf, List.map_map]
    rfl
  rw [rows] at pm
  obtain ⟨L1, pL, ev⟩ := perm_back (fun q : Addr × List Int => Value.ref q.1) pm L rfl
  have len1 : vs.length < 1229 := by rw [ev, List.length_map, pL.length_eq]; exact few
  refine wpAny_bind (wpAny_newList ?_ (by rw [sizeLine_eq]; omega))
  have hnew : (s1.heap.push (seqObj "list" vs.toArray 0)).get? s1.heap.objs.size = some (seqObj "list" vs.toArray 0) := Heap.get?_push_size _ rfl
  have read : ∀ q ∈ L1, Reads (s1.heap.push (seqObj "list" vs.toArray 0)) (.ref q.1) (encP q) [] := fun q hq =>
    reads_pair (tupInts_of (P := P) (w := w) (isT_keep (R.tups q (pL.mem_iff.1 hq)) fun b u e => Heap.get?_push_of_some _ (keep1 b u e))) (h2 q (pL.mem_iff.1 hq))
  have same1 : EachIs (fun v q => v = Value.ref q.1) vs L1 := by rw [ev]; exact each_refs L1
  have same2 : EachIs (fun v q => ∃ as, Reads (s1.heap.push (seqObj "list" vs.toArray 0)) v (encP q) as ∧ s1.heap.objs.size ∉ as) vs L1 := by
    have := each_of (Rr := fun v q => ∃ as, Reads (s1.heap.push (seqObj "list" vs.toArray 0)) v (encP q) as ∧ s1.heap.objs.size ∉ as) (L := L1)
      fun q hq => ⟨[], read q hq, by simp⟩
    rw [ev] at this ⊢
    exact this
  refine wpAny_bind (wpAny_holding (PySem.W.list_sort_data (s := { s1 with heap := s1.heap.push (seqObj "list" vs.toArray 0) }) (bs := L1) (enc := encP)
    (R := fun v q => v = Value.ref q.1) hnew same1 same2 ?_ ?_ ?_ ?_ fun out ho hs => ?_))
  · intro d hd d' hd'
    obtain ⟨x, _, rfl⟩ := List.mem_map.1 hd
    obtain ⟨y, _, rfl⟩ := List.mem_map.1 hd'
    rfl
  · left
    intro d hd
    obtain ⟨x, _, rfl⟩ := List.mem_map.1 hd
    exact ⟨_, _, rfl⟩
  · rw [ev, List.length_map] at len1
    rw [sizeLine_eq]; omega
  · intro b _
    have d2 : (encP b).depth ≤ 4 := by
      show PyData.depth (.tuple [.int (fst2 b), .int (snd2 b)]) ≤ 4
      simp [PyData.depth, PyData.depthAll]
    have u1 : A.in1.units ≤ A.units + 4 := by simp
    omega
  · obtain ⟨c, hc⟩ := sortedHeap_at (vs := vs) (out := out.toArray) hnew
    have eout := refs_each hs
    have srt : (L1.mergeSort (PySem.W.dataLe false encP)).Pairwise leP := by
      have := List.pairwise_mergeSort (le := PySem.W.dataLe false encP) (by
        intro p q r
        rw [le_same]
        simp only [decide_eq_true_eq]
        omega) (by
        intro p q
        rw [le_same]
        simp only [Bool.or_eq_true, decide_eq_true_eq]
        omega) L1
      refine this.imp fun {p q} h => ?_
      rw [le_same] at h
      have h' : decide (fst2 p < fst2 q ∨ (fst2 p = fst2 q ∧ snd2 p ≤ snd2 q)) = true := h
      have h3 := of_decide_eq_true h'
      exact h3
    refine wpAny_pure ⟨_, rfl, hQ _ s1.heap.objs.size out.toArray c (L1.mergeSort (PySem.W.dataLe false encP)) (fun b u e => ?_) g1 o1 hz hc (by simpa using eout)
      ((List.mergeSort_perm L1 _).trans pL) srt⟩
    have k := keep1 b u e
    have lt := Heap.lt_size k
    show (sortedHeap (s1.heap.push (seqObj "list" vs.toArray 0)) s1.heap.objs.size vs out.toArray).get? b = some u
    rw [sortedHeap_old (Nat.ne_of_lt lt) (by rw [size_push']; exact Nat.lt_succ_of_lt lt)]
    exact Heap.get?_push_of_some _ k
end
/-- such a set, without its tuples -/
def SetB0 (P : Program) (w : World) (h : Heap) (a : Addr) (L : List (Addr × List Int)) : Prop :=
  ∃ es ep t, (∃ u, h.get? a = some u ∧ u.ExactSet ∧ u.data = .set es ep t) ∧ ∀ h' : Heap, (∀ u, h.get? a = some u → h'.get? a = some u) → (∀ p ∈ L, IsT P w h' p.2 p.1) → SetB P w h' a L es ep t
def SetBO (P : Program) (w : World) (a : Addr) (L : List (Addr × List Int)) : HO := .ext fun h => SetB0 P w h a L
theorem SetB.b0 {P : Program} {w : World} {h : Heap} {a : Addr} {L : List (Addr × List Int)} {es : Array (Int × Value)} {ep : Nat} {t : SetTable} (R : SetB P w h a L es ep t) : SetB0 P w h a L :=
  ⟨es, ep, t, R.obj, fun _ k tu => R.stays k tu⟩
theorem setBO_new {P : Program} {w : World} {H : Hp} {h : Heap} {a : Addr} {L : List (Addr × List Int)} (R : SetB0 P w h a L) : ObjOk P w H h a (SetBO P w a L) := by
  have ⟨es, ep, t, ⟨u, hu, _⟩, _⟩ := R
  refine ⟨R, ⟨u, hu⟩, fun h1 h2 p k => ?_⟩
  have ⟨es', ep', t', ⟨u', hu', r'⟩, q⟩ := p
  refine ⟨es', ep', t', ⟨u', k u' hu', r'⟩, fun h3 k3 tu => q h3 (fun v hv => k3 v (k v hv)) tu⟩
/-- set of a list, or of a short tuple, of tuples -/
def rSetB (K : PySem.W.Frag) (P : Program) (w : World) : List V → Hp → VK → Prop := fun xs H Q =>
  ∃ (l : Addr) (ks : List (Addr × List Int)), xs = [V.ref l] ∧ ((SqL K H l (ks.map fun p => V.ref p.1) ∧ ks.length < 1229) ∨ (SqT K H l (ks.map fun p => V.ref p.1) ∧ ks.length < 64)) ∧ (∀ p ∈ ks, SqT K H p.1 (p.2.map V.int)) ∧
    ∀ a L, H a = none → (∀ p ∈ L, p ∈ ks) → (∀ p ∈ ks, p.2 ∈ L.map (·.2)) → Q (.ref a) (upd H a (SetBO P w a L))
def rSortB (K : PySem.W.Frag) (P : Program) (w : World) : List V → Hp → VK → Prop := fun vs H Q =>
  ∃ (a : Addr) (L : List (Addr × List Int)), vs = [V.ref a] ∧ H a = some (SetBO P w a L) ∧ (∀ p ∈ L, SqT K H p.1 (p.2.map V.int) ∧ p.2.length = 2) ∧
    ∀ (M : List (Addr × List Int)) (p : Addr), M.Perm L → (M.map (·.2)).Nodup → M.length < 1229 → M.Pairwise leP → H p = none → Q (.ref p) (upd H p (.lst (M.map fun q => V.ref q.1)))
section
variable {X : Cx}
theorem cr_setB (hc : X.calm = true) (hu : X.A.units + 64 < cLine) : CallR X (.type "set") (rSetB X.K X.prog X.w) := by
  intro pins s σ H xs us Q I r h
  obtain ⟨l, ks, rfl, hl, hk, q⟩ := h
  rw [Vals.ref1 r]
  have fin : ∀ (h' : Heap) (tk : Nat) L es ep t, SetB X.prog X.w h' s.heap.objs.size L es ep t → Got ks ks.length L → (∀ b o, s.heap.get? b = some o → h'.get? b = some o) →
      ∃ x H', Inv X pins σ H' { s with heap := h', toks := tk } ∧ RelV x (.ref s.heap.objs.size) ∧ Q x H' := by
    intro h' tk L es ep t R got keep
    refine ⟨.ref s.heap.objs.size, upd H s.heap.objs.size (SetBO X.prog X.w s.heap.objs.size L), I.laid (t' := tk) keep (Nat.le_refl _) (setBO_new R.b0), rfl, ?_⟩
    exact q _ L (I.hok.fresh (Nat.le_refl _)) (fun p hp => List.mem_of_mem_take (got.sub p hp)) fun p hp => got.all p (by rw [List.take_length]; exact hp)
  rcases hl with ⟨hl, few⟩ | ⟨hl, few⟩
  · obtain ⟨its, rv, pl, hz⟩ := I.list hl
    exact set_of_list (P := X.prog) (w := X.w) ks (I.ok.hd hc) pl.isList (by simpa using refs_of_vals rv) (fun p hp => I.isT (hk p hp)) few (by omega) fun h' tk L es ep t R got keep => fin h' tk L es ep t R got keep
  · obtain ⟨its, rv, pl, hz⟩ := I.tuple hl
    exact set_of_tuple (P := X.prog) (w := X.w) ks (I.ok.hd hc) pl (by simpa using refs_of_vals rv) (fun p hp => I.isT (hk p hp)) few (by omega) fun h' tk L es ep t R got keep => fin h' tk L es ep t (SetTR.big R) got keep
theorem cr_sortB (hc : X.calm = true) (hu : X.A.units + 64 < cLine) : CallR X (.builtin "sorted") (rSortB X.K X.prog X.w) := by
  intro pins s σ H vs us Q I r h
  obtain ⟨a, L, rfl, hset, hel, q⟩ := h
  have whole : SetB0 X.prog X.w s.heap a L := (I.hok a _ hset).1
  obtain ⟨es, ep, t, _, full⟩ := whole
  have R := full s.heap (fun _ e => e) fun p hp => I.isT (hel p hp).1
  rw [Vals.ref1 r]
  refine sorted_big R (I.ok.hd hc) (fun p hp => (hel p hp).2) (by omega) ?_
  intro s' p out c M keep g o hp hat hout pm srt
  have few : M.length < 1229 := by rw [pm.length_eq]; exact R.few
  have size : (M.map fun q => V.ref q.1).length ≤ sizeLine := by
    rw [List.length_map, sizeLine_eq]
    omega
  have new : H p = none := I.hok.fresh hp
  have vals : Vals (M.map fun q => V.ref q.1) out.toList := by
    rw [hout]
    exact vals_of_refs M
  obtain ⟨hp', gn, dr, tk, os'⟩ := s'
  simp only at keep g o hat
  subst o
  refine ⟨.ref p, _, ?_, rfl, q M p pm ((pm.map (·.2)).nodup_iff.mpr R.once) few srt new⟩
  exact I.call (ch := []) (Un.laid keep hp new) (I.hok.laid keep hp ⟨size, out.toList, c, vals, hat⟩) (by rw [g]; exact I.bare)
    (fun _ z => nomatch z)
end
end Pw
end

section
namespace Pw
open PySem PySem.Spec PyProof.Rows L2 RT
section
variable {prog : Program} {w : World} {A : Around} {E : Value → Shared → Prop} {s : Shared}

/-- an empty list is filled from an iterator that walks a list backwards -/
theorem fill_rev {R : Result → Shared → Prop} {it l S : Addr} {items : Array Value} {c0 : Nat} (hh : A.handled = none) (hi : s.heap.IsRevIter it l ((items.size : Int) - 1))
    (hl : s.heap.IsList l items) (hne : l ≠ it) (hn : items.size ≤ sizeLine) (hSi : S ≠ it) (hSl : S ≠ l)
    (hS : s.heap.get? S = some { cls := .type "list", data := .seq #[] c0 })
    (hR : ∀ (h' : Heap) (tk : Nat) (acc : Array Value) (c : Nat), (∀ b o, b ≠ S → b ≠ it → s.heap.get? b = some o → h'.get? b = some o) →
      h'.get? S = some { cls := .type "list", dict := none, data := .seq acc c, slots := #[] } → ItemsOf (fun i v => items[items.size - 1 - i]? = some v) acc items.size →
      R (.ok (.ret .none)) { s with heap := h', toks := tk }) :
    wpAny (model prog w) A.in1 (Builtin.List.listExtendWith (.ref S) (.ref it) .none)
      (fun fin s' => match fin with | .done f => R (.ok f) s' | .again c' => c'.quiet = true ∧ codeAny (model prog w) A c' R s') (fun e s' => R (.error e) s') s := by
  have walk := (Walks.listRev (prog := prog) (w := w) (A := A.in1) hh it l hne items).toS
  have hSf : S ∉ [it, l] := by simp [hSi, hSl]
  have ty : s.TypeIs (.ref it) "list_reverseiterator" := hi.typeIs
  unfold Builtin.List.listExtendWith
  refine wpAny_bind (wpAny_typeOf ty ?_)
  have n1 : Builtin.List.listSameRef (.ref S) (.ref it) = false := by simp [Builtin.List.listSameRef, hSi]
  rw [if_neg (by rw [n1]; decide)]
  refine wpAny_bind (wpAny_pyIter_revIter hi ?_)
  refine wpAny_bind (wpAny_holding ?_)
  unfold Builtin.List.listLengthHint
  refine wpAny_bind (wpAny_specialOf ty nolen_lri ?_)
  show wpAny _ A.in1 (specialOf (Value.ref it) (Str.ofString "__length_hint__") >>= _) _ _ _
  refine wpAny_bind (wpAny_specialOf ty hint_lri ?_)
  generalize hid : ("list_reverseiterator.__length_hint__" : String) = nm
  wp_delta
  rw [show splitId nm = some ("list_reverseiterator", "__length_hint__") from by subst hid; decide +kernel]
  subst hid
  refine wpAny_bind (wpAny_isInstance (b := true) ty (by rw [isSubtype_type]; kernel_rfl) ?_)
  refine wpAny_pure ?_
  rw [if_neg (by decide)]
  have e0 : ((items.size : Nat) : Int) - 1 - ((0 : Nat) : Int) = (items.size : Int) - 1 := by omega
  refine wpAny_pure ⟨plainId_quiet F.plain_extend_loop _, ?_⟩
  refine codeAny_extend_loopS walk hn S hSf .none items.size 0 s #[] c0 rfl (Nat.zero_le _) ⟨Nat.zero_le _, by rw [e0]; exact hi, hl⟩ hS (ItemsOf.nil _) ?_
  intro s' acc c hm hS' hacc
  rw [Moved.eq_with hm]
  refine hR s'.heap s'.toks acc c (fun b o hb hb2 e => hm.heap b o (fun hmem => ?_) e) hS' hacc
  rcases List.mem_cons.mp hmem with q | q
  · exact hb q
  · exact hb2 (List.mem_singleton.mp q)

/-- list of such an iterator -/
theorem list_rev {Q : Value → Shared → Prop} {it l : Addr} {items : Array Value} (hh : A.handled = none) (hi : s.heap.IsRevIter it l ((items.size : Int) - 1))
    (hl : s.heap.IsList l items) (hne : l ≠ it) (hn : items.size ≤ sizeLine)
    (hQ : ∀ (h' : Heap) (tk : Nat) (acc : Array Value) (c : Nat), (∀ b o, b ≠ it → s.heap.get? b = some o → h'.get? b = some o) →
      h'.get? s.heap.objs.size = some { cls := .type "list", dict := none, data := .seq acc c, slots := #[] } →
      ItemsOf (fun i v => items[items.size - 1 - i]? = some v) acc items.size → Q (.ref s.heap.objs.size) { s with heap := h', toks := tk }) :
    wpAny (model prog w) A (call (.type "list") [.ref it]) Q E s := by
  refine callType_codes (Q₁ := fun obj s₁ => obj = .ref s.heap.objs.size ∧ s₁ = { s with heap := s.heap.push { cls := .type "list", data := .seq #[] } })
    F.called_list (F.typeCall_list_1 _) F.entry_list_init (code_list_new _ ⟨rfl, rfl⟩) fun obj s₁ h₁ => ?_
  obtain ⟨rfl, rfl⟩ := h₁
  have new : (s.heap.push { cls := .type "list", data := .seq #[] }).get? s.heap.objs.size = some { cls := .type "list", data := .seq #[] } := Heap.get?_push_size _ rfl
  obtain ⟨oi, hoi, _⟩ := id hi
  obtain ⟨ol, hol, _⟩ := id hl
  have nI : s.heap.objs.size ≠ it := Nat.ne_of_gt (Heap.lt_size hoi)
  have nL : s.heap.objs.size ≠ l := Nat.ne_of_gt (Heap.lt_size hol)
  refine ⟨⟨_, new, rfl⟩, F.args_list_init_2 _ _, ?_⟩
  show wpAny _ _ (do
    let old ← Builtin.List.listItems (.ref s.heap.objs.size)
    Builtin.List.listUpdate (.ref s.heap.objs.size) (fun _ => #[])
    letGo old.toList.reverse
    Builtin.List.listExtendWith (.ref s.heap.objs.size) (.ref it) .none) _ _ _
  refine wpAny_bind ?_
  unfold Builtin.List.listItems
  refine wpAny_bind (wpAny_seqItems new rfl (wpAny_pure ?_))
  show wpAny _ _ (updateSeq s.heap.objs.size (fun _ => #[]) >>= fun _ => letGo (#[] : Array Value).toList.reverse >>= fun _ =>
    Builtin.List.listExtendWith (.ref s.heap.objs.size) (.ref it) .none) _ _ _
  refine wpAny_bind (wpAny_updateSeq new rfl ?_)
  have new2 := Heap.get?_update_self (Obj.mapSeq (fun _ => (#[] : Array Value))) new rfl
  have other : ∀ b o, b ≠ s.heap.objs.size → s.heap.get? b = some o →
      ((s.heap.push { cls := .type "list", data := .seq #[] }).update s.heap.objs.size (Obj.mapSeq (fun _ => (#[] : Array Value)))).get? b = some o :=
    fun b o hb e => (Heap.get?_update_other _ _ (Ne.symm hb)).trans (Heap.get?_push_of_some _ e)
  refine wpAny_bind (wpAny_letGo ?_)
  refine fill_rev (A := A.in1) hh (hi.at fun o e => other _ o (Ne.symm nI) e) (hl.at fun o e => other _ o (Ne.symm nL) e) hne hn nI nL new2 ?_
  intro h' tk acc c keep at' items'
  exact ⟨rfl, hQ h' tk acc c (fun b o hb e => keep b o (Nat.ne_of_lt (Heap.lt_size e)) hb (other b o (Nat.ne_of_lt (Heap.lt_size e)) e)) at' items'⟩
end
/-- list(reversed(x)), x a list: a new list -/
def tLstRev (K : PySem.W.Frag) (te : TE) : TE := fun σ H Q => te σ H fun v H1 => ∃ (a : Addr) (xs : List V), v = .ref a ∧ SqL K H1 a xs ∧ ∀ q, H1 q = none → Q (.ref q) (upd H1 q (.lst xs.reverse))
section
variable {X : Cx}
theorem pe_lstRev {e : Expr} {te : TE} {p p2 pos pos2 : Pos} (hc : X.calm = true) (hg : Gl X "list") (hm : X.mg "list" = none) (hg2 : Gl X "reversed") (hm2 : X.mg "reversed" = none) (he : PE X e te)
    (hs : starEach [e] X.env = (false, eval e X.env) :: starEach [] X.env := by rfl)
    (hs2 : starEach [.Call (.Name "reversed" p2) [e] [] pos2] X.env = (false, eval (.Call (.Name "reversed" p2) [e] [] pos2) X.env) :: starEach [] X.env := by rfl) :
    PE X (.Call (.Name "list" p) [.Call (.Name "reversed" p2) [e] [] pos2] [] pos) (tLstRev X.K te) := by
  refine ⟨fun pins s σ H Q I h => ?_⟩
  refine Call_ (ld_blt I hg hm PyProof.Rows.boot_list (PyProof.Rows.callWith_type1 (args_cons (Call_ (ld_blt I hg2 hm2 PyProof.Rows.boot_reversed
    (PyProof.Rows.callWith_type1 (args_cons (thn (he.run pins s σ H _ I h) fun u s1 ⟨v, H1, I1, r1, q1⟩ => args_nil ?_) hs) hs rfl))) hs2) hs2 rfl))
  obtain ⟨a, xs, ev, hq, q⟩ := q1
  subst ev
  obtain rfl : u = Value.ref a := r1
  obtain ⟨its, rv, at', hz⟩ := I1.list hq
  refine call_reversed_list at'.isList (args_nil ?_)
  have isL := at'.isList
  obtain ⟨ol, hol, _⟩ := id isL
  have ne : a ≠ s1.heap.objs.size := Nat.ne_of_lt (Heap.lt_size hol)
  have hn : its.toArray.size ≤ sizeLine := by
    rw [List.size_toArray, ← rv.length]
    exact hz
  have I2 : Inv X pins σ H1 { s1 with heap := s1.heap.push (revObj a ((its.toArray.size : Int) - 1)) } :=
    I1.kept (t' := s1.toks) fun b o e => Heap.get?_push_of_some _ e
  obtain ⟨f0, f1, f2, f3, f4, f5⟩ := I1.fpOk (H' := H1) (b := s1.heap.objs.size) (Nat.le_refl _) (I1.hok.fresh (Nat.le_refl _))
  refine list_rev (s := { s1 with heap := s1.heap.push (revObj a ((its.toArray.size : Int) - 1)) }) (I1.ok.hd hc) ⟨_, Heap.get?_push_size _ rfl, rfl, rfl⟩ (isL.push _) ne hn ?_
  intro h' tk acc c keep at2 items
  have big : s1.heap.objs.size ≤ (s1.heap.push (revObj a ((its.toArray.size : Int) - 1))).objs.size := by
    rw [size_push']
    exact Nat.le_succ _
  have all : ∀ b o, s1.heap.get? b = some o → h'.get? b = some o := fun b o e =>
    keep b o (Nat.ne_of_lt (Heap.lt_size e)) (Heap.get?_push_of_some _ e)
  refine ⟨.ref _, upd H1 _ (.lst xs.reverse), I1.laid (t' := tk) all big (show ObjOk X.prog X.w _ _ _ (.lst xs.reverse) from
    ⟨by rw [List.length_reverse]; exact hz, acc.toList, c, vals_rev rv items, ?_⟩), rfl, q _ (I1.hok.fresh big)⟩
  rw [Array.toArray_toList]
  exact at2
end
end Pw
end

section
namespace Pw
open PySem PySem.Spec PyProof.Rows L2
open PySem.W (EachIs)
/-- sorted of a list of pairs -/
def rSortL (K : PySem.W.Frag) : List V → Hp → VK → Prop := fun vs H Q =>
  ∃ (a : Addr) (L : List (Addr × List Int)), vs = [V.ref a] ∧ SqL K H a (L.map fun q => V.ref q.1) ∧ L.length ≤ 100000 ∧
    (∀ p ∈ L, SqT K H p.1 (p.2.map V.int) ∧ p.2.length = 2) ∧
    ∀ (M : List (Addr × List Int)) (p : Addr), M.Perm L → M.Pairwise leP → H p = none → Q (.ref p) (upd H p (.lst (M.map fun q => V.ref q.1)))
theorem vals_refs (L : List (Addr × List Int)) : ∀ {its : List Value}, Vals (L.map fun q => V.ref q.1) its → its = L.map fun q => Value.ref q.1 := by
  induction L with
  | nil => intro its r; cases r; rfl
  | cons q L ih =>
    intro its r
    cases r with
    | cons h t =>
      cases h
      rw [ih t]
      rfl
section
variable {X : Cx}
theorem cr_sortL (hu : X.A.units + 64 < cLine) : CallR X (.builtin "sorted") (rSortL X.K) := by
  intro pins s σ H vs us Q I r h
  obtain ⟨a, L, rfl, hs, hl5, hel, q⟩ := h
  obtain ⟨its, rv, hl, _⟩ := I.list hs
  rw [Vals.ref1 r]
  have ev := vals_refs L rv
  have big : (100000 : Nat) ≤ sizeLine := by decide
  have same1 : EachIs (fun v q => v = Value.ref q.1) its L := by rw [ev]; exact each_refs L
  have same2 : EachIs (fun v q => ∃ as, Reads s.heap v (encP q) as) its L := by
    rw [ev]
    exact each_of (Rr := fun v q => ∃ as, Reads s.heap v (encP q) as) (L := L) fun q hq => ⟨[], reads_pair (tupInts_of (P := X.prog) (w := X.w) (I.isT (hel q hq).1)) (hel q hq).2⟩
  refine PySem.W.sorted_data (bs := L) (enc := encP) (R := fun v q => v = Value.ref q.1) hl.isList same1 same2 ?_ ?_ (by omega) ?_ fun out ho eo => ?_
  · intro d hd d' hd'
    obtain ⟨x, _, rfl⟩ := List.mem_map.1 hd
    obtain ⟨y, _, rfl⟩ := List.mem_map.1 hd'
    rfl
  · left
    intro d hd
    obtain ⟨x, _, rfl⟩ := List.mem_map.1 hd
    exact ⟨_, _, rfl⟩
  · intro b _
    have d2 : (encP b).depth ≤ 4 := by
      show PyData.depth (.tuple [.int (fst2 b), .int (snd2 b)]) ≤ 4
      simp [PyData.depth, PyData.depthAll]
    omega
  · have eout := refs_each eo
    have srt : (L.mergeSort (PySem.W.dataLe false encP)).Pairwise leP := by
      have := List.pairwise_mergeSort (le := PySem.W.dataLe false encP) (by
        intro p q r
        rw [le_same]
        simp only [decide_eq_true_eq]
        omega) (by
        intro p q
        rw [le_same]
        simp only [Bool.or_eq_true, decide_eq_true_eq]
        omega) L
      refine this.imp fun {p q} h => ?_
      rw [le_same] at h
      have h' : decide (fst2 p < fst2 q ∨ (fst2 p = fst2 q ∧ snd2 p ≤ snd2 q)) = true := h
      have h3 := of_decide_eq_true h'
      exact h3
    have pm := List.mergeSort_perm L (PySem.W.dataLe false encP)
    generalize L.mergeSort (PySem.W.dataLe false encP) = M at eout srt pm
    obtain ⟨ep, he'⟩ := PyProof.Rows.sortedAll_at s.heap its out.toArray
    have hlen : (M.map fun q => V.ref q.1).length ≤ sizeLine := by rw [List.length_map, pm.length_eq]; omega
    exact ⟨.ref _, upd H (s.heap.objs.size + 1) (.lst (M.map fun q => V.ref q.1)), I.laid (t' := s.toks) (fun _ _ => PyProof.Rows.sortedAll_old) (Nat.le_succ _) ⟨hlen, out.toArray.toList, ep, by rw [show out.toArray.toList = out from rfl, eout]; exact vals_of_refs M, he'⟩, rfl, q M _ pm srt (I.hok.fresh (Nat.le_succ _))⟩
end
end Pw
end

section
namespace Pw
open PySem PySem.Spec PyProof.Rows L2
/-! ### enumerate(zip(xs, ys)): zip's pairs are kept by the loop, so that zip's own tuple is at times free, at times not -/
/-- zip's fields: its last tuple, and whether that was seen to be held -/
abbrev ZipF (h : Heap) (z TI TO : Addr) (v : Value) (b : Bool) : Prop :=
  h.get? z = some { cls := .type "zip", dict := none, data := .fields #[v, .bool b, .bool false, .ref TI, .ref TO], slots := #[] }
section
variable {prog : Program} {w : World} {A : Around} {E : Value → Shared → Prop} {s : Shared}
theorem look_dead {a : Addr} {Q : Option Obj → Shared → Prop} (dead : s.heap.get? a = none) (q : Q none s) : wpAny (model prog w) A (loadIfAlive a) Q E s := by
  have q' : Q (s.heap.get? a) s := by rw [dead]; exact q
  exact fun _ _ _ => q'
theorem free_dead {z TI TO T : Addr} {b : Bool} {Q : Bool → Shared → Prop} (hz : ZipF s.heap z TI TO (rawInt T) b) (dead : s.heap.get? T = none) (q : Q true s) :
    wpAny (model prog w) A (Builtin.SmallTypes.ownedTupleIsFree (.ref z)) Q E s := by
  unfold Builtin.SmallTypes.ownedTupleIsFree
  refine wpAny_bind (wpAny_field hz rfl (x := rawInt T) rfl ?_)
  show wpAny _ _ (loadIfAlive ((T : Int).toNat) >>= _) _ _ _
  rw [Int.toNat_natCast]
  refine wpAny_bind (look_dead dead ?_)
  simp only [Option.isNone_none, if_true]
  exact wpAny_pure q
/-- the next pair, where zip's last tuple has gone -/
theorem zip_dead {z TI TO T i1 i2 l1 l2 : Addr} {b : Bool} {m n : Nat} {xs ys : Array Value} {x y c d : Value} {Q : Value → Shared → Prop} (D : ZipApart z TI TO i1 i2 l1 l2)
    (hz : ZipF s.heap z TI TO (rawInt T) b) (dead : s.heap.get? T = none) (pTI : IsPair s.heap TI (.ref i1) (.ref i2)) (pTO : IsPair s.heap TO c d)
    (j1 : s.heap.IsListIter i1 l1 m) (j2 : s.heap.IsListIter i2 l2 n) (q1 : s.heap.IsList l1 xs) (q2 : s.heap.IsList l2 ys) (hx : xs[m]? = some x) (hy : ys[n]? = some y)
    (fin : ∀ g, ZipF g z TI TO (rawInt s.heap.objs.size) false → IsPair g TO x y → g.IsListIter i1 l1 (m + 1) → g.IsListIter i2 l2 (n + 1) → IsPair g s.heap.objs.size x y → g.objs.size = s.heap.objs.size + 1 →
      (∀ a o, a ≠ z → a ≠ TO → a ≠ i1 → a ≠ i2 → s.heap.get? a = some o → g.get? a = some o) → Q (.ref s.heap.objs.size) { s with heap := g }) :
    wpAny (model prog w) A (Builtin.«zip.__next__» ⟨[.ref z], []⟩) (fun r s' => ∃ v, r = .done (.ret v) ∧ Q v s') E s := by
  show wpAny _ _ (field (.ref z) 2 >>= _) _ _ _
  refine wpAny_bind (wpAny_field hz rfl (x := .bool false) rfl ?_)
  show wpAny _ _ (field (.ref z) 3 >>= _) _ _ _
  refine wpAny_bind (wpAny_field hz rfl (x := .ref TI) rfl ?_)
  refine wpAny_bind (wpAny_seqItems pTI rfl ?_)
  show wpAny _ _ (Builtin.SmallTypes.ownedTupleIsFree (.ref z) >>= _) _ _ _
  refine wpAny_bind (free_dead hz dead ?_)
  simp only [if_true]
  refine wpAny_bind (wpAny_rule ?_)
  refine wpAny_bind (wpAny_field hz rfl (x := .ref TO) rfl ?_)
  refine wpAny_bind (wpAny_setField_rec hz (by simp) fun g1 z1 e1 => ?_)
  replace z1 : ZipF g1 z TI TO .ellipsis b := z1
  refine wpAny_bind ?_
  simp only [List.zipIdx_cons, List.zipIdx_nil, List.forIn_cons, List.forIn_nil]
  refine wpAny_bind (wpAny_bind (wpAny_onRaise ?_))
  show wpAny _ _ (Builtin.SmallTypes.nextOf (.ref i1) >>= _) _ _ _
  refine wpAny_bind (wpAny_nextOf_list_item (j1.extBut e1.extBut D.i1z) (q1.extBut e1.extBut D.l1z) hx fun g2 t1 e2 => wpAny_pure ?_)
  have p2 : IsPair g2 TO c d := e2.extBut _ _ D.TOi1 (e1.extBut _ _ D.TOz pTO)
  refine wpAny_bind (wpAny_seqItems p2 rfl ?_)
  refine wpAny_bind (wpAny_updateSeq_pair p2 fun g3 p3 e3 => ?_)
  replace p3 : IsPair g3 TO x d := p3
  refine wpAny_bind (wpAny_letGo (wpAny_pure ?_))
  refine wpAny_bind (wpAny_bind (wpAny_onRaise ?_))
  show wpAny _ _ (Builtin.SmallTypes.nextOf (.ref i2) >>= _) _ _ _
  have j2' := ((j2.extBut e1.extBut D.i2z).extBut e2.extBut D.i12.symm).extBut e3.extBut D.TOi2.symm
  have q2' := ((q2.extBut e1.extBut D.l2z).extBut e2.extBut D.l2i1).extBut e3.extBut D.l2TO
  refine wpAny_bind (wpAny_nextOf_list_item j2' q2' hy fun g4 t2 e4 => wpAny_pure ?_)
  have p4 : IsPair g4 TO x d := e4.extBut _ _ D.TOi2 p3
  refine wpAny_bind (wpAny_seqItems p4 rfl ?_)
  refine wpAny_bind (wpAny_updateSeq_pair p4 fun g5 p5 e5 => ?_)
  replace p5 : IsPair g5 TO x y := p5
  refine wpAny_bind (wpAny_letGo (wpAny_pure (wpAny_pure ?_)))
  refine wpAny_bind (wpAny_seqItems p5 rfl ?_)
  refine wpAny_bind (wpAny_newTuple ?_)
  have sz : g5.objs.size = s.heap.objs.size := by rw [e5.1, e4.1, e3.1, e2.1, e1.1]
  have z5 : ZipF g5 z TI TO .ellipsis b := e5.extBut _ _ D.TOz.symm (e4.extBut _ _ D.i2z.symm (e3.extBut _ _ D.TOz.symm (e2.extBut _ _ D.i1z.symm z1)))
  have all5 : ∀ a o, a ≠ z → a ≠ TO → a ≠ i1 → a ≠ i2 → s.heap.get? a = some o → g5.get? a = some o := fun a o n1 n2 n3 n4 e =>
    e5.extBut _ _ n2 (e4.extBut _ _ n4 (e3.extBut _ _ n2 (e2.extBut _ _ n3 (e1.extBut _ _ n1 e))))
  have u1 : g5.IsListIter i1 l1 (m + 1) := ((t1.extBut e3.extBut D.TOi1.symm).extBut e4.extBut D.i12).extBut e5.extBut D.TOi1.symm
  have u2 : g5.IsListIter i2 l2 (n + 1) := t2.extBut e5.extBut D.TOi2.symm
  have zlt : z < g5.objs.size := Heap.lt_size z5
  show wpAny _ _ (Builtin.SmallTypes.ownedTupleHandOut (.ref z) (.ref g5.objs.size) >>= _) _ _ _
  refine wpAny_bind ?_
  unfold Builtin.SmallTypes.ownedTupleHandOut
  have z6 : ZipF (g5.push { cls := .type "tuple", data := .seq #[x, y] }) z TI TO .ellipsis b := Heap.get?_push_of_some _ z5
  refine wpAny_bind (wpAny_setField_rec z6 (by simp) fun g7 z7 e7 => ?_)
  replace z7 : ZipF g7 z TI TO (rawInt g5.objs.size) b := z7
  refine wpAny_setField_rec z7 (by simp) fun g8 z8 e8 => ?_
  replace z8 : ZipF g8 z TI TO (rawInt g5.objs.size) false := z8
  have up8 : ∀ a o, a ≠ z → g5.get? a = some o → g8.get? a = some o := fun a o n1 e => e8.extBut _ _ n1 (e7.extBut _ _ n1 (Heap.get?_push_of_some _ e))
  have p8 : IsPair g8 g5.objs.size x y := e8.extBut _ _ (Nat.ne_of_gt zlt) (e7.extBut _ _ (Nat.ne_of_gt zlt) (Heap.get?_push_size _ rfl))
  have s8 : g8.objs.size = g5.objs.size + 1 := by rw [e8.1, e7.1, Heap.size_push]
  rw [sz] at z8 p8 s8
  refine wpAny_pure ⟨_, rfl, ?_⟩
  show Q (.ref g5.objs.size) _
  rw [sz]
  exact fin g8 z8 (up8 _ _ D.TOz p5) (u1.at fun o e => up8 _ o D.i1z e) (u2.at fun o e => up8 _ o D.i2z e) p8 s8 fun a o n1 n2 n3 n4 e => up8 a o n1 (all5 a o n1 n2 n3 n4 e)
/-- its end -/
theorem zip_dead_end {z TI TO T i1 i2 l1 l2 : Addr} {b : Bool} {m n : Nat} {xs ys : Array Value} {c d : Value} {Q : Fin → Shared → Prop} (hh : A.handled = none) (D : ZipApart z TI TO i1 i2 l1 l2)
    (hz : ZipF s.heap z TI TO (rawInt T) b) (dead : s.heap.get? T = none) (pTI : IsPair s.heap TI (.ref i1) (.ref i2)) (pTO : IsPair s.heap TO c d)
    (j1 : s.heap.IsListIter i1 l1 m) (j2 : s.heap.IsListIter i2 l2 n) (q1 : s.heap.IsList l1 xs) (q2 : s.heap.IsList l2 ys) (he : xs[m]? = none ∨ ys[n]? = none)
    (fin : ∀ g e, (∀ a o, a ≠ z → a ≠ TO → a ≠ i1 → a ≠ i2 → s.heap.get? a = some o → g.get? a = some o) → (∃ o, g.get? e = some o ∧ o.cls = .type "StopIteration") → E (.ref e) { s with heap := g }) :
    wpAny (model prog w) A (Builtin.«zip.__next__» ⟨[.ref z], []⟩) Q E s := by
  show wpAny _ _ (field (.ref z) 2 >>= _) _ _ _
  refine wpAny_bind (wpAny_field hz rfl (x := .bool false) rfl ?_)
  show wpAny _ _ (field (.ref z) 3 >>= _) _ _ _
  refine wpAny_bind (wpAny_field hz rfl (x := .ref TI) rfl ?_)
  refine wpAny_bind (wpAny_seqItems pTI rfl ?_)
  show wpAny _ _ (Builtin.SmallTypes.ownedTupleIsFree (.ref z) >>= _) _ _ _
  refine wpAny_bind (free_dead hz dead ?_)
  simp only [if_true]
  refine wpAny_bind (wpAny_rule ?_)
  refine wpAny_bind (wpAny_field hz rfl (x := .ref TO) rfl ?_)
  refine wpAny_bind (wpAny_setField_rec hz (by simp) fun g1 z1 e1 => ?_)
  replace z1 : ZipF g1 z TI TO .ellipsis b := z1
  refine wpAny_bind ?_
  simp only [List.zipIdx_cons, List.zipIdx_nil, List.forIn_cons, List.forIn_nil]
  refine wpAny_bind (wpAny_bind (wpAny_onRaise ?_))
  show wpAny _ _ (Builtin.SmallTypes.nextOf (.ref i1) >>= _) _ _ _
  cases hx : xs[m]? with
  | none =>
    refine wpAny_bind (wpAny_nextOf_list_end hh (j1.extBut e1.extBut D.i1z) (q1.extBut e1.extBut D.l1z) hx fun g2 r e2 ex => ?_)
    obtain ⟨oe, ge, ce⟩ := ex
    have z2 : ZipF g2 z TI TO .ellipsis b := e2 _ _ D.i1z.symm z1
    have rz : r ≠ z := fun t => by subst t; rw [z2] at ge; cases ge; simp at ce
    refine wpAny_setField_rec z2 (by simp) fun g3 _ e3 => fin g3 r (fun a o n1 _ n3 _ t => e3.extBut _ _ n1 (e2 _ _ n3 (e1.extBut _ _ n1 t))) ⟨oe, e3.extBut _ _ rz ge, ce⟩
  | some x =>
    have hy : ys[n]? = none := by rcases he with h | h; rw [hx] at h; cases h; exact h
    refine wpAny_bind (wpAny_nextOf_list_item (j1.extBut e1.extBut D.i1z) (q1.extBut e1.extBut D.l1z) hx fun g2 t1 e2 => wpAny_pure ?_)
    have p2 : IsPair g2 TO c d := e2.extBut _ _ D.TOi1 (e1.extBut _ _ D.TOz pTO)
    refine wpAny_bind (wpAny_seqItems p2 rfl ?_)
    refine wpAny_bind (wpAny_updateSeq_pair p2 fun g3 p3 e3 => ?_)
    refine wpAny_bind (wpAny_letGo (wpAny_pure ?_))
    refine wpAny_bind (wpAny_bind (wpAny_onRaise ?_))
    show wpAny _ _ (Builtin.SmallTypes.nextOf (.ref i2) >>= _) _ _ _
    have j2' := ((j2.extBut e1.extBut D.i2z).extBut e2.extBut D.i12.symm).extBut e3.extBut D.TOi2.symm
    have q2' := ((q2.extBut e1.extBut D.l2z).extBut e2.extBut D.l2i1).extBut e3.extBut D.l2TO
    refine wpAny_bind (wpAny_nextOf_list_end hh j2' q2' hy fun g4 r e4 ex => ?_)
    obtain ⟨oe, ge, ce⟩ := ex
    have z4 : ZipF g4 z TI TO .ellipsis b := e4 _ _ D.i2z.symm (e3.extBut _ _ D.TOz.symm (e2.extBut _ _ D.i1z.symm z1))
    have rz : r ≠ z := fun t => by subst t; rw [z4] at ge; cases ge; simp at ce
    refine wpAny_setField_rec z4 (by simp) fun g5 _ e5 => fin g5 r (fun a o n1 n2 n3 n4 t => e5.extBut _ _ n1 (e4 _ _ n4 (e3.extBut _ _ n2 (e2.extBut _ _ n3 (e1.extBut _ _ n1 t))))) ⟨oe, e5.extBut _ _ rz ge, ce⟩
/-- how zip may stand between two turns -/
structure ZipAt (h : Heap) (z TI TO i1 i2 l1 l2 : Addr) (n : Nat) : Prop where
  z : ∃ v b, ZipF h z TI TO v b ∧ ((v = .none ∧ b = false) ∨ ∃ T : Addr, v = rawInt T)
  ti : IsPair h TI (.ref i1) (.ref i2)
  to : ∃ c d, IsPair h TO c d
  i1 : h.IsListIter i1 l1 n
  i2 : h.IsListIter i2 l2 n
theorem zip_any {z TI TO i1 i2 l1 l2 : Addr} {n : Nat} {xs ys : Array Value} {x y : Value} {Q : Value → Shared → Prop} (D : ZipApart z TI TO i1 i2 l1 l2)
    (S : ZipAt s.heap z TI TO i1 i2 l1 l2 n) (q1 : s.heap.IsList l1 xs) (q2 : s.heap.IsList l2 ys) (hx : xs[n]? = some x) (hy : ys[n]? = some y)
    (fin : ∀ g, ZipAt g z TI TO i1 i2 l1 l2 (n + 1) → IsPair g s.heap.objs.size x y → g.objs.size = s.heap.objs.size + 1 →
      (∀ a o, a ≠ z → a ≠ TO → a ≠ i1 → a ≠ i2 → s.heap.get? a = some o → g.get? a = some o) → Q (.ref s.heap.objs.size) { s with heap := g }) :
    wpAny (model prog w) A (Builtin.SmallTypes.nextOf (.ref z)) Q E s := by
  obtain ⟨v, b, hz, hv⟩ := S.z
  obtain ⟨c, d, pTO⟩ := S.to
  have hT : s.TypeIs (.ref z) "zip" := ⟨_, hz, rfl⟩
  unfold Builtin.SmallTypes.nextOf
  refine wpAny_bind (wpAny_callSpecial?_slot (name := Str.ofString "__next__") hT F.slot_zip_next (wpAny_call_entry F.slot_zip_next hT F.entry_zip_next ?_ (F.args_zip_next_1 _)))
  have fin' : ∀ g, ZipAt g z TI TO i1 i2 l1 l2 (n + 1) → IsPair g s.heap.objs.size x y → g.objs.size = s.heap.objs.size + 1 →
      (∀ a o, a ≠ z → a ≠ TO → a ≠ i1 → a ≠ i2 → s.heap.get? a = some o → g.get? a = some o) →
      wpAny (model prog w) A (pure (Value.ref s.heap.objs.size) : Sem Value) Q E { s with heap := g } := fun g a1 a2 a3 a4 => wpAny_pure (fin g a1 a2 a3 a4)
  rcases hv with ⟨rfl, rfl⟩ | ⟨T, rfl⟩
  · refine zip_next_item D hz S.ti pTO S.i1 S.i2 q1 q2 hx hy fun g z' p1 t1 t2 p2 sz k => ?_
    exact fin' g ⟨⟨_, _, z', .inr ⟨_, rfl⟩⟩, k _ _ D.TIz D.TITO D.TIi1 D.TIi2 S.ti, ⟨_, _, p1⟩, t1, t2⟩ p2 sz k
  · cases hl : s.heap.get? T with
    | some o =>
      refine zip_next_item_held D hz hl S.ti S.i1 S.i2 q1 q2 hx hy fun g z' t1 t2 p2 sz k => ?_
      exact fin' g ⟨⟨_, _, z', .inr ⟨_, rfl⟩⟩, k _ _ D.TIz D.TIi1 D.TIi2 S.ti, ⟨_, _, k _ _ D.TOz D.TOi1 D.TOi2 pTO⟩, t1, t2⟩ p2 sz fun a o n1 _ n3 n4 e => k a o n1 n3 n4 e
    | none =>
      refine zip_dead D hz hl S.ti pTO S.i1 S.i2 q1 q2 hx hy fun g z' p1 t1 t2 p2 sz k => ?_
      exact fin' g ⟨⟨_, _, z', .inr ⟨_, rfl⟩⟩, k _ _ D.TIz D.TITO D.TIi1 D.TIi2 S.ti, ⟨_, _, p1⟩, t1, t2⟩ p2 sz k
theorem zip_any_end {z TI TO i1 i2 l1 l2 : Addr} {n : Nat} {xs ys : Array Value} {Q : Value → Shared → Prop} (hh : A.handled = none) (D : ZipApart z TI TO i1 i2 l1 l2)
    (S : ZipAt s.heap z TI TO i1 i2 l1 l2 n) (q1 : s.heap.IsList l1 xs) (q2 : s.heap.IsList l2 ys) (he : xs[n]? = none ∨ ys[n]? = none)
    (fin : ∀ g e, (∀ a o, a ≠ z → a ≠ TO → a ≠ i1 → a ≠ i2 → s.heap.get? a = some o → g.get? a = some o) → (∃ o, g.get? e = some o ∧ o.cls = .type "StopIteration") → E (.ref e) { s with heap := g }) :
    wpAny (model prog w) A (Builtin.SmallTypes.nextOf (.ref z)) Q E s := by
  obtain ⟨v, b, hz, hv⟩ := S.z
  obtain ⟨c, d, pTO⟩ := S.to
  have hT : s.TypeIs (.ref z) "zip" := ⟨_, hz, rfl⟩
  unfold Builtin.SmallTypes.nextOf
  refine wpAny_bind (wpAny_callSpecial?_slot (name := Str.ofString "__next__") hT F.slot_zip_next (wpAny_call_entry F.slot_zip_next hT F.entry_zip_next ?_ (F.args_zip_next_1 _)))
  rcases hv with ⟨rfl, rfl⟩ | ⟨T, rfl⟩
  · exact zip_next_end hh D hz S.ti pTO S.i1 S.i2 q1 q2 he fin
  · cases hl : s.heap.get? T with
    | some o => exact zip_next_end_held hh D hz hl S.ti S.i1 S.i2 q1 q2 he fun g e k => fin g e fun a o n1 _ n3 n4 => k a o n1 n3 n4
    | none => exact zip_dead_end hh D hz hl S.ti pTO S.i1 S.i2 q1 q2 he fin
end
end Pw
end

section
namespace Pw
open PySem PySem.Spec PyProof.Rows L2
section
variable {prog : Program} {w : World} {A : Around} {E : Value → Shared → Prop} {s : Shared}
/-- enumerate's turn over any iterator: what follows is asked behind the iterator's own turn -/
theorem enum_gen {e it : Addr} {c : Int} {old : Value} {Q : Value → Shared → Prop} (he : IsEnum s.heap e it c old)
    (h : wpAny (model prog w) A (Builtin.SmallTypes.nextOf (.ref it)) (fun x s1 => IsEnum s1.heap e it c old ∧ ∀ g, IsEnumOut g e it (c + 1) x s1.heap.objs.size →
      g.get? s1.heap.objs.size = some { cls := .type "tuple", data := .seq #[.int c s1.toks, x] } → g.objs.size = s1.heap.objs.size + 1 →
      (∀ b o, b ≠ e → s1.heap.get? b = some o → g.get? b = some o) → Q (.ref s1.heap.objs.size) { s1 with heap := g, toks := s1.toks + 1 }) E s) :
    wpAny (model prog w) A (Builtin.«enumerate.__next__» ⟨[.ref e], []⟩) (fun r s' => ∃ v, r = .done (.ret v) ∧ Q v s') E s := by
  show wpAny _ _ (field (.ref e) 2 >>= _) _ _ _
  refine wpAny_bind (wpAny_field he rfl (x := .ref it) rfl ?_)
  refine wpAny_bind (thn h fun x s1 ⟨e1, fin⟩ => ?_)
  obtain ⟨hp, g, d, tk, os⟩ := s1
  replace e1 : IsEnum hp e it c old := e1
  replace fin : ∀ g', IsEnumOut g' e it (c + 1) x hp.objs.size → g'.get? hp.objs.size = some { cls := .type "tuple", data := .seq #[.int c tk, x] } → g'.objs.size = hp.objs.size + 1 →
    (∀ b o, b ≠ e → hp.get? b = some o → g'.get? b = some o) → Q (.ref hp.objs.size) ⟨g', g, d, tk + 1, os⟩ := fin
  show wpAny _ _ (field (.ref e) 3 >>= _) _ _ ⟨hp, g, d, tk, os⟩
  refine wpAny_bind (wpAny_field e1 rfl (x := rawInt c) rfl ?_)
  show wpAny _ _ (field (.ref e) 4 >>= _) _ _ ⟨hp, g, d, tk, os⟩
  refine wpAny_bind (wpAny_field e1 rfl (x := .none) rfl ?_)
  show wpAny _ _ (mkInt c >>= _) _ _ ⟨hp, g, d, tk, os⟩
  refine wpAny_bind (wpAny_mkInt ?_)
  show wpAny _ _ (setField (.ref e) 3 (rawInt (c + 1)) >>= _) _ _ ⟨hp, g, d, tk + 1, os⟩
  refine wpAny_bind (wpAny_setField_rec e1 (by simp) fun g2 e2 k2 => ?_)
  replace k2 : Heap.SameBut e hp g2 := k2
  replace e2 : IsEnum g2 e it (c + 1) old := e2
  show wpAny _ _ (setField (.ref e) 4 .none >>= _) _ _ ⟨g2, g, d, tk + 1, os⟩
  refine wpAny_bind (wpAny_setField_rec e2 (by simp) fun g3 e3 k3 => ?_)
  replace k3 : Heap.SameBut e g2 g3 := k3
  replace e3 : IsEnum g3 e it (c + 1) old := e3
  show wpAny _ _ (newTuple [.int c tk, x] >>= _) _ _ ⟨g3, g, d, tk + 1, os⟩
  refine wpAny_bind (wpAny_newTuple ?_)
  have e4 : IsEnum (g3.push { cls := .type "tuple", data := .seq #[.int c tk, x] }) e it (c + 1) old := Heap.get?_push_of_some _ e3
  generalize hg4 : g3.push { cls := .type "tuple", data := .seq #[.int c tk, x] } = g4 at e4
  have sz : g3.objs.size = hp.objs.size := by rw [k3.1, k2.1]
  have elt : e < hp.objs.size := Heap.lt_size e1
  have t4 : g4.get? hp.objs.size = some { cls := .type "tuple", data := .seq #[.int c tk, x] } := by rw [← hg4, ← sz]; exact Heap.get?_push_size _ rfl
  have z4 : g4.objs.size = hp.objs.size + 1 := by rw [← hg4, Heap.size_push, sz]
  have all4 : ∀ b o, b ≠ e → hp.get? b = some o → g4.get? b = some o := fun b o n q => by
    rw [← hg4]
    exact Heap.get?_push_of_some _ (k3.extBut b o n (k2.extBut b o n q))
  show wpAny _ _ (Builtin.SmallTypes.ownedTupleIsFree (.ref e) >>= _) _ _ ⟨g4, g, d, tk + 1, os⟩
  rw [sz]
  clear hg4 e3 k3 e2 k2 sz
  refine wpAny_bind ?_
  unfold Builtin.SmallTypes.ownedTupleIsFree
  refine wpAny_bind (wpAny_field e4 rfl (x := .none) rfl (wpAny_pure ?_))
  simp only [if_true]
  refine wpAny_bind (wpAny_rule ?_)
  refine wpAny_bind (wpAny_field e4 rfl (x := old) rfl ?_)
  refine wpAny_bind (wpAny_setField_rec e4 (by simp) fun g5 e5 k5 => ?_)
  replace k5 : Heap.SameBut e g4 g5 := k5
  replace e5 : IsEnum g5 e it (c + 1) x := e5
  show wpAny _ _ (Builtin.SmallTypes.ownedTupleHandOut (.ref e) (.ref hp.objs.size) >>= _) _ _ ⟨g5, g, d, tk + 1, os⟩
  refine wpAny_bind ?_
  unfold Builtin.SmallTypes.ownedTupleHandOut
  refine wpAny_bind (wpAny_setField_rec e5 (by simp) fun g6 e6 k6 => ?_)
  replace k6 : Heap.SameBut e g5 g6 := k6
  replace e6 : IsEnumOut g6 e it (c + 1) x hp.objs.size := e6
  refine wpAny_setField_rec e6 (by simp) fun g7 e7 k7 => ?_
  replace k7 : Heap.SameBut e g6 g7 := k7
  replace e7 : IsEnumOut g7 e it (c + 1) x hp.objs.size := e7
  refine wpAny_bind (wpAny_letGo (wpAny_pure ⟨_, rfl, fin g7 e7 ?_ ?_ ?_⟩))
  · exact k7.extBut _ _ (Nat.ne_of_gt elt) (k6.extBut _ _ (Nat.ne_of_gt elt) (k5.extBut _ _ (Nat.ne_of_gt elt) t4))
  · rw [k7.1, k6.1, k5.1, z4]
  · exact fun b o n q => k7.extBut b o n (k6.extBut b o n (k5.extBut b o n (all4 b o n q)))
theorem next_enum_gen {e it : Addr} {c : Int} {old : Value} {Q : Option Value → Shared → Prop} (he : IsEnum s.heap e it c old)
    (h : wpAny (model prog w) A.in1 (Builtin.SmallTypes.nextOf (.ref it)) (fun x s1 => IsEnum s1.heap e it c old ∧ ∀ g, IsEnumOut g e it (c + 1) x s1.heap.objs.size →
      g.get? s1.heap.objs.size = some { cls := .type "tuple", data := .seq #[.int c s1.toks, x] } → g.objs.size = s1.heap.objs.size + 1 →
      (∀ b o, b ≠ e → s1.heap.get? b = some o → g.get? b = some o) → Q (some (.ref s1.heap.objs.size)) { s1 with heap := g, toks := s1.toks + 1 })
      (fun x s1 => (∃ a o, x = .ref a ∧ s1.heap.get? a = some o ∧ o.cls = .type "StopIteration") ∧ Q none s1) s) :
    wpAny (model prog w) A (pyNext (.ref e)) Q E s := by
  have hT : s.TypeIs (.ref e) "enumerate" := ⟨_, he, rfl⟩
  unfold pyNext
  refine wpAny_bind (wpAny_attempt (wpAny_callSpecial?_slot (name := Str.ofString "__next__") hT F.slot_enumerate_next
    (wpAny_call_entry F.slot_enumerate_next hT F.entry_enumerate_next (wpAny_mono (enum_gen (E := fun x s1 => (∃ a o, x = .ref a ∧ s1.heap.get? a = some o ∧ o.cls = .type "StopIteration") ∧ Q none s1) (Q := fun v s' => Q (some v) s') he h)
      (fun r s' ⟨v, e1, q⟩ => ⟨v, e1, wpAny_pure q⟩) (fun x s1 ⟨⟨a, o, ex, ho, hc⟩, q⟩ => ?_)) (F.args_enumerate_next_1 _))))
  subst ex
  refine wpAny_bind (wpAny_isInstance (T := "StopIteration") (b := true) ⟨o, ho, hc⟩ isSubtype_stop ?_)
  exact wpAny_pure q
end
end Pw
end

section
namespace Pw
open PySem PySem.Spec PyProof.Rows L2
/-- what enumerate makes -/
def enumObj (z : Addr) : Obj := { cls := .type "enumerate", data := .fields #[.none, .bool false, .ref z, rawInt 0, .none, .none] }
theorem meets_enum_zip (z TI TO : Addr) :
    Meets (Builtin.«enumerate.__new__» ⟨[.type "enumerate", .ref z], []⟩) (fun _ R s => IsZip s.heap z TI TO .none ∧ R (.ok (.ret (.ref s.heap.objs.size))) { s with heap := s.heap.push (enumObj z) }) :=
  .of_wp fun prog w A R s h => by
    obtain ⟨hp, g, d, tk, os⟩ := s
    obtain ⟨hz, h⟩ := h
    have hsub := sub_enumerate
    have q1 : ∀ {A' : Around} {E : Value → Shared → Prop} {Q : Value → Shared → Prop}, Q (.ref z) ⟨hp, g, d, tk, os⟩ → wpAny (model prog w) A' (pyIter (.ref z)) Q E ⟨hp, g, d, tk, os⟩ :=
      fun q => wpAny_pyIter_zip (s := ⟨hp, g, d, tk, os⟩) hz q
    wp_walk using wpAny_loadPart' hz
    refine wpAny_stack_any fun st => wpAny_pure ?_
    split
    · rename_i c _ _ _ _ _
      cases (c == Value.type "enumerate")
      · wp_walk using wpAny_loadPart' hz, q1
        exact ⟨_, rfl, h⟩
      · wp_walk using wpAny_loadPart' hz, q1
        exact ⟨_, rfl, h⟩
    · wp_walk using wpAny_loadPart' hz, q1
      exact ⟨_, rfl, h⟩
section
variable {prog : Program} {w : World} {A : Around} {E : Value → Shared → Prop} {s : Shared}
theorem call_enum_zip {z TI TO : Addr} {Q : Value → Shared → Prop} (hz : IsZip s.heap z TI TO .none)
    (q : IsEnum (s.heap.push (enumObj z)) s.heap.objs.size z 0 .none → Q (.ref s.heap.objs.size) { s with heap := s.heap.push (enumObj z) }) :
    wpAny (model prog w) A (call (.type "enumerate") [.ref z]) Q E s := by
  refine callType_new F.called_enumerate (by decide) (F.typeCall_enumerate_1 _) (F.newCall_enumerate_1 _) (fun obj => F.args_object_init_2 obj _) F.entry_enumerate_new
    (meets_enum_zip z TI TO) ⟨hz, ?_⟩
  have he : IsEnum (s.heap.push (enumObj z)) s.heap.objs.size z 0 .none := Heap.get?_push_size _ rfl
  exact ⟨⟨_, he, rfl⟩, q he⟩
end
/-- the lists at a and b as they stand at each turn: the number, and the items in a pair of their own -/
def Itez (K : PySem.W.Frag) (a b : Addr) : It :=
  ⟨fun i H => ∃ (xs ys : List V) (x y : V), SqL K H a xs ∧ SqL K H b ys ∧ xs[i]? = some x ∧ ys[i]? = some y,
    fun i H v H' => ∃ T U x y, v = .ref T ∧ H U = none ∧ (upd H U (.tup [x, y])) T = none ∧ H' = upd (upd H U (.tup [x, y])) T (.tup [.int (i : Nat), .ref U]) ∧ (∀ xs, SqL K H a xs → xs[i]? = some x) ∧ ∀ ys, SqL K H b ys → ys[i]? = some y,
    fun i H => ∃ xs ys : List V, SqL K H a xs ∧ SqL K H b ys ∧ (xs.length ≤ i ∨ ys.length ≤ i)⟩
theorem zipAt_keep {h h' : Heap} {z TI TO i1 i2 a b : Addr} {n : Nat} (S : ZipAt h z TI TO i1 i2 a b n) (k : ∀ c o, (c = z ∨ c = TI ∨ c = TO ∨ c = i1 ∨ c = i2) → h.get? c = some o → h'.get? c = some o) : ZipAt h' z TI TO i1 i2 a b n := by
  obtain ⟨v, f, hz, hv⟩ := S.z
  obtain ⟨c, d, p⟩ := S.to
  exact ⟨⟨v, f, k _ _ (.inl rfl) hz, hv⟩, k _ _ (.inr (.inl rfl)) S.ti, ⟨c, d, k _ _ (.inr (.inr (.inl rfl))) p⟩, S.i1.at fun o q => k _ o (.inr (.inr (.inr (.inl rfl)))) q, S.i2.at fun o q => k _ o (.inr (.inr (.inr (.inr rfl)))) q⟩
theorem turn_enz {P : Program} {w : World} {K : PySem.W.Frag} {elts : List Expr} {kk : Nat} {tpos : Pos} {a b e z TI TO i1 i2 : Addr} (D : ZipApart z TI TO i1 i2 a b) (n1 : e ≠ z) (n2 : e ≠ TI) (n3 : e ≠ TO) (n4 : e ≠ i1) (n5 : e ≠ i2) :
    Turn P w K (.Tuple elts kk tpos) (Itez K a b) [e, z, TI, TO, i1, i2] e (fun i h => (∃ old, IsEnum h e z ((i : Nat) : Int) old) ∧ ZipAt h z TI TO i1 i2 a b i) where
  mem := by simp
  obj := fun i h st c hc => by
    obtain ⟨⟨old, he⟩, S⟩ := st
    obtain ⟨v, f, hz, _⟩ := S.z
    obtain ⟨x, y, hTO⟩ := S.to
    obtain ⟨o1, e1, _, d1⟩ := S.i1
    obtain ⟨o2, e2, _, d2⟩ := S.i2
    have e' : c = e ∨ c = z ∨ c = TI ∨ c = TO ∨ c = i1 ∨ c = i2 := by simpa using hc
    rcases e' with q | q | q | q | q | q
    · rw [q]; exact ⟨_, he, fun v q => nomatch q⟩
    · rw [q]; exact ⟨_, hz, fun v q => nomatch q⟩
    · rw [q]; exact ⟨_, S.ti, fun v q => nomatch q⟩
    · rw [q]; exact ⟨_, hTO, fun v q => nomatch q⟩
    · rw [q]; exact ⟨o1, e1, fun v q => by rw [d1] at q; cases q⟩
    · rw [q]; exact ⟨o2, e2, fun v q => by rw [d2] at q; cases q⟩
  keep := fun i h h' st k => by
    obtain ⟨⟨old, he⟩, S⟩ := st
    exact ⟨⟨old, k e (by simp) _ he⟩, zipAt_keep S fun c o hc q => k c (by rcases hc with z | z | z | z | z <;> simp [z]) o q⟩
  item := by
    intro X hP hw hK hc i pins s σ H E I hf st hg
    subst hP hw hK
    obtain ⟨⟨old, he⟩, S⟩ := st
    obtain ⟨xs, ys, x, y, hqx, hqy, hx, hy⟩ := hg
    obtain ⟨its, rv, p, _⟩ := I.list hqx
    obtain ⟨its2, rv2, p2, _⟩ := I.list hqy
    obtain ⟨u, hu, ru⟩ := rv.get hx
    obtain ⟨u2, hu2, ru2⟩ := rv2.get hy
    have hel : e < s.heap.objs.size := Heap.lt_size he
    have lt : ∀ c, c ∈ [e, z, TI, TO, i1, i2] → c < s.heap.objs.size := by
      intro c hcm
      obtain ⟨v, f, hz, _⟩ := S.z
      obtain ⟨x, y, hTO⟩ := S.to
      obtain ⟨o1, e1, _⟩ := S.i1
      obtain ⟨o2, e2, _⟩ := S.i2
      have e' : c = e ∨ c = z ∨ c = TI ∨ c = TO ∨ c = i1 ∨ c = i2 := by simpa using hcm
      rcases e' with q | q | q | q | q | q
      · rw [q]; exact hel
      · rw [q]; exact Heap.lt_size hz
      · rw [q]; exact Heap.lt_size S.ti
      · rw [q]; exact Heap.lt_size hTO
      · rw [q]; exact Heap.lt_size e1
      · rw [q]; exact Heap.lt_size e2
    refine next_enum_gen he (zip_any D S p.isList p2.isList (x := u) (y := u2) (by simpa using hu) (by simpa using hu2) fun g S1 pU sz k => ⟨k _ _ n1 n3 n4 n5 he, fun g2 eo tT sz2 k2 => ?_⟩)
    -- the pair of items
    have newU : ObjOk X.prog X.w (upd H s.heap.objs.size (.tup [x, y])) g s.heap.objs.size (.tup [x, y]) :=
      ⟨by show 2 ≤ sizeLine; decide, [u, u2], .cons ru (.cons ru2 .nil), ⟨_, pU, rfl, _, rfl⟩⟩
    have I1 : Inv X pins σ (upd H s.heap.objs.size (.tup [x, y])) { s with heap := g } :=
      I.turnedNew (t' := s.toks) (ch := [e, z, TI, TO, i1, i2]) (fun c o hb q => k c o (fun t => hb (by simp [t])) (fun t => hb (by simp [t])) (fun t => hb (by simp [t])) (fun t => hb (by simp [t])) q) hf (Nat.le_refl _) newU
    have fU : H s.heap.objs.size = none := I.hok.fresh (Nat.le_refl _)
    have hf1 : ∀ c ∈ [e, z, TI, TO, i1, i2], FpOk X pins (upd H s.heap.objs.size (.tup [x, y])) c := fun c hcm => by
      have q := hf c hcm
      refine ⟨?_, q.2⟩
      rw [upd_ne (Nat.ne_of_lt (lt c hcm))]
      exact q.1
    have fT : (upd H s.heap.objs.size (.tup [x, y])) g.objs.size = none := I1.hok.fresh (Nat.le_refl _)
    refine ⟨_, rfl, wpAny_letOwnedTupleGo_enum (s := { s with heap := g2, toks := s.toks + 1 }) eo fun g3 e3 sb => ?_⟩
    have ltg : ∀ c, c ∈ [e, z, TI, TO, i1, i2] → c < g.objs.size := fun c hcm => by rw [sz]; exact Nat.lt_succ_of_lt (lt c hcm)
    have tT3 : g3.get? g.objs.size = some { cls := .type "tuple", data := .seq #[.int i s.toks, .ref s.heap.objs.size] } := (sb.2 _ (Nat.ne_of_gt (ltg e (by simp)))).trans tT
    have newT : ObjOk X.prog X.w (upd (upd H s.heap.objs.size (.tup [x, y])) g.objs.size (.tup [.int (i : Nat), .ref s.heap.objs.size])) g3 g.objs.size (.tup [.int (i : Nat), .ref s.heap.objs.size]) :=
      ⟨by show 2 ≤ sizeLine; decide, [.int i s.toks, .ref s.heap.objs.size], .cons ⟨_, rfl⟩ (.cons rfl .nil), ⟨_, tT3, rfl, _, rfl⟩⟩
    have I2 : Inv X pins σ (upd (upd H s.heap.objs.size (.tup [x, y])) g.objs.size (.tup [.int (i : Nat), .ref s.heap.objs.size])) { s with heap := g3, toks := s.toks + 1 } :=
      I1.turnedNew (ch := [e, z, TI, TO, i1, i2]) (fun c o hb q => (sb.2 c (fun t => hb (by simp [t]))).trans (k2 c o (fun t => hb (by simp [t])) q)) hf1 (Nat.le_refl _) newT
    refine ⟨.ref g.objs.size, _, I2, rfl, ⟨_, _, x, y, rfl, fU, fT, rfl, fun l hl => by rw [I.list_inj hl hqx]; exact hx, fun l hl => by rw [I.list_inj hl hqy]; exact hy⟩, ⟨⟨.ref s.heap.objs.size, ?_⟩, ?_⟩, fun c hcm => ?_⟩
    · have q : ((i + 1 : Nat) : Int) = (i : Int) + 1 := by omega
      rw [q]; exact e3
    · have ne : ∀ c, (c = z ∨ c = TI ∨ c = TO ∨ c = i1 ∨ c = i2) → c ≠ e := by
        intro c hc t
        rcases hc with q | q | q | q | q
        · exact n1 (t.symm.trans q)
        · exact n2 (t.symm.trans q)
        · exact n3 (t.symm.trans q)
        · exact n4 (t.symm.trans q)
        · exact n5 (t.symm.trans q)
      exact zipAt_keep S1 fun c o hc q => (sb.2 c (ne c hc)).trans (k2 c o (ne c hc) q)
    · rw [upd_ne (Nat.ne_of_lt (ltg c hcm))]
      exact (hf1 c hcm).1
  done := by
    intro X hP hw hK hc i pins s σ H E I hf st hg
    subst hP hw hK
    obtain ⟨⟨old, he⟩, S⟩ := st
    obtain ⟨xs, ys, hqx, hqy, hend⟩ := hg
    obtain ⟨its, rv, p, _⟩ := I.list hqx
    obtain ⟨its2, rv2, p2, _⟩ := I.list hqy
    have l1 := rv.length
    have l2 := rv2.length
    have hend' : its.toArray[i]? = none ∨ its2.toArray[i]? = none := by
      rcases hend with q | q
      · exact .inl (by simp; omega)
      · exact .inr (by simp; omega)
    refine next_enum_gen he (zip_any_end (A := X.A.in1) (I.ok.hd hc) D S p.isList p2.isList hend' fun g r k ⟨o, ho, hcl⟩ => ⟨⟨r, o, rfl, ho, hcl⟩, rfl, ?_⟩)
    exact I.turnedL (t' := s.toks) (ch := [e, z, TI, TO, i1, i2]) (fun c o hb q => k c o (fun t => hb (by simp [t])) (fun t => hb (by simp [t])) (fun t => hb (by simp [t])) (fun t => hb (by simp [t])) q) hf
  self := fun A i s Q E st h => let ⟨⟨_, he⟩, _⟩ := st; wpAny_pyIter_enum he h
def iEnZ (K : PySem.W.Frag) (ta : TA) : TI := fun σ H R => ta σ H fun vs H1 => ∃ a b xs ys, vs = [.ref a, .ref b] ∧ SqL K H1 a xs ∧ SqL K H1 b ys ∧ R (Itez K a b) H1
theorem pi_enumZip {X : Cx} {e e2 : Expr} {ta : TA} {p p2 pos pos2 tpos : Pos} {elts : List Expr} {kk : Nat} (hg : Gl X "enumerate") (hm : X.mg "enumerate" = none) (hgz : Gl X "zip") (hmz : X.mg "zip" = none) (ha : PA X [e, e2] ta)
    (hs : starEach [e, e2] X.env = (false, eval e X.env) :: starEach [e2] X.env := by rfl) (hpl : (backTo pos2 (starEach [e2] X.env)).any (·.1) = false := by rfl)
    (hs2 : starEach [.Call (.Name "zip" p2) [e, e2] [] pos2] X.env = [(false, eval (.Call (.Name "zip" p2) [e, e2] [] pos2) X.env)] := by rfl) :
    PI X (.Tuple elts kk tpos) (.Call (.Name "enumerate" p) [.Call (.Name "zip" p2) [e, e2] [] pos2] [] pos) (iEnZ X.K ta) := by
  refine ⟨fun pins s σ H R I h => ?_⟩
  refine Call_ (ld_blt I hg hm boot_enumerate (PyProof.Rows.callWith_type1 (spliced_more (Call_ (ld_blt I hgz hmz PyProof.Rows.boot_zip (PyProof.Rows.callWith_type1 (thn (ha.run pos2 pins s σ H _ I h) fun us s1 ⟨vs, H1, I1, r1, q1⟩ => ?_) hs hpl))) hs2) hs2 rfl))
  obtain ⟨a, b, xs, ys, ex, hqx, hqy, q⟩ := q1
  subst ex
  cases r1 with
  | cons r rr =>
    cases rr with
    | cons r' rr =>
      cases rr
      cases r
      cases r'
      obtain ⟨its, rv, p1, _⟩ := I1.list hqx
      obtain ⟨its2, rv2, p2, _⟩ := I1.list hqy
      have la : a < s1.heap.objs.size := p1.lt
      have lb : b < s1.heap.objs.size := p2.lt
      refine call_zip_2 p1.isList p2.isList fun h' hz hTI hTO h1 h2 hsz hk => spliced_none ?_
      have I2 : Inv X pins σ H1 { s1 with heap := h' } := I1.kept (t' := s1.toks) hk
      refine call_enum_zip (s := { s1 with heap := h' }) hz fun he => wpAny_pyIter_enum he ?_
      have I3 : Inv X pins σ H1 { s1 with heap := h'.push (enumObj (s1.heap.objs.size + 4)) } := I2.kept (t' := s1.toks) fun c o t => Heap.get?_push_of_some _ t
      have ne : ∀ j : Nat, j < 5 → h'.objs.size ≠ s1.heap.objs.size + j := fun j hj t => by rw [hsz] at t; omega
      refine ⟨h'.objs.size, [h'.objs.size, s1.heap.objs.size + 4, s1.heap.objs.size + 2, s1.heap.objs.size + 3, s1.heap.objs.size, s1.heap.objs.size + 1], _, _, H1, rfl, I3,
        turn_enz (PySem.W.ktu_apart s1.heap.objs.size a b la lb) (ne 4 (by decide)) (ne 2 (by decide)) (ne 3 (by decide)) (ne 0 (by decide)) (ne 1 (by decide)), ⟨⟨.none, he⟩, zipAt_keep ⟨⟨_, _, hz, .inl ⟨rfl, rfl⟩⟩, hTI, ⟨_, _, hTO⟩, h1, h2⟩ fun c o _ t => Heap.get?_push_of_some _ t⟩, fun c hcm => ?_, q⟩
      have e' : c = h'.objs.size ∨ c = s1.heap.objs.size + 4 ∨ c = s1.heap.objs.size + 2 ∨ c = s1.heap.objs.size + 3 ∨ c = s1.heap.objs.size ∨ c = s1.heap.objs.size + 1 := by simpa using hcm
      have hle : s1.heap.objs.size ≤ c := by
        rcases e' with z | z | z | z | z | z
        · rw [z, hsz]; exact Nat.le_add_right _ _
        · rw [z]; exact Nat.le_add_right _ _
        · rw [z]; exact Nat.le_add_right _ _
        · rw [z]; exact Nat.le_add_right _ _
        · rw [z]; exact Nat.le_refl _
        · rw [z]; exact Nat.le_add_right _ _
      exact I1.fpOk hle (I1.hok.fresh hle)
/-- of each turn: the number and the pair -/
theorem walk_enz {K : PySem.W.Frag} {a b : Addr} {xs ys : List V} {n : Nat} (hn : n = min xs.length ys.length) : Walk (Itez K a b) n (fun H => SqL K H a xs ∧ SqL K H b ys)
    (fun i H v H' => ∃ T U x y, v = .ref T ∧ H U = none ∧ (upd H U (.tup [x, y])) T = none ∧ H' = upd (upd H U (.tup [x, y])) T (.tup [.int (i : Nat), .ref U]) ∧ xs[i]? = some x ∧ ys[i]? = some y) := by
  subst hn
  refine ⟨fun i _ hi q => ?_, fun _ q => ⟨xs, ys, q.1, q.2, by omega⟩, fun i H v H' _ q y => ?_⟩
  · have h1 : i < xs.length := by omega
    have h2 : i < ys.length := by omega
    exact ⟨xs, ys, xs[i], ys[i], q.1, q.2, by simp [h1], by simp [h2]⟩
  · obtain ⟨T, U, x, y, h1, h2, h3, h4, h5, h6⟩ := y
    exact ⟨T, U, x, y, h1, h2, h3, h4, h5 xs q.1, h6 ys q.2⟩
end Pw
end

section
namespace Pw
open PySem PySem.Spec PyProof.Rows L2
/-! ### xs.extend(t), t a tuple -/
theorem meets_ext (l b : Addr) (its its2 : Array Value) (n n2 : Nat) (dct : Option Addr) (sl : Array (Option Value)) (h0 : ¬(!its.isEmpty && Builtin.List.listTooLong (its.size + its2.size)) = true) (h1 : its.size ≤ sizeLine) (h2 : its.size + its2.size ≤ sizeLine + 1) :
    Meets (Builtin.«list.extend» ⟨[.ref l, .ref b], []⟩) (fun _ R s => s.heap.get? l = some { cls := .type "list", dict := none, data := .seq its n, slots := #[] } ∧
      s.heap.get? b = some { cls := .type "tuple", dict := dct, data := .seq its2 n2, slots := sl } ∧ R (.ok (.ret Value.none)) { s with heap := s.heap.update l (Obj.mapSeq fun x => x ++ its2), toks := s.toks }) :=
  .of_wp fun prog w A R s h => by
    obtain ⟨hp, g, d, tk, os⟩ := s
    obtain ⟨hl, hb, h⟩ := h
    have f1 := AutoSeq1.idx_int
    have f2 := AutoSeq1.sub_tuple_tuple
    have f3 := AutoSeq1.sub_list_list
    have f4 := AutoSeq1.sub_tuple_list
    have f5 := AutoSeq1.sub_list_tuple
    have hz : (its ++ its2).size ≤ sizeLine + 1 := by rw [Array.size_append]; exact h2
    wp_walk using (wpAny_updateSeq hl rfl (hz := h1) (_hz' := hz)), wpAny_loadPart' hl, wpAny_loadPart' hb
    exact ⟨_, rfl, h⟩
def rExtT (K : PySem.W.Frag) : V → List V → Hp → VK → Prop := fun x vs H Q => ∃ l b xs zs, x = .ref l ∧ vs = [.ref b] ∧ H l = some (.lst xs) ∧ SqT K H b zs ∧ xs.length + zs.length ≤ sizeLine ∧ Q .non (upd H l (.lst (xs ++ zs)))
section
variable {X : Cx}
theorem mt_extT : MtM X "list.extend" (rExtT X.K) := by
  intro pins s σ H x vs v us Q I rx rv h
  obtain ⟨l, b, xs, zs, rfl, rfl, hH, hB, hz, q⟩ := h
  cases rx
  obtain ⟨u, rfl, ru⟩ := rv.one
  cases ru
  obtain ⟨z, its, n, r, hl, e⟩ := I.lstM hH
  obtain ⟨its2, r2, ⟨⟨c, dct, dt, sl⟩, e2, hc, n2, hd⟩, z2⟩ := I.tuple hB
  replace hc : c = .type "tuple" := hc
  replace hd : dt = .seq its2.toArray n2 := hd
  subst hc hd
  have l2 := r2.length
  have sz : its.toArray.size + its2.toArray.size ≤ sizeLine := by rw [List.size_toArray, List.size_toArray]; omega
  have long : ¬ (!its.toArray.isEmpty && Builtin.List.listTooLong (its.toArray.size + its2.toArray.size)) = true := by
    rw [notLongL sz, Bool.and_false]
    exact Bool.false_ne_true
  refine call_meets F.slot_list_extend ⟨_, e, rfl⟩ F.entry_list_extend (F.args_list_extend_2 _ _) (meets_ext l b its.toArray its2.toArray n n2 dct sl long (by rw [List.size_toArray]; omega) (by omega)) ⟨e, e2, ?_⟩
  refine ⟨.non, _, I.lset (its' := its ++ its2) hH e (by simp) (r.append r2) ?_, rfl, q⟩
  rw [List.length_append]
  omega
end
end Pw
end

section
namespace Pw
open PySem PySem.Spec PyProof.Rows L2
/-- the i-th statement of the program -/
def top (i : Nat) : Stmt := PySem.Challenge.pw_wholepointsdesk_s01_answers.main.body.getD i (.Pass ⟨0, 0, 0, 0⟩)
abbrev sCd : Stmt := top 1
abbrev sCm : Stmt := top 2
abbrev sLt : Stmt := top 3
abbrev sDf : Stmt := top 6
abbrev sAb : Stmt := top 7

/-- what Python's own names stand for: nothing of the program's -/
structure Own (mg : Str → Option Value) : Prop where
  abs : mg "abs" = none
  any : mg "any" = none
  zip : mg "zip" = none
  len : mg "len" = none
  range : mg "range" = none
  sorted : mg "sorted" = none
  set : mg "set" = none
  list : mg "list" = none
  reversed : mg "reversed" = none

theorem if_true_of {c : Bool} {A B : Prop} (hc : c = true) (h : A) : if c = true then A else B := by
  rw [if_pos hc]
  exact h
theorem if_false_of {c : Bool} {A B : Prop} (hc : c = false) (h : B) : if c = true then A else B := by
  rw [hc, if_neg Bool.false_ne_true]
  exact h

/-- a comprehension without a test -/
theorem lc_all {J : It} {n : Nat} {G : Hp → Prop} {Y : Nat → Hp → V → Hp → Prop} (w : Walk J n G Y) {g : TG} {te : TE} {vs : List Nat} {σ : L2.St} {H1 : Hp} {D : Addr} {Qd : Hp → Prop}
    (Pv : Nat → Hp → Prop) (h0 : Pv 0 (upd H1 D (.lst []))) (hG : ∀ i H, i ≤ n → Pv i H → G H)
    (hs : ∀ i x H H', i < n → Pv i H → Y i H x H' → g x (wipe σ vs) H' fun σ2 H2 => wipe σ2 vs = wipe σ vs ∧
      te σ2 H2 fun y H4 => ∃ acc, H4 D = some (.lst acc) ∧ acc.length < sizeLine ∧ Pv (i + 1) (upd H4 D (.lst (acc ++ [y]))))
    (hd : ∀ H, Pv n H → Qd H) :
    ∃ W : Nat → Nat → Hp → Prop, (∃ m, W 0 m (upd H1 D (.lst []))) ∧ ∀ i m H, W i m H →
      (J.stop i H ∧ Qd H) ∨ (J.go i H ∧ ∃ Nx : Hp → Prop, (∀ H', Nx H' → ∃ m', m' < m ∧ W (i + 1) m' H') ∧ ∀ x H', J.yld i H x H' →
        g x (wipe σ vs) H' fun σ2 H2 => wipe σ2 vs = wipe σ vs ∧ tYes σ2 H2 fun b H3 =>
        if b = true then te σ2 H3 fun y H4 => ∃ acc, H4 D = some (.lst acc) ∧ acc.length < sizeLine ∧ Nx (upd H4 D (.lst (acc ++ [y]))) else Nx H3) := by
  refine lc_it w Pv h0 hG (fun i x H H' hi hp hy => ?_) hd
  have e : (fun (σ2 : L2.St) (H2 : Hp) => wipe σ2 vs = wipe σ vs ∧ tYes σ2 H2 fun b H3 =>
        if b = true then te σ2 H3 fun y H4 => ∃ acc, H4 D = some (.lst acc) ∧ acc.length < sizeLine ∧ Pv (i + 1) (upd H4 D (.lst (acc ++ [y]))) else Pv (i + 1) H3)
      = fun σ2 H2 => wipe σ2 vs = wipe σ vs ∧ te σ2 H2 fun y H4 => ∃ acc, H4 D = some (.lst acc) ∧ acc.length < sizeLine ∧ Pv (i + 1) (upd H4 D (.lst (acc ++ [y]))) := by
    funext σ2 H2
    unfold tYes
    dsimp only
    first | done | rw [if_pos rfl]
  rw [e]
  exact hs i x H H' hi hp hy

section
variable {P : Program} {w : World} {K : PySem.W.Frag} {mg : Str → Option Value} {base : Heap}

/-! ### common_divisor -/
/-- the whole number in a slot, as a measure -/
def slotN (i : Nat) (σ : L2.St) : Nat := match σ[i]? with
  | some (some (.int l)) => l.toNat
  | _ => 0
theorem abs_nonneg (a : Int) : 0 ≤ (if a < 0 then -a else a) := by split <;> omega
theorem abs_abs (a : Int) : ((if a < 0 then -a else a) : Int).natAbs = a.natAbs := by split <;> omega
theorem gcd_abs (a b : Int) : Int.gcd (if a < 0 then -a else a) (if b < 0 then -b else b) = Int.gcd a b := by
  unfold Int.gcd
  rw [abs_abs, abs_abs]
def spCd : Sp := fun vs H Q _ => ∃ a b : Int, vs = [.int a, .int b] ∧ Q (.int (Int.gcd a b : Nat)) H
theorem scCd : FnScope ["one", "other", "greater", "lesser", "rest"] ["one", "other"] (defScope sCd) := ⟨rfl, rfl, rfl, by decide +kernel, rfl, by decide +kernel, by decide +kernel⟩
theorem gcd_turn {g l : Int} (hg : 0 ≤ g) (hl : 0 ≤ l) (h : l ≠ 0) : Int.gcd l (g % l) = Int.gcd g l := by
  rw [Int.gcd_comm g l]
  obtain ⟨a, rfl⟩ := Int.eq_ofNat_of_zero_le hg
  obtain ⟨b, rfl⟩ := Int.eq_ofNat_of_zero_le hl
  show Nat.gcd b _ = Nat.gcd b a
  have : (((a : Int) % (b : Int))).natAbs = a % b := by omega
  rw [this]
  rw [Nat.gcd_comm b a, Nat.gcd_comm b (a % b)]
  exact (Nat.gcd_rec b a ▸ Nat.gcd_comm a b).symm ▸ rfl
theorem ok_cd (G : Own mg) {f : Addr} {fd : FuncData} (F : Fun K "common_divisor" "common_divisor" sCd f fd) : FnOk P w K mg base CX0 1 f fd ["one", "other"] spCd := by
  refine F.ok scCd (fun vs H Q E h => ?_) (fun cdv A outer s H vs Q E hr h => ⟨_, pss_cons (ps_set (i := 2) scCd.nd rfl (Or.inl rfl) (pe_callB call_abs (by rfl) G.abs boot_abs (pa_cons (pv 0) pa_nil)))
    (pss_cons (ps_set (i := 3) scCd.nd rfl (Or.inl rfl) (pe_callB call_abs (by rfl) G.abs boot_abs (pa_cons (pv 1) pa_nil)))
    (pss_cons (ps_while PassesOwn.never (pt_cmpR op_ne (pv 3) pe_int (nomark _))
      (pss_cons (ps_set (i := 4) scCd.nd rfl (Or.inl rfl) (pe_op op_mod (pv 2) (pv 3)))
      (pss_cons (ps_set (i := 2) scCd.nd rfl (Or.inl rfl) (pv 3)) (pss_one (ps_set (i := 3) scCd.nd rfl (Or.inl rfl) (pv 4))))))
    (pss_one (ps_ret (pv 2))))), ?_⟩)
  · obtain ⟨a, b, rfl, _⟩ := h
    rfl
  · obtain ⟨a, b, rfl, q⟩ := h
    refine ⟨_, rfl, _, rfl, _, rfl, _, rfl, ?_⟩
    refine while_by (fun σ H' => ∃ (g l : Int) (v : Option V), σ = [some (.int a), some (.int b), some (.int g), some (.int l), v] ∧ H' = H ∧ 0 ≤ g ∧ 0 ≤ l ∧ Int.gcd g l = Int.gcd a b)
      (fun σ _ => slotN 3 σ) ⟨_, _, none, rfl, rfl, abs_nonneg a, abs_nonneg b, gcd_abs a b⟩ ?_ ?_
    · rintro σ H' ⟨g, l, v, rfl, rfl, hg, hl, e⟩
      refine ⟨_, rfl, rfl, _, rfl, ?_⟩
      by_cases h0 : l = 0
      · subst h0
        refine if_false_of rfl ⟨_, rfl, ?_⟩
        have : ((Int.gcd a b : Nat) : Int) = g := by
          rw [← e, Int.gcd_zero_right]
          omega
        rw [this] at q
        exact q
      · refine if_true_of (by simp [h0]) ?_
        refine ⟨_, rfl, _, rfl, _, _, rfl, rfl, (by show 0 < l; omega), _, rfl, _, rfl, ?_, ?_⟩
        · exact ⟨l, g % l, _, rfl, rfl, hl, Int.emod_nonneg _ h0, (gcd_turn hg hl h0).trans e⟩
        · show (g % l).toNat < l.toNat
          have := Int.emod_lt_of_pos g (show 0 < l by omega)
          omega
    · intro σ H' Q1 Q2 hq h
      obtain ⟨v, h1, h2, b, h3, h4⟩ := h
      exact ⟨v, h1, h2, b, h3, hq _ _ h4⟩

/-- a def that is called by its name -/
structure Dn (K : PySem.W.Frag) (mg : Str → Option Value) (x : Str) (f : Addr) (fd : FuncData) (ps : List Str) : Prop where
  g : mg x = some (.ref f)
  kp : PySem.W.keepIn K (.ref f) = true
  b : Binds K fd ps []

/-- a bound of all sizes that are reckoned with -/
def lim : Nat := 2 ^ 8000
set_option exponentiation.threshold 9000 in
theorem lim_div {i j : Int} (h : 0 < j) (hb : j.natAbs < lim) : CDivW i j := wide_div (b := 8000) h hb (by decide) (by decide)
set_option exponentiation.threshold 9000 in
theorem lim_mul {i j : Int} (ha : i.natAbs < lim) (hb : j.natAbs < lim) : CMulW i j := wide_mul (a := 8000) (b := 8000) ha hb (by decide) (by decide) (by decide)
/-! ### common_multiple -/
def spCm : Sp := fun vs H Q _ => ∃ a b : Int, vs = [.int a, .int b] ∧ 0 < a ∧ 0 < b ∧ a.natAbs < lim ∧ b.natAbs < lim ∧ Q (.int (Nat.lcm a.natAbs b.natAbs : Nat)) H
theorem scCm : FnScope ["one", "other"] ["one", "other"] (defScope sCm) := ⟨rfl, rfl, rfl, by decide +kernel, rfl, by decide +kernel, by decide +kernel⟩
theorem lcm_eq {a b : Int} (ha : 0 < a) (hb : 0 < b) : a / (Int.gcd a b : Nat) * b = (Nat.lcm a.natAbs b.natAbs : Nat) := by
  obtain ⟨m, rfl⟩ := Int.eq_ofNat_of_zero_le (Int.le_of_lt ha)
  obtain ⟨n, rfl⟩ := Int.eq_ofNat_of_zero_le (Int.le_of_lt hb)
  show (m : Int) / (Nat.gcd m n : Nat) * n = (Nat.lcm m n : Nat)
  unfold Nat.lcm
  have h : Nat.gcd m n ∣ m := Nat.gcd_dvd_left _ _
  have hg : 0 < Nat.gcd m n := Nat.gcd_pos_of_pos_left _ (by omega)
  obtain ⟨k, hk⟩ := h
  have e1 : m * n / Nat.gcd m n = k * n := by
    conv => lhs; lhs; rw [hk, Nat.mul_assoc]
    exact Nat.mul_div_cancel_left _ hg
  have e2 : (m : Int) / (Nat.gcd m n : Nat) = k := by
    conv => lhs; lhs; rw [hk, Int.natCast_mul]
    exact Int.mul_ediv_cancel_left _ (by omega)
  rw [e1, e2, Int.natCast_mul]
theorem ok_cm {f f1 : Addr} {fd fd1 : FuncData} (F : Fun K "common_multiple" "common_multiple" sCm f fd) (N1 : Dn K mg "common_divisor" f1 fd1 ["one", "other"])
    (G1 : FnOk P w K mg base CX0 1 f1 fd1 ["one", "other"] spCd) : FnOk P w K mg base CX0 2 f fd ["one", "other"] spCm := by
  refine F.ok scCm (fun vs H Q E h => ?_) (fun cdv A outer s H vs Q E hr h => ⟨_, pss_one (ps_ret (pe_op op_mulW (pe_op op_fdivW (pv 0)
    (pe_call G1 hr rfl N1.g N1.kp N1.b .nil pass0 (pa_cons (pv 0) (pa_cons (pv 1) pa_nil)))) (pv 1))), ?_⟩)
  · obtain ⟨a, b, rfl, _⟩ := h
    rfl
  · obtain ⟨a, b, rfl, ha, hb, la, lb, q⟩ := h
    have hg : 0 < Int.gcd a b := Nat.gcd_pos_of_pos_left _ (by omega)
    have hle : Int.gcd a b ≤ a.natAbs := Nat.le_of_dvd (by omega) (Nat.gcd_dvd_left _ _)
    refine ⟨_, rfl, _, rfl, _, rfl, a, b, rfl, _, _, rfl, rfl, lim_div (by omega) (by rw [Int.natAbs_natCast]; omega), _, rfl, _, _, rfl, rfl, ?_, ?_⟩
    · have h1 : 0 ≤ a / (Int.gcd a b : Nat) := Int.ediv_nonneg (by omega) (by omega)
      have h2 : a / (Int.gcd a b : Nat) ≤ a := Int.ediv_le_self _ (by omega)
      exact lim_mul (by omega) lb
    · show Q (.int (a / (Int.gcd a b : Nat) * b)) H
      rw [lcm_eq ha hb]
      exact q

/-! ### lowest_terms -/
def spLt : Sp := fun vs H Q _ => ∃ n d : Int, vs = [.int n, .int d] ∧ 0 < d ∧ d.natAbs < lim ∧
  ∀ H' p, Same H H' → H p = none → H' p = some (.lst [.int (n / (Int.gcd n d : Nat)), .int (d / (Int.gcd n d : Nat))]) → Q (.ref p) H'
theorem scLt : FnScope ["upper", "lower", "shared"] ["upper", "lower"] (defScope sLt) := ⟨rfl, rfl, rfl, by decide +kernel, rfl, by decide +kernel, by decide +kernel⟩
theorem same_new {H : Hp} {p : Addr} {o : HO} (h : H p = none) : Same H (upd H p o) := fun a u e => by
  rw [upd_ne (ne_of_none e h)]
  exact e
theorem ok_lt {f f1 : Addr} {fd fd1 : FuncData} (F : Fun K "lowest_terms" "lowest_terms" sLt f fd) (N1 : Dn K mg "common_divisor" f1 fd1 ["one", "other"])
    (G1 : FnOk P w K mg base CX0 1 f1 fd1 ["one", "other"] spCd) : FnOk P w K mg base CX0 2 f fd ["upper", "lower"] spLt := by
  refine F.ok scLt (fun vs H Q E h => ?_) (fun cdv A outer s H vs Q E hr h => ⟨_, pss_cons (ps_set (i := 2) scLt.nd rfl (Or.inl rfl)
    (pe_call G1 hr rfl N1.g N1.kp N1.b .nil pass0 (pa_cons (pv 0) (pa_cons (pv 1) pa_nil))))
    (pss_one (ps_ret (pe_lst (pa_cons (pe_op op_fdivW (pv 0) (pv 2)) (pa_cons (pe_op op_fdivW (pv 1) (pv 2)) pa_nil))))), ?_⟩)
  · obtain ⟨a, b, rfl, _⟩ := h
    rfl
  · obtain ⟨n, d, rfl, hd, ld, q⟩ := h
    have hg : 0 < Int.gcd n d := Nat.gcd_pos_of_pos_right _ (by omega)
    have hle : Int.gcd n d ≤ d.natAbs := Nat.le_of_dvd (by omega) (Nat.gcd_dvd_right _ _)
    have wd : ∀ i : Int, CDivW i (Int.gcd n d : Nat) := fun i => lim_div (by omega) (by rw [Int.natAbs_natCast]; omega)
    refine ⟨_, rfl, _, rfl, n, d, rfl, _, rfl, _, rfl, _, _, rfl, rfl, wd _, _, rfl, _, rfl, _, _, rfl, rfl, wd _, (by show 2 ≤ sizeLine; decide), fun p hp => ?_⟩
    exact q _ p (same_new hp) hp upd_same

/-! ### differences -/
def subs (ns ms : List Int) : List Int := (ns.zip ms).map fun x => x.1 - x.2
def spDf (K : PySem.W.Frag) : Sp := fun vs H Q _ => ∃ (a b : Addr) (ns ms : List Int), vs = [.ref a, .ref b] ∧ SqL K H a (ns.map V.int) ∧ SqL K H b (ms.map V.int) ∧ ns.length ≤ 100000 ∧
  ∀ H' p, Same H H' → H p = none → H' p = some (.lst ((subs ns ms).map V.int)) → Q (.ref p) H'
theorem scDf : FnScope ["plus", "minus", "more", "less"] ["plus", "minus"] (defScope sDf) := ⟨rfl, rfl, rfl, by decide +kernel, rfl, by decide +kernel, by decide +kernel⟩
theorem map_get {α β : Type} {f : α → β} {xs : List α} {i : Nat} {y : β} (h : (xs.map f)[i]? = some y) : ∃ x, xs[i]? = some x ∧ y = f x := by
  rw [List.getElem?_map] at h
  obtain ⟨x, h1, h2⟩ := Option.map_eq_some_iff.1 h
  exact ⟨x, h1, h2.symm⟩
theorem take_zip2 {α β : Type} (a : List α) (b : List β) (k : Nat) : (a.take k).zip (b.take k) = (a.zip b).take k := by
  rw [List.zip_eq_zipWith, List.zip_eq_zipWith, List.take_zipWith]
theorem subs_more {ns ms : List Int} {i : Nat} {x y : Int} (hx : ns[i]? = some x) (hy : ms[i]? = some y) : subs (ns.take (i + 1)) (ms.take (i + 1)) = subs (ns.take i) (ms.take i) ++ [x - y] := by
  have hi : i < ns.length := (List.getElem?_eq_some_iff.1 hx).1
  have hj : i < ms.length := (List.getElem?_eq_some_iff.1 hy).1
  unfold subs
  rw [List.take_add_one, List.take_add_one, hx, hy, Option.toList_some, Option.toList_some, Pg.zip_snoc _ _ _ _ (by simp; omega)]
  simp
theorem subs_len (ns ms : List Int) : (subs ns ms).length ≤ ns.length := by unfold subs; simp; omega
theorem ok_df (G : Own mg) {f : Addr} {fd : FuncData} (F : Fun K "differences" "differences" sDf f fd) : FnOk P w K mg base CX0 1 f fd ["plus", "minus"] (spDf K) := by
  refine F.ok scDf (fun vs H Q E h => ?_) (fun cdv A outer s H vs Q E hr h => ⟨_, pss_one (ps_ret
    (pe_lc (own := [("more", 2), ("less", 3)]) (g := gTup K 2 (gCons (gName 2) (gCons (gName 3) gNil))) (tt := tYes) rfl scDf.nd (pi_zip (by rfl) G.zip (pa_cons (pv 0) (pa_cons (pv 1) pa_nil)))
      (blkOk_by (N := ["plus", "minus", "more", "less"]) (sc := defScope sDf) (by decide +kernel))
      (fun _ _ _ _ _ => pg_tup rfl (pgs_cons (pg_name (i := 2) scDf.nd rfl (Or.inl rfl)) (pgs_cons (pg_name (i := 3) scDf.nd rfl (Or.inl rfl)) pgs_nil)))
      (fun _ _ _ _ _ => pts_nil) (fun _ _ _ _ _ => pe_op op_sub (pv 2) (pv 3)))), ?_⟩)
  · obtain ⟨a, b, ns, ms, rfl, _⟩ := h
    rfl
  · obtain ⟨a, b, ns, ms, rfl, hA, hB, hl, q⟩ := h
    refine ⟨_, rfl, _, rfl, a, b, _, _, rfl, hA, hB, fun D hD => ?_⟩
    refine lc_all (walk_zip rfl) (fun i H' => Same H H' ∧ H' D = some (.lst ((subs (ns.take i) (ms.take i)).map V.int))) ⟨same_new hD, upd_same⟩
      (fun i H' _ h => ⟨h.1.seq hA, h.1.seq hB⟩) ?_ ?_
    · rintro i x H1 H2 hi ⟨s1, hd⟩ ⟨T, x1, y1, rfl, hT, rfl, e1, e2⟩
      obtain ⟨n, hn, rfl⟩ := map_get e1
      obtain ⟨m, hm, rfl⟩ := map_get e2
      refine ⟨T, _, rfl, .inl (.inl upd_same), rfl, _, _, rfl, _, _, rfl, rfl, rfl, ?_⟩
      have hDT : D ≠ T := fun e => by rw [← e, hd] at hT; cases hT
      refine ⟨_, rfl, _, rfl, _, _, rfl, rfl, _, (by rw [upd_ne hDT]; exact hd), ?_, ?_, ?_⟩
      · have := subs_len (ns.take i) (ms.take i)
        have h2 : (ns.take i).length ≤ ns.length := by rw [List.length_take]; omega
        rw [List.length_map]
        exact Nat.lt_of_le_of_lt (Nat.le_trans this (Nat.le_trans h2 hl)) (by decide)
      · intro b o hb
        have hbD : b ≠ D := fun e => by rw [e, hD] at hb; cases hb
        rw [upd_ne hbD]
        have := s1 b o hb
        rw [upd_ne (ne_of_none this hT)]
        exact this
      · rw [upd_same, subs_more hn hm, List.map_append]
        rfl
    · rintro H' ⟨s1, hd⟩
      refine q H' D s1 hD ?_
      have hmin : subs (ns.take (min (ns.map V.int).length (ms.map V.int).length)) (ms.take (min (ns.map V.int).length (ms.map V.int).length)) = subs ns ms := by
        unfold subs
        rw [take_zip2, List.take_of_length_le]
        simp
      rw [hmin] at hd
      exact hd

theorem same_t {K : PySem.W.Frag} {H H' : Hp} {a : Addr} {xs : List V} (e : Same H H') (h : SqT K H a xs) : SqT K H' a xs := by
  rcases h with (h | ⟨o, h⟩) | h
  · exact .inl (.inl (e _ _ h))
  · exact .inl (.inr ⟨o, e _ _ h⟩)
  · exact .inr h
/-! ### any_beyond -/
def SqA (K : PySem.W.Frag) (H : Hp) (a : Addr) (xs : List V) : Prop := SqL K H a xs ∨ SqT K H a xs
def beyond (ns : List Int) (b : Int) : Bool := ns.any fun n => decide (b < (if n < 0 then -n else n))
def spAb (K : PySem.W.Frag) : Sp := fun vs H Q _ => ∃ (a : Addr) (ns : List Int) (b : Int), vs = [.ref a, .int b] ∧ SqA K H a (ns.map V.int) ∧ ns.length ≤ 100000 ∧
  ∀ H', Same H H' → Q (.bl (beyond ns b)) H'
theorem scAb : FnScope ["numbers", "bound", "number"] ["numbers", "bound"] (defScope sAb) := ⟨rfl, rfl, rfl, by decide +kernel, rfl, by decide +kernel, by decide +kernel⟩

def abI (n : Int) : Int := if n < 0 then -n else n
theorem ok_ab (G : Own mg) {f : Addr} {fd : FuncData} (F : Fun K "any_beyond" "any_beyond" sAb f fd) : FnOk P w K mg base CX0 1 f fd ["numbers", "bound"] (spAb K) := by
  refine F.ok scAb (fun vs H Q E h => ?_) (fun cdv A outer s H vs Q E hr h => ?_)
  · obtain ⟨a, ns, b, rfl, _⟩ := h
    rfl
  · obtain ⟨a, ns, b, rfl, hA, hl, q⟩ := h
    rcases hA with hA | hA
    · refine ⟨_, pss_one (ps_ret (pe_callB (cr_any rfl) (by rfl) G.any boot_any (pa_cons
        (pe_lc (own := [("number", 2)]) (g := gName 2) (tt := tYes) rfl scAb.nd (pi_list (pv 0))
          (blkOk_by (N := ["numbers", "bound", "number"]) (sc := defScope sAb) (by decide +kernel))
          (fun _ _ _ _ _ => pg_name (i := 2) scAb.nd rfl (Or.inl rfl)) (fun _ _ _ _ _ => pts_nil)
          (fun _ _ _ _ _ => pe_cmpR op_gt (pe_callB call_abs (by rfl) G.abs boot_abs (pa_cons (pv 2) pa_nil)) (pv 1) (nomark _))) pa_nil))), ?_⟩
      refine ⟨_, rfl, a, rfl, ⟨_, hA⟩, fun D hD => ?_⟩
      refine lc_all (walk_list (xs := ns.map V.int)) (fun i H' => Same H H' ∧ H' D = some (.lst (((ns.take i).map fun n => decide (b < abI n)).map V.bl))) ⟨same_new hD, upd_same⟩
        (fun i H' _ h => h.1.seq hA) ?_ ?_
      · rintro i x H1 H2 hi ⟨s1, hd⟩ ⟨rfl, e⟩
        obtain ⟨n, hn, rfl⟩ := map_get e
        refine ⟨rfl, _, rfl, _, rfl, _, rfl, _, _, rfl, rfl, _, hd, ?_, ?_, ?_⟩
        · rw [List.length_map, List.length_map, List.length_take]
          exact Nat.lt_of_le_of_lt (Nat.le_trans (Nat.min_le_right _ _) hl) (by decide)
        · intro c o hc
          rw [upd_ne (fun e => by rw [e, hD] at hc; cases hc)]
          exact s1 c o hc
        · rw [upd_same, List.take_add_one, hn, Option.toList_some, List.map_append, List.map_append]
          rfl
      · rintro H' ⟨s1, hd⟩
        rw [List.length_map, List.take_length] at hd
        refine ⟨D, _, rfl, .inl (.inl hd), ?_⟩
        have : (ns.map fun n => decide (b < abI n)).any id = beyond ns b := by
          unfold beyond
          rw [List.any_map]
          rfl
        rw [this]
        exact q H' s1
    · refine ⟨_, pss_one (ps_ret (pe_callB (cr_any rfl) (by rfl) G.any boot_any (pa_cons
        (pe_lc (own := [("number", 2)]) (g := gName 2) (tt := tYes) rfl scAb.nd (pi_tup (pv 0))
          (blkOk_by (N := ["numbers", "bound", "number"]) (sc := defScope sAb) (by decide +kernel))
          (fun _ _ _ _ _ => pg_name (i := 2) scAb.nd rfl (Or.inl rfl)) (fun _ _ _ _ _ => pts_nil)
          (fun _ _ _ _ _ => pe_cmpR op_gt (pe_callB call_abs (by rfl) G.abs boot_abs (pa_cons (pv 2) pa_nil)) (pv 1) (nomark _))) pa_nil))), ?_⟩
      refine ⟨_, rfl, a, rfl, ⟨_, hA⟩, fun D hD => ?_⟩
      refine lc_all (walk_tup (xs := ns.map V.int)) (fun i H' => Same H H' ∧ H' D = some (.lst (((ns.take i).map fun n => decide (b < abI n)).map V.bl))) ⟨same_new hD, upd_same⟩
        (fun i H' _ h => same_t h.1 hA) ?_ ?_
      · rintro i x H1 H2 hi ⟨s1, hd⟩ ⟨rfl, e⟩
        obtain ⟨n, hn, rfl⟩ := map_get e
        refine ⟨rfl, _, rfl, _, rfl, _, rfl, _, _, rfl, rfl, _, hd, ?_, ?_, ?_⟩
        · rw [List.length_map, List.length_map, List.length_take]
          exact Nat.lt_of_le_of_lt (Nat.le_trans (Nat.min_le_right _ _) hl) (by decide)
        · intro c o hc
          rw [upd_ne (fun e => by rw [e, hD] at hc; cases hc)]
          exact s1 c o hc
        · rw [upd_same, List.take_add_one, hn, Option.toList_some, List.map_append, List.map_append]
          rfl
      · rintro H' ⟨s1, hd⟩
        rw [List.length_map, List.take_length] at hd
        refine ⟨D, _, rfl, .inl (.inl hd), ?_⟩
        have : (ns.map fun n => decide (b < abI n)).any id = beyond ns b := by
          unfold beyond
          rw [List.any_map]
          rfl
        rw [this]
        exact q H' s1
end
end Pw
end

section
namespace Pw
open PySem PySem.Spec PyProof.Rows L2
open Pg (Pt)
abbrev sPolyInit : Stmt := inClass (top 9) 0
abbrev sCw : Stmt := top 4
abbrev sTurn : Stmt := top 10
abbrev sLb : Stmt := top 11
abbrev sCb : Stmt := top 12
abbrev sPb : Stmt := top 13
abbrev sCr : Stmt := top 14
abbrev sLc : Stmt := top 15
abbrev sPc : Stmt := top 16
abbrev sPm : Stmt := top 17
abbrev sRb : Stmt := top 18

/-! ### places in the heap -/
def P2 (K : PySem.W.Frag) (H : Hp) (v : V) (p : Pt) : Prop := ∃ t, v = .ref t ∧ SqT K H t [.int p.1, .int p.2]
inductive Pts (K : PySem.W.Frag) (H : Hp) : List V → List Pt → Prop
  | nil : Pts K H [] []
  | cons {v : V} {p : Pt} {vs : List V} {ps : List Pt} : P2 K H v p → Pts K H vs ps → Pts K H (v :: vs) (p :: ps)
section
variable {K : PySem.W.Frag} {H H' : Hp}
theorem P2.mono {v : V} {p : Pt} (e : Same H H') (h : P2 K H v p) : P2 K H' v p := by
  obtain ⟨t, rfl, h⟩ := h
  exact ⟨t, rfl, same_t e h⟩
theorem Pts.mono (e : Same H H') : ∀ {vs : List V} {ps : List Pt}, Pts K H vs ps → Pts K H' vs ps
  | _, _, .nil => .nil
  | _, _, .cons h r => .cons (h.mono e) (r.mono e)
theorem Pts.length : ∀ {vs : List V} {ps : List Pt}, Pts K H vs ps → vs.length = ps.length
  | _, _, .nil => rfl
  | _, _, .cons _ r => by rw [List.length_cons, List.length_cons, r.length]
theorem Pts.append : ∀ {vs : List V} {ps : List Pt} {us : List V} {qs : List Pt}, Pts K H vs ps → Pts K H us qs → Pts K H (vs ++ us) (ps ++ qs)
  | _, _, _, _, .nil, h => h
  | _, _, _, _, .cons h r, q => .cons h (r.append q)
theorem Pts.snoc {vs : List V} {ps : List Pt} {v : V} {p : Pt} (h : Pts K H vs ps) (q : P2 K H v p) : Pts K H (vs ++ [v]) (ps ++ [p]) := h.append (.cons q .nil)
theorem Pts.split : ∀ {ps : List Pt} {vs : List V} {qs : List Pt}, Pts K H vs (ps ++ qs) → ∃ us ws, vs = us ++ ws ∧ Pts K H us ps ∧ Pts K H ws qs
  | [], vs, _, h => ⟨[], vs, rfl, .nil, h⟩
  | p :: ps, _, qs, h => by
    cases h with
    | cons h r =>
      obtain ⟨us, ws, rfl, h1, h2⟩ := r.split
      exact ⟨_ :: us, ws, rfl, .cons h h1, h2⟩
theorem Pts.unsnoc {ps : List Pt} {vs : List V} {p : Pt} (h : Pts K H vs (ps ++ [p])) : ∃ us v, vs = us ++ [v] ∧ Pts K H us ps ∧ P2 K H v p := by
  obtain ⟨us, ws, rfl, h1, h2⟩ := h.split
  cases h2 with
  | cons h0 r =>
    cases r
    exact ⟨us, _, rfl, h1, h0⟩
theorem Pts.get : ∀ {vs : List V} {ps : List Pt} {i : Nat} {v : V}, Pts K H vs ps → vs[i]? = some v → ∃ p, ps[i]? = some p ∧ P2 K H v p
  | _, _, _, _, .nil, h => by simp at h
  | _, _, 0, _, .cons h _, e => by
    have e' := Option.some.inj e
    subst e'
    exact ⟨_, rfl, h⟩
  | _, _, i + 1, _, .cons _ r, e => r.get (i := i) e
theorem Pts.get' : ∀ {vs : List V} {ps : List Pt} {i : Nat} {p : Pt}, Pts K H vs ps → ps[i]? = some p → ∃ v, vs[i]? = some v ∧ P2 K H v p
  | _, _, _, _, .nil, h => by simp at h
  | _, _, 0, _, .cons h _, e => by
    have e' := Option.some.inj e
    subst e'
    exact ⟨_, rfl, h⟩
  | _, _, i + 1, _, .cons _ r, e => r.get' (i := i) e
theorem Pts.take : ∀ {vs : List V} {ps : List Pt} (i : Nat), Pts K H vs ps → Pts K H (vs.take i) (ps.take i)
  | _, _, 0, _ => .nil
  | _, _, _ + 1, .nil => .nil
  | _, _, i + 1, .cons h r => .cons h (r.take i)
theorem Pts.reverse : ∀ {vs : List V} {ps : List Pt}, Pts K H vs ps → Pts K H vs.reverse ps.reverse
  | _, _, .nil => .nil
  | _, _, .cons h r => by
    rw [List.reverse_cons, List.reverse_cons]
    exact r.reverse.snoc h
theorem Pts.dropLast {vs : List V} {ps : List Pt} (h : Pts K H vs ps) : Pts K H vs.dropLast ps.dropLast := by
  rw [List.dropLast_eq_take, List.dropLast_eq_take, h.length]
  exact h.take _
end

def small : Nat := 2 ^ 7000
def Sm (p : Pt) : Prop := p.1.natAbs < small ∧ p.2.natAbs < small
set_option exponentiation.threshold 9000 in
theorem small_lim : 2 * small ≤ lim := by
  show 2 * 2 ^ 7000 ≤ 2 ^ 8000
  rw [← Nat.pow_succ']
  exact Nat.pow_le_pow_right (by decide) (by decide)
set_option exponentiation.threshold 9000 in
theorem lim_of {n : Nat} (h : n < 2 ^ 100) : n < lim := Nat.lt_of_lt_of_le h (Nat.pow_le_pow_right (by decide) (by decide))
set_option exponentiation.threshold 9000 in
theorem small_of {n : Nat} (h : n < 2 ^ 100) : n < small := Nat.lt_of_lt_of_le h (Nat.pow_le_pow_right (by decide) (by decide))
theorem sm_sub {a b : Int} (ha : a.natAbs < small) (hb : b.natAbs < small) : (a - b).natAbs < lim := by
  have := small_lim
  omega

section
variable {P : Program} {w : World} {K : PySem.W.Frag} {mg : Str → Option Value} {base : Heap}
/-! ### crosswise -/
def Lm (p : Pt) : Prop := p.1.natAbs < lim ∧ p.2.natAbs < lim
def spCw (K : PySem.W.Frag) : Sp := fun vs H Q _ => ∃ (u v : V) (a b : Pt), vs = [u, v] ∧ P2 K H u a ∧ P2 K H v b ∧ Lm a ∧ Lm b ∧ Q (.int (Sq68.cross a b)) H
theorem scCw : FnScope ["one", "other"] ["one", "other"] (defScope sCw) := ⟨rfl, rfl, rfl, by decide +kernel, rfl, by decide +kernel, by decide +kernel⟩
theorem at0 {x y : V} : atI [x, y] (0 : Int) = some x := rfl
theorem at1 {x y : V} : atI [x, y] (1 : Int) = some y := rfl
theorem ok_cw {f : Addr} {fd : FuncData} (F : Fun K "crosswise" "crosswise" sCw f fd) : FnOk P w K mg base CX0 1 f fd ["one", "other"] (spCw K) := by
  refine F.ok scCw (fun vs H Q E h => ?_) (fun cdv A outer s H vs Q E hr h => ⟨_, pss_one (ps_ret (pe_op op_sub
      (pe_op op_mulW (pe_ix ix_tup (pv 0) pe_int (fun _ _ => rfl)) (pe_ix ix_tup (pv 1) pe_int (fun _ _ => rfl)))
      (pe_op op_mulW (pe_ix ix_tup (pv 0) pe_int (fun _ _ => rfl)) (pe_ix ix_tup (pv 1) pe_int (fun _ _ => rfl))))), ?_⟩)
  · obtain ⟨a, b, _, _, rfl, _⟩ := h
    rfl
  · obtain ⟨_, _, a, b, rfl, ⟨t1, rfl, h1⟩, ⟨t2, rfl, h2⟩, la, lb, q⟩ := h
    refine ⟨_, rfl, t1, _, _, _, rfl, rfl, h1, at0, _, rfl, t2, _, _, _, rfl, rfl, h2, at1, _, _, rfl, rfl, lim_mul la.1 lb.2, ?_⟩
    refine ⟨_, rfl, t1, _, _, _, rfl, rfl, h1, at1, _, rfl, t2, _, _, _, rfl, rfl, h2, at0, _, _, rfl, rfl, lim_mul la.2 lb.1, ?_⟩
    exact ⟨_, _, rfl, rfl, q⟩

/-! ### turn -/
def spTurn (K : PySem.W.Frag) : Sp := fun vs H Q _ => ∃ (u v x : V) (a b c : Pt), vs = [u, v, x] ∧ P2 K H u a ∧ P2 K H v b ∧ P2 K H x c ∧ Sm a ∧ Sm b ∧ Sm c ∧ ∀ H', Same H H' → Q (.int (Pg.tr a b c)) H'
theorem scTurn : FnScope ["start", "middle", "end"] ["start", "middle", "end"] (defScope sTurn) := ⟨rfl, rfl, rfl, by decide +kernel, rfl, by decide +kernel, by decide +kernel⟩
theorem ok_turn {f f1 : Addr} {fd fd1 : FuncData} (F : Fun K "turn" "turn" sTurn f fd) (N1 : Dn K mg "crosswise" f1 fd1 ["one", "other"])
    (G1 : FnOk P w K mg base CX0 1 f1 fd1 ["one", "other"] (spCw K)) : FnOk P w K mg base CX0 2 f fd ["start", "middle", "end"] (spTurn K) := by
  refine F.ok scTurn (fun vs H Q E h => ?_) (fun cdv A outer s H vs Q E hr h => ⟨_, pss_one (ps_ret (pe_call G1 hr rfl N1.g N1.kp N1.b .nil pass0 (pa_cons
      (pe_tup (pa_cons (pe_op op_sub (pe_ix ix_tup (pv 1) pe_int (fun _ _ => rfl)) (pe_ix ix_tup (pv 0) pe_int (fun _ _ => rfl)))
        (pa_cons (pe_op op_sub (pe_ix ix_tup (pv 1) pe_int (fun _ _ => rfl)) (pe_ix ix_tup (pv 0) pe_int (fun _ _ => rfl))) pa_nil))) (pa_cons
      (pe_tup (pa_cons (pe_op op_sub (pe_ix ix_tup (pv 2) pe_int (fun _ _ => rfl)) (pe_ix ix_tup (pv 0) pe_int (fun _ _ => rfl)))
        (pa_cons (pe_op op_sub (pe_ix ix_tup (pv 2) pe_int (fun _ _ => rfl)) (pe_ix ix_tup (pv 0) pe_int (fun _ _ => rfl))) pa_nil))) pa_nil)))), ?_⟩)
  · obtain ⟨a, b, c, _, _, _, rfl, _⟩ := h
    rfl
  · obtain ⟨_, _, _, a, b, c, rfl, ⟨t1, rfl, h1⟩, ⟨t2, rfl, h2⟩, ⟨t3, rfl, h3⟩, sa, sb, sc, q⟩ := h
    refine ⟨_, rfl, t2, _, _, _, rfl, rfl, h2, at0, _, rfl, t1, _, _, _, rfl, rfl, h1, at0, _, _, rfl, rfl,
      _, rfl, t2, _, _, _, rfl, rfl, h2, at1, _, rfl, t1, _, _, _, rfl, rfl, h1, at1, _, _, rfl, rfl, (by show 2 ≤ sizeLine; decide), fun m nm => ?_⟩
    have s1 := same_new (H := H) (o := .tup [.int (b.1 - a.1), .int (b.2 - a.2)]) nm
    refine ⟨_, rfl, t3, _, _, _, rfl, rfl, same_t s1 h3, at0, _, rfl, t1, _, _, _, rfl, rfl, same_t s1 h1, at0, _, _, rfl, rfl,
      _, rfl, t3, _, _, _, rfl, rfl, same_t s1 h3, at1, _, rfl, t1, _, _, _, rfl, rfl, same_t s1 h1, at1, _, _, rfl, rfl, (by show 2 ≤ sizeLine; decide), fun n nn => ?_⟩
    have s2 := same_new (o := .tup [.int (c.1 - a.1), .int (c.2 - a.2)]) nn
    exact ⟨_, _, (b.1 - a.1, b.2 - a.2), (c.1 - a.1, c.2 - a.2), rfl, ⟨m, rfl, .inl (.inl (s2 _ _ upd_same))⟩, ⟨n, rfl, .inl (.inl upd_same)⟩,
      ⟨sm_sub sb.1 sa.1, sm_sub sb.2 sa.2⟩, ⟨sm_sub sc.1 sa.1, sm_sub sc.2 sa.2⟩, q _ (s1.trans s2)⟩

/-! ### left_bends -/
def spLb (K : PySem.W.Frag) : Sp := fun vs H Q _ => ∃ (a : Addr) (xs : List V) (ps : List Pt), vs = [.ref a] ∧ SqL K H a xs ∧ Pts K H xs ps ∧ (∀ p ∈ ps, Sm p) ∧ ps.length ≤ 100000 ∧
  ∀ H' p cs, Same H H' → H p = none → H' p = some (.lst cs) → Pts K H' cs (Pg.bends ps) → Q (.ref p) H'
theorem scLb : FnScope ["places", "chain", "place"] ["places"] (defScope sLb) := ⟨rfl, rfl, rfl, by decide +kernel, rfl, by decide +kernel, by decide +kernel⟩
/-- how long the list at an address is -/
def lenAt (c : Addr) (H : Hp) : Nat := match H c with
  | some (.lst xs) => xs.length
  | _ => 0
theorem lenAt_of {c : Addr} {H : Hp} {xs : List V} (h : H c = some (.lst xs)) : lenAt c H = xs.length := by
  unfold lenAt
  rw [h]
theorem atI_two {α : Type} (xs : List α) (u v : α) : atI (xs ++ [u, v]) (-2) = some u := by
  have e : ixN (xs ++ [u, v]).length (-2) = some xs.length := by
    unfold ixN
    rw [if_neg (by decide), if_pos (by simp; omega)]
    simp
    omega
  unfold atI
  rw [e]
  simp
theorem popW_len (p : Pt) : ∀ s : List Pt, (Pg.popW p s).length ≤ s.length
  | [] => Nat.le_refl _
  | [_] => Nat.le_refl _
  | b :: a :: r => by
    unfold Pg.popW
    split
    · exact Nat.le_succ_of_le (popW_len p (a :: r))
    · exact Nat.le_refl _
theorem popW_mem (p : Pt) : ∀ (s : List Pt), ∀ x ∈ Pg.popW p s, x ∈ s
  | [], x, h => h
  | [_], x, h => h
  | b :: a :: r, x, h => by
    unfold Pg.popW at h
    split at h
    · exact List.mem_cons_of_mem _ (popW_mem p (a :: r) x h)
    · exact h
theorem fold_len : ∀ (l s : List Pt), (l.foldl Pg.bend s).length ≤ s.length + l.length
  | [], s => Nat.le_refl _
  | p :: l, s => by
    rw [List.foldl_cons]
    have h1 := fold_len l (Pg.bend s p)
    have h2 := popW_len p s
    have h3 : (Pg.bend s p).length = (Pg.popW p s).length + 1 := rfl
    rw [List.length_cons]
    omega
theorem fold_mem : ∀ (l s : List Pt), ∀ x ∈ l.foldl Pg.bend s, x ∈ s ∨ x ∈ l
  | [], s, x, h => .inl h
  | p :: l, s, x, h => by
    rcases fold_mem l (Pg.bend s p) x h with h | h
    · rcases List.mem_cons.1 h with e | h
      · exact .inr (by simp [e])
      · exact .inl (popW_mem p s x h)
    · exact .inr (List.mem_cons_of_mem _ h)
theorem bends_len (ps : List Pt) : (Pg.bends ps).length ≤ ps.length := by
  unfold Pg.bends
  rw [List.length_reverse]
  simpa using fold_len ps []
theorem bends_mem (ps : List Pt) : ∀ x ∈ Pg.bends ps, x ∈ ps := by
  intro x h
  rcases fold_mem ps [] x (List.mem_reverse.1 h) with h | h
  · cases h
  · exact h
theorem bends_more {ps : List Pt} {i : Nat} {p : Pt} (h : ps[i]? = some p) : (ps.take (i + 1)).foldl Pg.bend [] = p :: Pg.popW p ((ps.take i).foldl Pg.bend []) := by
  rw [List.take_add_one, h, Option.toList_some, List.foldl_append]
  rfl

theorem lb_app {a c : Addr} {cs : List V} {x : V} {H2 : Hp} {D : Ends} (hcs : H2 c = some (.lst cs)) (hl : cs.length < sizeLine)
    (h : D.nx [some (.ref a), some (.ref c), some x] (upd H2 c (.lst (cs ++ [x])))) :
    tDrop (tBM K "list" rAppend (tVar 1) (tCons (tVar 2) tNil)) D [some (.ref a), some (.ref c), some x] H2 :=
  ⟨_, rfl, .inl ⟨rfl, _, .inl (.inl hcs)⟩, _, rfl, c, cs, x, rfl, rfl, hcs, hl, h⟩
theorem same_mut {H H' : Hp} {c : Addr} {o : HO} (e : Same H H') (h : H c = none) : Same H (upd H' c o) := fun b u hb => by
  rw [upd_ne (ne_of_none hb h)]
  exact e b u hb
theorem P2.upd {K : PySem.W.Frag} {H : Hp} {v : V} {p : Pt} {c : Addr} {xs ys : List V} (hc : H c = some (.lst xs)) (h : P2 K H v p) : P2 K (upd H c (.lst ys)) v p := by
  obtain ⟨t, rfl, h⟩ := h
  refine ⟨t, rfl, ?_⟩
  rcases h with (h | ⟨o, h⟩) | h
  · refine .inl (.inl ?_)
    rw [upd_ne (fun e => by rw [e, hc] at h; cases h)]
    exact h
  · refine .inl (.inr ⟨o, ?_⟩)
    rw [upd_ne (fun e => by rw [e, hc] at h; cases h)]
    exact h
  · exact .inr h
theorem Pts.upd {K : PySem.W.Frag} {H : Hp} {c : Addr} {xs ys : List V} (hc : H c = some (.lst xs)) : ∀ {vs : List V} {ps : List Pt}, Pts K H vs ps → Pts K (L2.upd H c (.lst ys)) vs ps
  | _, _, .nil => .nil
  | _, _, .cons h r => .cons (h.upd hc) (r.upd hc)
theorem ok_lb (G : Own mg) {f f1 : Addr} {fd fd1 : FuncData} (F : Fun K "left_bends" "left_bends" sLb f fd) (N1 : Dn K mg "turn" f1 fd1 ["start", "middle", "end"])
    (G1 : FnOk P w K mg base CX0 2 f1 fd1 ["start", "middle", "end"] (spTurn K)) : FnOk P w K mg base CX0 3 f fd ["places"] (spLb K) := by
  refine F.ok scLb (fun vs H Q E h => ?_) (fun cdv A outer s H vs Q E hr h => ⟨_, pss_cons (ps_set (i := 1) scLb.nd rfl (Or.inl rfl) (pe_lst pa_nil))
    (pss_cons (ps_for PassesOwn.never rfl (pi_list (pv 0)) (pg_name (i := 2) scLb.nd rfl (Or.inl rfl))
      (pss_cons (ps_while PassesOwn.never (PW.pt (pw_and (pt_cmpR op_ge (pe_callB call_len_seq (by rfl) G.len PySem.boot_len (pa_cons (pv 1) pa_nil)) pe_int (nomark _))
          (pw_and1 (pt_cmpR op_le (pe_call G1 hr rfl N1.g N1.kp N1.b .nil pass0 (pa_cons (pe_ix ix_list (pv 1) (pe_un un_neg pe_int) (fun _ _ => rfl))
            (pa_cons (pe_ix ix_list (pv 1) (pe_un un_neg pe_int) (fun _ _ => rfl)) (pa_cons (pv 2) pa_nil)))) pe_int (nomark _)))))
        (pss_one (ps_expr (pe_bm0 PySem.F.plainAttrs_list PySem.F.slot_list_pop PySem.F.type_list_pop mt_pop (pv 1)))))
      (pss_one (ps_expr (pe_bm PySem.F.plainAttrs_list PySem.F.slot_list_append PySem.F.type_list_append mt_append (pv 1) (pa_cons (pv 2) pa_nil))))))
    (pss_one (ps_ret (pv 1)))), ?_⟩)
  · obtain ⟨a, xs, ps, rfl, _⟩ := h
    rfl
  · obtain ⟨a, xs, ps, rfl, hA, hP, hS, hl, q⟩ := h
    refine ⟨(by show 0 ≤ sizeLine; omega), fun c hc => ?_⟩
    have sA : ∀ {H' : Hp}, Same H H' → Pts K H' xs ps := fun e => hP.mono e
    refine ⟨_, rfl, a, rfl, ⟨_, (same_new hc).seq hA⟩, for_list (K := K) (a := a) (xs := xs)
      (fun i σ H' => ∃ (v : Option V) (cs : List V), σ = [some (.ref a), some (.ref c), v] ∧ Same H H' ∧ H' c = some (.lst cs) ∧ Pts K H' cs ((ps.take i).foldl Pg.bend []).reverse)
      ⟨none, [], rfl, same_new hc, upd_same, .nil⟩ (fun i σ H' _ ⟨_, _, _, s1, _⟩ => s1.seq hA) ?_ ?_⟩
    · rintro i x σ H' hi ⟨v, cs, rfl, s1, hcs, hpt⟩
      obtain ⟨p, hp, px⟩ := hP.get hi
      have pS := hS p (List.mem_of_getElem? hp)
      have memS : ∀ y ∈ (ps.take i).foldl Pg.bend [], Sm y := by
        intro y hy
        rcases fold_mem _ _ y hy with h | h
        · cases h
        · exact hS y (List.mem_of_mem_take h)
      refine ⟨fun m σ H2 => ∃ (cs : List V) (S : List Pt), m = cs.length ∧ σ = [some (.ref a), some (.ref c), some x] ∧ Same H H2 ∧ H2 c = some (.lst cs) ∧ Pts K H2 cs S.reverse ∧
          Pg.popW p S = Pg.popW p ((ps.take i).foldl Pg.bend []) ∧ (∀ y ∈ S, Sm y) ∧ S.length ≤ 100000, ⟨_, cs, _, rfl, rfl, s1, hcs, hpt, rfl, memS, ?_⟩, ?_⟩
      · have := fold_len (ps.take i) []
        rw [List.length_take] at this
        simp at this
        omega
      · rintro m σ H2 ⟨cs, S, rfl, rfl, s2, hcs, hpt, hpop, memS, hlS⟩
        have hlen : cs.length = S.length := by rw [hpt.length, List.length_reverse]
        refine ⟨_, rfl, c, cs, rfl, .inl (.inl (.inl hcs)), _, _, rfl, rfl, _, rfl, ?_⟩
        have fin : ∀ H3, Same H2 H3 → Pg.popW p S = S → (∃ v cs', [some (V.ref a), some (V.ref c), some x] = [some (.ref a), some (.ref c), v] ∧ Same H (upd H3 c (.lst (cs ++ [x]))) ∧
            (upd H3 c (.lst (cs ++ [x]))) c = some (.lst cs') ∧ Pts K (upd H3 c (.lst (cs ++ [x]))) cs' ((ps.take (i + 1)).foldl Pg.bend []).reverse) := by
          intro H3 s3 e
          refine ⟨some x, _, rfl, same_mut (s2.trans s3) hc, upd_same, ?_⟩
          rw [bends_more hp, ← hpop, e, List.reverse_cons]
          exact ((hpt.mono s3).upd (s3 _ _ hcs)).snoc ((px.mono (s2.trans s3)).upd (s3 _ _ hcs))
        have hsz : cs.length < sizeLine := by
          rw [hlen]
          exact Nat.lt_of_le_of_lt hlS (by decide)
        match S, hpt, hpop, memS, hlen, hlS, fin with
        | [], hpt, hpop, memS, hlen, _, fin =>
          refine if_false_of (decide_eq_false (by simp [hlen])) ?_
          exact if_false_of rfl (lb_app hcs hsz (fin _ (fun _ _ h => h) rfl))
        | [b], hpt, hpop, memS, hlen, _, fin =>
          refine if_false_of (decide_eq_false (by simp [hlen])) ?_
          exact if_false_of rfl (lb_app hcs hsz (fin _ (fun _ _ h => h) rfl))
        | b :: a' :: r, hpt, hpop, memS, hlen, hlS, fin =>
          refine if_true_of (decide_eq_true (by simp [hlen]; omega)) ?_
          have hpt' := hpt
          rw [List.reverse_cons, List.reverse_cons] at hpt'
          obtain ⟨us1, vb, rfl, hpt1, pb⟩ := hpt'.unsnoc
          obtain ⟨us, va, rfl, hpt2, pa⟩ := hpt1.unsnoc
          have sq : SqL K H2 c (us ++ [va, vb]) := by
            have := hcs
            rw [List.append_assoc] at this
            exact .inl (.inl this)
          have sq1 : SqL K H2 c (us ++ [va] ++ [vb]) := .inl (.inl hcs)
          refine ⟨_, rfl, _, rfl, c, _, _, _, rfl, rfl, sq, atI_two us va vb, _, rfl, _, rfl, c, _, _, _, rfl, rfl, sq1, atI_last _ vb, _, rfl, va, vb, x, a', b, p, rfl, pa, pb, px.mono s2,
            memS a' (by simp), memS b (by simp), pS, fun H3 s3 => ⟨_, _, rfl, rfl, _, rfl, ?_⟩⟩
          have hcs3 := s3 _ _ hcs
          by_cases ht : Pg.tr a' b p ≤ 0
          · refine if_true_of (decide_eq_true ht) ?_
            refine ⟨_, fun σ' H' h => h, ?_⟩
            refine ⟨_, rfl, .inl ⟨rfl, _, .inl (.inl hcs3)⟩, c, _, vb, rfl, rfl, hcs3, (by simp), ?_⟩
            refine ⟨_, (by simp), _, a' :: r, rfl, rfl, same_mut (s2.trans s3) hc, upd_same, ?_, ?_, fun y hy => memS y (List.mem_cons_of_mem _ hy), (by simp at hlS ⊢; omega)⟩
            · rw [List.dropLast_concat, List.reverse_cons]
              exact (hpt1.mono s3).upd hcs3
            · rw [← hpop]
              conv => rhs; unfold Pg.popW
              rw [if_pos ht]
          · refine if_false_of (decide_eq_false ht) (lb_app hcs3 hsz (fin H3 s3 ?_))
            unfold Pg.popW
            rw [if_neg ht]
    · rintro σ H' ⟨v, cs, rfl, s1, hcs, hpt⟩
      refine ⟨_, rfl, q H' c cs s1 hc hcs ?_⟩
      have : ps.take xs.length = ps := by rw [hP.length, List.take_length]
      rw [this] at hpt
      exact hpt
end
end Pw
end

section
namespace Pw
open PySem PySem.Spec PyProof.Rows L2
open Pg (Pt)
def ptOf (q : Addr × List Int) : Pt := (fst2 q, snd2 q)
section
variable {P : Program} {w : World} {K : PySem.W.Frag} {mg : Str → Option Value} {base : Heap}
theorem Pts.keys {H : Hp} : ∀ {xs : List V} {ps : List Pt}, Pts K H xs ps → ∃ ks : List (Addr × List Int), xs = ks.map (fun p => V.ref p.1) ∧
    (∀ p ∈ ks, SqT K H p.1 (p.2.map V.int)) ∧ (∀ p ∈ ks, p.2.length = 2) ∧ ks.map ptOf = ps
  | _, _, .nil => ⟨[], rfl, by simp, by simp, rfl⟩
  | _, _, .cons (p := p) ⟨t, e, h⟩ r => by
    obtain ⟨ks, e1, h1, h2, e2⟩ := r.keys
    refine ⟨(t, [p.1, p.2]) :: ks, by rw [e, e1]; rfl, ?_, ?_, by rw [← e2]; rfl⟩
    · intro q hq
      rcases List.mem_cons.1 hq with rfl | hq
      · exact h
      · exact h1 q hq
    · intro q hq
      rcases List.mem_cons.1 hq with rfl | hq
      · rfl
      · exact h2 q hq
theorem pts_of {H : Hp} : ∀ {M : List (Addr × List Int)}, (∀ p ∈ M, SqT K H p.1 (p.2.map V.int)) → (∀ p ∈ M, p.2.length = 2) → Pts K H (M.map fun q => V.ref q.1) (M.map ptOf)
  | [], _, _ => .nil
  | q :: M, h1, h2 => by
    refine .cons ⟨q.1, rfl, ?_⟩ (pts_of (fun p hp => h1 p (List.mem_cons_of_mem _ hp)) fun p hp => h2 p (List.mem_cons_of_mem _ hp))
    have h := h1 q List.mem_cons_self
    have l := h2 q List.mem_cons_self
    obtain ⟨a, ks⟩ := q
    match ks, l with
    | [x, y], _ => exact h
theorem key_of {q r : Addr × List Int} (hq : q.2.length = 2) (hr : r.2.length = 2) : ptOf q = ptOf r ↔ q.2 = r.2 := by
  obtain ⟨a, ks⟩ := q
  obtain ⟨b, ls⟩ := r
  match ks, hq, ls, hr with
  | [x, y], _, [z, u], _ =>
    show ((x, y) : Pt) = (z, u) ↔ [x, y] = [z, u]
    simp
/-- what sorted gives is what the specification takes -/
theorem ordered_is {ks L M : List (Addr × List Int)} {ps : List Pt} (e : ks.map ptOf = ps) (h2 : ∀ p ∈ ks, p.2.length = 2) (sub : ∀ p ∈ L, p ∈ ks) (all : ∀ p ∈ ks, p.2 ∈ L.map (·.2))
    (pm : M.Perm L) (nd : (M.map (·.2)).Nodup) (srt : M.Pairwise leP) : M.map ptOf = Sq68.inOrder ps := by
  have subM : ∀ p ∈ M, p ∈ ks := fun p hp => sub p (pm.mem_iff.1 hp)
  refine (Pg.inOrder_of ?_ fun x => ?_).symm
  · rw [Pg.Sorted, List.pairwise_map]
    rw [List.Nodup, List.pairwise_map] at nd
    refine List.Pairwise.imp_of_mem (fun {p q} hp hq h => ?_) (srt.and nd)
    obtain ⟨hle, hne⟩ := h
    have hk : ptOf p ≠ ptOf q := fun e => hne ((key_of (h2 p (subM p hp)) (h2 q (subM q hq))).1 e)
    rcases Pg.lx_tri (ptOf p) (ptOf q) with h | h | h
    · exact h
    · exact absurd h hk
    · exfalso
      unfold leP at hle
      unfold Pg.lx ptOf at h
      simp only at h
      omega
  · rw [← e]
    constructor
    · intro hx
      obtain ⟨p, hp, rfl⟩ := List.mem_map.1 hx
      exact List.mem_map_of_mem (subM p hp)
    · intro hx
      obtain ⟨p, hp, rfl⟩ := List.mem_map.1 hx
      obtain ⟨q, hq, e2⟩ := List.mem_map.1 (all p hp)
      have hqM := pm.mem_iff.2 hq
      rw [(key_of (h2 p hp) (h2 q (sub q hq))).2 e2.symm]
      exact List.mem_map_of_mem hqM

theorem cut_last (xs : List V) : cutV xs none (some (-1)) = xs.dropLast := by
  have e : HT.sIx xs.length xs.length (some (-1)) = xs.length - 1 := by
    show (if (-1 : Int) < 0 then ((-1 : Int) + (xs.length : Int)).toNat else min (-1 : Int).toNat xs.length) = _
    rw [if_pos (by decide)]
    omega
  show (xs.drop 0).take (HT.sIx xs.length xs.length (some (-1)) - 0) = _
  rw [e, List.dropLast_eq_take, List.drop_zero, Nat.sub_zero]

/-! ### corners_between -/
theorem corners_one {ps : List Pt} (h : (Sq68.inOrder ps).length = 1) : Sq68.corners ps = Sq68.inOrder ps := by
  unfold Sq68.corners
  revert h
  generalize Sq68.inOrder ps = o
  intro h
  match o, h with
  | [x], _ =>
    have e : Sq68.inOrder [x] = [x] := rfl
    have := Pg.round_len1 x
    unfold Sq68.corners at this
    rw [e] at this
    exact this
theorem corners_many {ps : List Pt} (h : ¬ (Sq68.inOrder ps).length = 1) : Pg.around (Sq68.inOrder ps) = Sq68.corners ps := by
  by_cases h2 : 2 ≤ (Sq68.inOrder ps).length
  · exact (Pg.corners_cyc h2).2
  · have h0 : Sq68.inOrder ps = [] := List.eq_nil_of_length_eq_zero (by omega)
    unfold Sq68.corners
    rw [h0]
    rfl
theorem corners_few (ps : List Pt) : (Sq68.corners ps).length < 3 ↔ (Pg.around (Sq68.inOrder ps)).length < 3 := by
  rw [Pg.around_flat]
  constructor
  · exact Pg.twice_small
  · intro ht
    refine Nat.not_le.1 fun h3 => ?_
    have h2 : 2 ≤ (Sq68.inOrder ps).length := by
      have := Pg.corners_short (l := ps)
      omega
    have := Pg.twice_pos (Pg.corners_cyc h2).1 h3
    omega
def spCb (K : PySem.W.Frag) : Sp := fun vs H Q _ => ∃ (a : Addr) (xs : List V) (ps : List Pt), vs = [.ref a] ∧ ((SqL K H a xs ∧ ps.length < 1229) ∨ (SqT K H a xs ∧ ps.length < 64)) ∧ Pts K H xs ps ∧ (∀ p ∈ ps, Sm p) ∧
  ∀ H' p cs, Same H H' → H p = none → H' p = some (.lst cs) → Pts K H' cs (Sq68.corners ps) → Q (.ref p) H'
theorem scCb : FnScope ["places", "ordered", "below", "above"] ["places"] (defScope sCb) := ⟨rfl, rfl, rfl, by decide +kernel, rfl, by decide +kernel, by decide +kernel⟩

theorem around_len (o : List Pt) : (Pg.around o).length ≤ 2 * o.length := by
  unfold Pg.around
  rw [List.length_append, List.length_dropLast, List.length_dropLast]
  have h1 := bends_len o
  have h2 := bends_len o.reverse
  rw [List.length_reverse] at h2
  omega
/-- the reading from the sorted list on -/
theorem cb_rest {spL : Sp} (hspL : spL = spLb K) {a0 : V} {H0 H1 : Hp} {Q : VK} {o : Addr} {M : List V} {os : List Pt} (s1 : Same H0 H1) (ho : H1 o = some (.lst M)) (hp : Pts K H1 M os) (hS : ∀ p ∈ os, Sm p) (hl : os.length < 1229)
    (q : ∀ H' p cs, Same H0 H' → H0 p = none → H' p = some (.lst cs) → Pts K H' cs (Pg.around os) → Q (.ref p) H') :
    tSeq (tAsg (tCall spL [] E0 (tCons (tVar 1) tNil)) (gName 2))
      (tSeq (tAsg (tCall spL [] E0 (tCons (tLstRev K (tVar 1)) tNil)) (gName 3))
        (tRet (tOp rCat (tSl (rSlL K) (tVar 2) tNoPart (tPart (tUn (rU fun i => .int (-i)) (tC (.int 1))))) (tSl (rSlL K) (tVar 3) tNoPart (tPart (tUn (rU fun i => .int (-i)) (tC (.int 1))))))))
      { nx := fun _ H' => Q .non H', rt := Q } [some a0, some (.ref o), none, none] H1 := by
  subst hspL
  refine ⟨_, rfl, o, M, os, rfl, .inl (.inl ho), hp, hS, by omega, fun H2 b below s2 nb hb pb => ?_⟩
  have ho2 : H2 o = some (.lst M) := s2 _ _ ho
  refine ⟨_, rfl, o, M, rfl, .inl (.inl ho2), fun r hr => ?_⟩
  have s3 : Same H2 (upd H2 r (.lst M.reverse)) := same_new hr
  refine ⟨r, M.reverse, os.reverse, rfl, .inl (.inl upd_same), ((hp.mono s2).mono s3).reverse, fun p h => hS p (List.mem_reverse.1 h), by rw [List.length_reverse]; omega, fun H3 c above s4 nc hc pc => ?_⟩
  have hb3 : H3 b = some (.lst below) := s4 _ _ (s3 _ _ hb)
  refine ⟨_, rfl, _, rfl, _, rfl, b, below, rfl, .inl (.inl hb3), fun d hd => ?_⟩
  refine ⟨_, rfl, _, rfl, _, rfl, c, above, rfl, .inl (.inl (same_new hd _ _ hc)), fun e he => ?_⟩
  have s5 : Same H3 (upd H3 d (.lst (cutV below none (some (-1))))) := same_new hd
  have s6 : Same (upd H3 d (.lst (cutV below none (some (-1))))) (upd (upd H3 d (.lst (cutV below none (some (-1))))) e (.lst (cutV above none (some (-1))))) := same_new he
  have lb : below.length ≤ os.length := by rw [pb.length]; exact bends_len os
  have la : above.length ≤ os.length := by
    rw [pc.length]
    have := bends_len os.reverse
    rwa [List.length_reverse] at this
  refine ⟨d, e, _, _, rfl, rfl, s6 _ _ upd_same, upd_same, ?_, fun f hf => ?_⟩
  · have h1 := cutV_length below none (some (-1))
    have h2 := cutV_length above none (some (-1))
    exact Nat.le_trans (show _ ≤ 3000 by omega) (by decide)
  · have s7 := same_new (o := .lst (cutV below none (some (-1)) ++ cutV above none (some (-1)))) hf
    have sall : Same H1 (upd (upd (upd H3 d (.lst (cutV below none (some (-1))))) e (.lst (cutV above none (some (-1))))) f (.lst (cutV below none (some (-1)) ++ cutV above none (some (-1))))) :=
      (((((s2.trans s3).trans s4).trans s5).trans s6).trans s7)
    refine q _ f _ (s1.trans sall) ?_ upd_same ?_
    · exact (s1.trans ((((s2.trans s3).trans s4).trans s5).trans s6)).free hf
    · rw [cut_last, cut_last]
      have k1 : Pts K H3 below.dropLast (Pg.bends os).dropLast := (((pb.mono s3).mono s4)).dropLast
      have k2 : Pts K H3 above.dropLast (Pg.bends os.reverse).dropLast := pc.dropLast
      have := k1.append k2
      rw [cut_last, cut_last] at s7 s6
      rw [cut_last] at s5
      exact ((this.mono s5).mono s6).mono s7

theorem ok_cb (G : Own mg) {f f1 : Addr} {fd fd1 : FuncData} (F : Fun K "corners_between" "corners_between" sCb f fd) (N1 : Dn K mg "left_bends" f1 fd1 ["places"])
    (G1 : FnOk P w K mg base CX0 3 f1 fd1 ["places"] (spLb K)) : FnOk P w K mg base CX0 4 f fd ["places"] (spCb K) := by
  refine F.ok scCb (fun vs H Q E h => ?_) (fun cdv A outer s H vs Q E hr h => ?_)
  · obtain ⟨a, xs, ps, rfl, _⟩ := h
    rfl
  · obtain ⟨a, xs, ps, rfl, hA, hP, hS, q⟩ := h
    obtain ⟨ks, ex, hk, h2, ep⟩ := hP.keys
    have lenk : ks.length = ps.length := by
      have := congrArg List.length ep
      rwa [List.length_map] at this
    refine ⟨_, pss_cons (ps_set (i := 1) scCb.nd rfl (Or.inl rfl) (pe_callB (cr_sortB rfl hr.units) (by rfl) G.sorted PyProof.Rows.boot_sorted (pa_cons
        (pe_callTy (cr_setB rfl hr.units) (by rfl) G.set PyProof.Rows.boot_set (pa_cons (pv 0) pa_nil)) pa_nil)))
      (pss_cons (ps_if (pt_cmpR op_eq (pe_callB call_len_seq (by rfl) G.len PySem.boot_len (pa_cons (pv 1) pa_nil)) pe_int (nomark _)) (pss_one (ps_ret (pv 1))) pss_nil)
      (pss_cons (ps_set (i := 2) scCb.nd rfl (Or.inl rfl) (pe_call G1 hr rfl N1.g N1.kp N1.b .nil pass0 (pa_cons (pv 1) pa_nil)))
      (pss_cons (ps_set (i := 3) scCb.nd rfl (Or.inl rfl) (pe_call G1 hr rfl N1.g N1.kp N1.b .nil pass0 (pa_cons (pe_lstRev rfl (by rfl) G.list (by rfl) G.reversed (pv 1)) pa_nil)))
      (pss_one (ps_ret (pe_op op_cat (pe_slice sl_list (pv 2) po_none (po_some (pe_un un_neg pe_int))) (pe_slice sl_list (pv 3) po_none (po_some (pe_un un_neg pe_int))))))))), ?_⟩
    rw [ex] at hA
    refine ⟨_, rfl, a, ks, rfl, by rw [lenk]; exact hA, hk, fun b L nb sub all => ?_⟩
    refine ⟨b, L, rfl, upd_same, fun p hp => ⟨same_t (same_new nb) (hk p (sub p hp)), h2 p (sub p hp)⟩, fun M o pm nd lm srt no => ?_⟩
    have s1 : Same H (upd (upd H b (SetBO P w b L)) o (.lst (M.map fun q => V.ref q.1))) := (same_new nb).trans (same_new no)
    have e := ordered_is ep h2 sub all pm nd srt
    have pm' : Pts K (upd (upd H b (SetBO P w b L)) o (.lst (M.map fun q => V.ref q.1))) (M.map fun q => V.ref q.1) (Sq68.inOrder ps) := by
      rw [← e]
      have subM : ∀ p ∈ M, p ∈ ks := fun p hp => sub p (pm.mem_iff.1 hp)
      exact (pts_of (fun p hp => hk p (subM p hp)) fun p hp => h2 p (subM p hp)).mono s1
    have lmM : (M.map fun q => V.ref q.1).length = (Sq68.inOrder ps).length := pm'.length
    refine ⟨_, rfl, o, _, rfl, .inl (.inl (.inl upd_same)), rfl, _, rfl, ?_⟩
    by_cases h1 : (Sq68.inOrder ps).length = 1
    · refine if_true_of (decide_eq_true (by rw [lmM, h1]; rfl)) ?_
      refine ⟨_, rfl, q _ o _ s1 ((same_new nb).free no) upd_same ?_⟩
      rw [corners_one h1]
      exact pm'
    · refine if_false_of (decide_eq_false (by rw [lmM]; intro z; injection z; omega)) ?_
      refine cb_rest rfl s1 upd_same (os := Sq68.inOrder ps) pm' (fun p hp => hS p ((Pg.mem_inOrder ps p).1 hp)) ?_ (fun H' p cs s hn hp hc => q H' p cs s hn hp (by rw [← corners_many h1]; exact hc))
      rw [← e, List.length_map]
      exact lm
end
end Pw
end

section
namespace Pw
open PySem PySem.Spec PyProof.Rows L2
open Pg (Pt)
/-! ### the class Polygon -/
def polF (D : Int) (l : Addr) : List (Str × V) := [("scale", .int D), ("corners", .ref l)]
def PolyAt (K : PySem.W.Frag) (CP : Addr) (H : Hp) (a : Addr) (p : Sq71.Polygon) : Prop :=
  ∃ dx l vs, H a = some (.ins CP dx (polF p.D l)) ∧ H l = some (.lst vs) ∧ Pts K H vs p.cs
theorem PolyAt.mono {K : PySem.W.Frag} {CP : Addr} {H H' : Hp} {a : Addr} {p : Sq71.Polygon} (e : Same H H') (h : PolyAt K CP H a p) : PolyAt K CP H' a p := by
  obtain ⟨dx, l, vs, h1, h2, h3⟩ := h
  exact ⟨dx, l, vs, e _ _ h1, e _ _ h2, h3.mono e⟩
/-- a polygon that is new, its list of corners too -/
def PolyN (K : PySem.W.Frag) (CP : Addr) (H H' : Hp) (a : Addr) (p : Sq71.Polygon) : Prop :=
  H a = none ∧ ∃ dx l vs, H' a = some (.ins CP dx (polF p.D l)) ∧ H' l = some (.lst vs) ∧ Pts K H' vs p.cs ∧ H l = none
theorem PolyN.at {K : PySem.W.Frag} {CP : Addr} {H H' : Hp} {a : Addr} {p : Sq71.Polygon} (h : PolyN K CP H H' a p) : PolyAt K CP H' a p := by
  obtain ⟨_, dx, l, vs, h1, h2, h3, _⟩ := h
  exact ⟨dx, l, vs, h1, h2, h3⟩
theorem PolyN.from {K : PySem.W.Frag} {CP : Addr} {H0 H H' : Hp} {a : Addr} {p : Sq71.Polygon} (e : Same H0 H) (h : PolyN K CP H H' a p) : PolyN K CP H0 H' a p := by
  obtain ⟨h0, dx, l, vs, h1, h2, h3, h4⟩ := h
  exact ⟨e.free h0, dx, l, vs, h1, h2, h3, e.free h4⟩
theorem lk_here {k : Str} {v : V} {r : List (Str × V)} : List.lookup k ((k, v) :: r) = some v := by
  have e : (k == k) = true := beq_self_eq_true k
  simp only [List.lookup, e]
theorem lk_past {k g : Str} {v : V} {r : List (Str × V)} (h : (k == g) = false) : List.lookup k ((g, v) :: r) = List.lookup k r := by
  simp only [List.lookup, h]
theorem put_here {f : Str} {v x : V} {r : List (Str × V)} : putF f v ((f, x) :: r) = (f, v) :: r := if_pos rfl
theorem put_past {f g : Str} {v x : V} {r : List (Str × V)} (h : ¬ g = f) : putF f v ((g, x) :: r) = (g, x) :: putF f v r := if_neg h
theorem polF_scale (D : Int) (l : Addr) : (polF D l).lookup ("scale" : Str) = some (.int D) := lk_here
theorem polF_corners (D : Int) (l : Addr) : (polF D l).lookup ("corners" : Str) = some (.ref l) := (lk_past (by decide +kernel)).trans lk_here
theorem polF_new (x y : V) : putF "corners" y (putF "scale" x []) = ([("scale", x), ("corners", y)] : List (Str × V)) := (put_past (by decide +kernel)).trans rfl
/-- what the top has written of the class -/
structure TP (K : PySem.W.Frag) (mg : Str → Option Value) (CP : Addr) : Prop where
  cl : Cls K CP
  nS : NoAttr K CP "scale"
  nC : NoAttr K CP "corners"
  g : mg "Polygon" = some (.ref CP)
def spPi (CP : Addr) : Sp := fun vs H Q _ => ∃ (p dx : Addr) (x y : V), vs = [.ref p, x, y] ∧ H p = some (.ins CP dx []) ∧
  ∀ H' : Hp, H' p = some (.ins CP dx [("scale", x), ("corners", y)]) → (∀ b o, H b = some o → b ≠ p → H' b = some o) → Q .non H'
section
variable {P : Program} {w : World} {K : PySem.W.Frag} {mg : Str → Option Value} {base : Heap} {CP : Addr}
theorem scPi : FnScope ["self", "scale", "corners"] ["self", "scale", "corners"] (defScope sPolyInit) := ⟨rfl, rfl, rfl, by decide +kernel, rfl, by decide +kernel, by decide +kernel⟩
theorem ok_pi (T : TP K mg CP) {f : Addr} {fd : FuncData} (F : Fun K "__init__" "Polygon.__init__" sPolyInit f fd) : FnOk P w K mg base CX0 1 f fd ["self", "scale", "corners"] (spPi CP) := by
  refine F.ok scPi (fun vs H Q E h => ?_) (fun cdv A outer s H vs Q E hr h => ⟨_, pss_cons (ps_fld (pv 0) (pv 1) rfl) (pss_one (ps_fld (pv 0) (pv 2) rfl)), ?_⟩)
  · obtain ⟨p, dx, x, y, rfl, _⟩ := h
    rfl
  · obtain ⟨p, dx, x, y, rfl, hp, k⟩ := h
    refine ⟨_, rfl, _, rfl, p, CP, dx, [], rfl, hp, T.cl, T.nS, (by show 0 < 1000; decide), ?_⟩
    refine ⟨_, rfl, _, rfl, p, CP, dx, _, rfl, upd_same, T.cl, T.nC, (by show 1 < 1000; decide), ?_⟩
    refine k _ (Eq.trans upd_same (congrArg (fun q => some (HO.ins CP dx q)) (polF_new x y))) fun b o e hb => ?_
    rw [upd_ne hb, upd_ne hb]
    exact e

/-! ### polygon_between -/
def spPb (K : PySem.W.Frag) (CP : Addr) : Sp := fun vs H Q _ => ∃ (D : Nat) (a : Addr) (xs : List V) (ps : List Pt), vs = [.int D, .ref a] ∧ 0 < D ∧ D < lim ∧ SqA K H a xs ∧ Pts K H xs ps ∧ (∀ p ∈ ps, Sm p) ∧ ps.length < 64 ∧
  ((Pg.around (Sq68.inOrder ps)).length < 3 → ∀ H', Same H H' → Q .non H') ∧
  (3 ≤ (Pg.around (Sq68.inOrder ps)).length → ∀ H' p, Same H H' → PolyN K CP H H' p (Pg.red D (Sq68.corners ps)) → Q (.ref p) H')
theorem scPb : FnScope ["scale", "places", "corners", "spare", "x", "y"] ["scale", "places"] (defScope sPb) := ⟨rfl, rfl, rfl, by decide +kernel, rfl, by decide +kernel, by decide +kernel⟩
abbrev gc (g : Nat) (p : Pt) : Nat := Nat.gcd g (Nat.gcd p.1.natAbs p.2.natAbs)
theorem fold_more {α β : Type} {f : β → α → β} {b : β} {l : List α} {i : Nat} {x : α} (h : l[i]? = some x) : (l.take (i + 1)).foldl f b = f ((l.take i).foldl f b) x := by
  rw [List.take_add_one, h, Option.toList_some, List.foldl_append]
  rfl
theorem map_more {α β : Type} {f : α → β} {l : List α} {i : Nat} {x : α} (h : l[i]? = some x) : (l.take (i + 1)).map f = (l.take i).map f ++ [f x] := by
  rw [List.take_add_one, h, Option.toList_some, List.map_append]
  rfl
theorem ok_pb (G : Own mg) (T : TP K mg CP) {f f1 f2 f3 : Addr} {fd fd1 fd2 fd3 : FuncData} (F : Fun K "polygon_between" "polygon_between" sPb f fd)
    (N1 : Dn K mg "corners_between" f1 fd1 ["places"]) (G1 : FnOk P w K mg base CX0 4 f1 fd1 ["places"] (spCb K))
    (N2 : Dn K mg "common_divisor" f2 fd2 ["one", "other"]) (G2 : FnOk P w K mg base CX0 1 f2 fd2 ["one", "other"] spCd)
    (M : Mk K CP f3) (b3 : Binds K fd3 ["self", "scale", "corners"] []) (G3 : FnOk P w K mg base CX0 1 f3 fd3 ["self", "scale", "corners"] (spPi CP)) :
    FnOk P w K mg base CX0 5 f fd ["scale", "places"] (spPb K CP) := by
  refine F.ok scPb (fun vs H Q E h => ?_) (fun cdv A outer s H vs Q E hr h => ⟨_,
    pss_cons (ps_set (i := 2) scPb.nd rfl (Or.inl rfl) (pe_call G1 hr rfl N1.g N1.kp N1.b .nil pass0 (pa_cons (pv 1) pa_nil)))
    (pss_cons (ps_if (pt_cmpR op_lt (pe_callB call_len_seq (by rfl) G.len PySem.boot_len (pa_cons (pv 2) pa_nil)) pe_int (nomark _)) (pss_one (ps_ret pe_non)) pss_nil)
    (pss_cons (ps_set (i := 3) scPb.nd rfl (Or.inr rfl) (pv 0))
    (pss_cons (ps_for PassesOwn.never rfl (pi_list (pv 2)) (pg_tup rfl (pgs_cons (pg_name (i := 4) scPb.nd rfl (Or.inl rfl)) (pgs_cons (pg_name (i := 5) scPb.nd rfl (Or.inl rfl)) pgs_nil)))
      (pss_one (ps_set (i := 3) scPb.nd rfl (Or.inr rfl) (pe_call G2 (hr.mono (by decide)) rfl N2.g N2.kp N2.b .nil pass0 (pa_cons (pv 3) (pa_cons
        (pe_call G2 (hr.mono (by decide)) rfl N2.g N2.kp N2.b .nil pass0 (pa_cons (pv 4) (pa_cons (pv 5) pa_nil))) pa_nil))))))
    (pss_one (ps_ret (pe_make M G3 (hr.mono (by decide)) rfl T.g b3 .nil pass0 (pa_cons (pe_op op_fdivW (pv 0) (pv 3)) (pa_cons
      (pe_lc (own := [("x", 4), ("y", 5)]) (g := gTup K 2 (gCons (gName 4) (gCons (gName 5) gNil))) (tt := tYes) rfl scPb.nd (pi_list (pv 2))
        (blkOk_by (N := ["scale", "places", "corners", "spare", "x", "y"]) (sc := defScope sPb) (by decide +kernel))
        (fun _ _ _ _ _ => pg_tup rfl (pgs_cons (pg_name (i := 4) scPb.nd rfl (Or.inl rfl)) (pgs_cons (pg_name (i := 5) scPb.nd rfl (Or.inl rfl)) pgs_nil)))
        (fun _ _ _ _ _ => pts_nil) (fun _ _ _ _ _ => pe_tup (pa_cons (pe_op op_fdivW (pv 4) (pv 3)) (pa_cons (pe_op op_fdivW (pv 5) (pv 3)) pa_nil)))) pa_nil)))))))), ?_⟩)
  · obtain ⟨D, a, xs, ps, rfl, _⟩ := h
    rfl
  · obtain ⟨D, a, xs, ps, rfl, hD, lD, hA, hP, hS, hl, qN, qS⟩ := h
    refine ⟨_, rfl, a, xs, ps, rfl, hA.imp (fun z => ⟨z, by omega⟩) (fun z => ⟨z, hl⟩), hP, hS, fun H1 c cs s1 nc hc pc => ?_⟩
    refine ⟨_, rfl, c, cs, rfl, .inl (.inl (.inl hc)), _, _, rfl, rfl, _, rfl, ?_⟩
    have few := corners_few ps
    by_cases h3 : (Pg.around (Sq68.inOrder ps)).length < 3
    · refine if_true_of (decide_eq_true (by rw [pc.length]; omega)) ?_
      exact qN h3 H1 s1
    · refine if_false_of (decide_eq_false (by rw [pc.length]; omega)) ?_
      have ear := Pg.around_eq (l := ps) (by omega)
      have hlc : (Sq68.corners ps).length ≤ 100000 := by
        rw [← ear]
        have h1 := around_len (Sq68.inOrder ps)
        have h2 : (Sq68.inOrder ps).length < 100 := by
          have := Pg.nodup_le (Pg.sorted_nodup (Pg.inOrder_sorted ps)) fun x hx => (Pg.mem_inOrder ps x).1 hx
          omega
        omega
      refine ⟨_, rfl, _, rfl, c, rfl, ⟨_, .inl (.inl hc)⟩, for_list (K := K) (a := c) (xs := cs)
        (fun i σ H' => ∃ (v u : Option V), σ = [some (.int D), some (.ref a), some (.ref c), some (.int (((Sq68.corners ps).take i).foldl gc D : Nat)), v, u] ∧ H' = H1)
        ⟨none, none, rfl, rfl⟩ (fun i σ H' _ ⟨_, _, _, e⟩ => by rw [e]; exact .inl (.inl hc)) ?_ ?_⟩
      · rintro i x σ H' hi ⟨v, u, rfl, rfl⟩
        obtain ⟨p, hp, t, rfl, ht⟩ := pc.get hi
        refine ⟨t, _, rfl, ht, rfl, _, _, rfl, _, _, rfl, rfl, ?_⟩
        refine ⟨_, rfl, _, rfl, _, rfl, _, _, rfl, _, _, rfl, ?_⟩
        refine ⟨some (.int p.1), some (.int p.2), ?_, rfl⟩
        rw [fold_more hp]
        rfl
      · rintro σ H' ⟨v, u, rfl, rfl⟩
        have hfull : (Sq68.corners ps).take cs.length = Sq68.corners ps := by rw [pc.length, List.take_length]
        rw [hfull]
        have hsp : (Sq68.corners ps).foldl gc D = Nat.gcd D (Pg.gAll (Sq68.corners ps)) := Pg.spare_all _ _
        rw [hsp]
        have hg : 0 < Nat.gcd D (Pg.gAll (Sq68.corners ps)) := Pg.gcd_pos_left hD
        have hgl : Nat.gcd D (Pg.gAll (Sq68.corners ps)) < lim := Nat.lt_of_le_of_lt (Nat.le_of_dvd hD (Nat.gcd_dvd_left _ _)) lD
        generalize hgg : Nat.gcd D (Pg.gAll (Sq68.corners ps)) = g at hg hgl ⊢
        have wd : ∀ i : Int, CDivW i (g : Int) := fun i => lim_div (by omega) (by rw [Int.natAbs_natCast]; exact hgl)
        refine ⟨_, rfl, _, rfl, _, _, rfl, rfl, wd _, _, rfl, c, rfl, ⟨_, .inl (.inl hc)⟩, fun Dl hDl => ?_⟩
        refine lc_all (walk_list (xs := cs)) (fun i H2 => Same H' H2 ∧ ∃ vs, H2 Dl = some (.lst vs) ∧ Pts K H2 vs (((Sq68.corners ps).take i).map fun p => ((p.1 / (g : Int), p.2 / (g : Int)) : Pt)))
          ⟨same_new hDl, [], upd_same, .nil⟩ (fun i H2 _ h => .inl (.inl (h.1 _ _ hc))) ?_ ?_
        · rintro i x H2 H3 hi ⟨s2, vs, hv, pv'⟩ ⟨rfl, e⟩
          obtain ⟨p, hp, t, rfl, ht⟩ := pc.get e
          refine ⟨t, _, rfl, same_t s2 ht, rfl, _, _, rfl, _, _, rfl, rfl, rfl, ?_⟩
          refine ⟨_, rfl, _, rfl, _, _, rfl, rfl, wd _, _, rfl, _, rfl, _, _, rfl, rfl, wd _, (by show 2 ≤ sizeLine; decide), fun q hq => ?_⟩
          have nq : Dl ≠ q := fun e => by rw [← e, hv] at hq; cases hq
          have hv' : (upd H3 q (.tup [.int (p.1 / (g : Int)), .int (p.2 / (g : Int))])) Dl = some (.lst vs) := by rw [upd_ne nq]; exact hv
          refine ⟨vs, hv', ?_, same_mut (s2.trans (same_new hq)) hDl, _, upd_same, ?_⟩
          · rw [pv'.length, List.length_map, List.length_take]
            exact Nat.lt_of_le_of_lt (Nat.le_trans (Nat.min_le_right _ _) hlc) (by decide)
          · rw [map_more hp]
            exact ((pv'.mono (same_new hq)).upd hv').snoc (P2.upd hv' ⟨q, rfl, .inl (.inl upd_same)⟩)
        · rintro H2 ⟨s2, vs, hv, pv'⟩
          intro x dx nx nd ne
          refine ⟨x, dx, _, _, rfl, upd_same, fun H3 hx keep => ⟨rfl, ?_⟩⟩
          have s3 : Same H2 H3 := Same.made nx nd keep
          refine qS (by omega) H3 x ((s1.trans s2).trans s3) ⟨(s1.trans s2).free nx, dx, Dl, vs, ?_, s3 _ _ hv, ?_, s1.free hDl⟩
          · rw [hx]
            unfold Pg.red polF
            rw [hgg]
            rfl
          · unfold Pg.red
            rw [hgg]
            rw [pc.length, List.take_length] at pv'
            exact pv'.mono s3
end
end Pw
end

section
namespace Pw
open PySem PySem.Spec PyProof.Rows L2
open Pg (Pt Tri)
/-- item by item -/
inductive Rel2 {α : Type} (R : V → α → Prop) : List V → List α → Prop
  | nil : Rel2 R [] []
  | cons {v : V} {x : α} {vs : List V} {xs : List α} : R v x → Rel2 R vs xs → Rel2 R (v :: vs) (x :: xs)
section
variable {α : Type} {R S : V → α → Prop}
theorem Rel2.mono (h : ∀ v x, R v x → S v x) : ∀ {vs : List V} {xs : List α}, Rel2 R vs xs → Rel2 S vs xs
  | _, _, .nil => .nil
  | _, _, .cons a r => .cons (h _ _ a) (r.mono h)
theorem Rel2.length : ∀ {vs : List V} {xs : List α}, Rel2 R vs xs → vs.length = xs.length
  | _, _, .nil => rfl
  | _, _, .cons _ r => by rw [List.length_cons, List.length_cons, r.length]
theorem Rel2.append : ∀ {vs : List V} {xs : List α} {us : List V} {ys : List α}, Rel2 R vs xs → Rel2 R us ys → Rel2 R (vs ++ us) (xs ++ ys)
  | _, _, _, _, .nil, h => h
  | _, _, _, _, .cons a r, q => .cons a (r.append q)
theorem Rel2.snoc {vs : List V} {xs : List α} {v : V} {x : α} (h : Rel2 R vs xs) (q : R v x) : Rel2 R (vs ++ [v]) (xs ++ [x]) := h.append (.cons q .nil)
theorem Rel2.get : ∀ {vs : List V} {xs : List α} {i : Nat} {v : V}, Rel2 R vs xs → vs[i]? = some v → ∃ x, xs[i]? = some x ∧ R v x
  | _, _, _, _, .nil, h => by simp at h
  | _, _, 0, _, .cons a _, e => by
    have e' := Option.some.inj e
    subst e'
    exact ⟨_, rfl, a⟩
  | _, _, i + 1, _, .cons _ r, e => r.get (i := i) e
end
/-- a triple in the heap -/
def T3 (K : PySem.W.Frag) (H : Hp) (v : V) (t : Tri) : Prop := ∃ q, v = .ref q ∧ SqT K H q [.int t.1, .int t.2.1, .int t.2.2]
theorem T3.mono {K : PySem.W.Frag} {H H' : Hp} {v : V} {t : Tri} (e : Same H H') (h : T3 K H v t) : T3 K H' v t := by
  obtain ⟨q, rfl, h⟩ := h
  exact ⟨q, rfl, same_t e h⟩
theorem sqT_upd {K : PySem.W.Frag} {H : Hp} {a c : Addr} {xs ys zs : List V} (hc : H c = some (.lst xs)) (h : SqT K H a zs) : SqT K (upd H c (.lst ys)) a zs := by
  rcases h with (h | ⟨o, h⟩) | h
  · refine .inl (.inl ?_)
    rw [upd_ne (fun e => by rw [e, hc] at h; cases h)]
    exact h
  · refine .inl (.inr ⟨o, ?_⟩)
    rw [upd_ne (fun e => by rw [e, hc] at h; cases h)]
    exact h
  · exact .inr h
theorem T3.upd {K : PySem.W.Frag} {H : Hp} {v : V} {t : Tri} {c : Addr} {xs ys : List V} (hc : H c = some (.lst xs)) (h : T3 K H v t) : T3 K (upd H c (.lst ys)) v t := by
  obtain ⟨q, rfl, h⟩ := h
  exact ⟨q, rfl, sqT_upd hc h⟩
def Md (p : Pt) : Prop := p.1.natAbs ≤ 1000000 ∧ p.2.natAbs ≤ 1000000
def Ex8 (e : Int) : Prop := e.natAbs ≤ 100000000
theorem mul_bd {x y : Int} {a b : Nat} (hx : x.natAbs ≤ a) (hy : y.natAbs ≤ b) : (x * y).natAbs ≤ a * b := by
  rw [Int.natAbs_mul]
  exact Nat.mul_le_mul hx hy
theorem cmul_l {i j : Int} (h : i.natAbs ≤ 1000000000000000) : CMul i j := .inl ⟨by omega, by omega⟩
section
variable {P : Program} {w : World} {K : PySem.W.Frag} {mg : Str → Option Value} {base : Heap} {CP : Addr}
/-! ### crossing -/
def spCr (K : PySem.W.Frag) : Sp := fun vs H Q _ => ∃ (u v : V) (a b : Pt) (se ee : Int), vs = [u, .int se, v, .int ee] ∧ P2 K H u a ∧ P2 K H v b ∧ Md a ∧ Md b ∧ Ex8 se ∧ Ex8 ee ∧
  ∀ H' q, Same H H' → H q = none → H' q = some (.tup [.int (Pg.crossing a se b ee).1, .int (Pg.crossing a se b ee).2.1, .int (Pg.crossing a se b ee).2.2]) → Q (.ref q) H'
theorem scCr : FnScope ["start", "start_excess", "end", "end_excess", "times", "sign", "x", "y"] ["start", "start_excess", "end", "end_excess"] (defScope sCr) := ⟨rfl, rfl, rfl, by decide +kernel, rfl, by decide +kernel, by decide +kernel⟩
theorem ok_cr {f : Addr} {fd : FuncData} (F : Fun K "crossing" "crossing" sCr f fd) : FnOk P w K mg base CX0 1 f fd ["start", "start_excess", "end", "end_excess"] (spCr K) := by
  refine F.ok scCr (fun vs H Q E h => ?_) (fun cdv A outer s H vs Q E hr h => ⟨_,
    pss_cons (ps_set (i := 4) scCr.nd rfl (Or.inl rfl) (pe_op op_sub (pv 3) (pv 1)))
    (pss_cons (ps_set (i := 5) scCr.nd rfl (Or.inl rfl) (pe_ifExp (pt_cmpR op_gt (pv 4) pe_int (nomark _)) pe_int (pe_un un_neg pe_int)))
    (pss_cons (ps_set (i := 6) scCr.nd rfl (Or.inl rfl) (pe_op op_sub (pe_op op_mul (pe_ix ix_tup (pv 0) pe_int (fun _ _ => rfl)) (pv 3)) (pe_op op_mul (pe_ix ix_tup (pv 2) pe_int (fun _ _ => rfl)) (pv 1))))
    (pss_cons (ps_set (i := 7) scCr.nd rfl (Or.inl rfl) (pe_op op_sub (pe_op op_mul (pe_ix ix_tup (pv 0) pe_int (fun _ _ => rfl)) (pv 3)) (pe_op op_mul (pe_ix ix_tup (pv 2) pe_int (fun _ _ => rfl)) (pv 1))))
    (pss_one (ps_ret (pe_tup (pa_cons (pe_op op_mul (pv 5) (pv 6)) (pa_cons (pe_op op_mul (pv 5) (pv 7)) (pa_cons (pe_op op_mul (pv 5) (pv 4)) pa_nil))))))))), ?_⟩)
  · obtain ⟨u, v, a, b, se, ee, rfl, _⟩ := h
    rfl
  · obtain ⟨_, _, a, b, se, ee, rfl, ⟨t1, rfl, h1⟩, ⟨t2, rfl, h2⟩, ma, mb, e1, e2, q⟩ := h
    have c1 : ∀ {i j : Int}, i.natAbs ≤ 1000000 → CMul i j := fun h => cmul_l (by omega)
    refine ⟨_, rfl, _, rfl, _, _, rfl, rfl, _, rfl, _, _, rfl, rfl, _, rfl, ?_⟩
    by_cases hs : ee - se > 0
    · refine if_true_of (decide_eq_true hs) ?_
      refine ⟨_, rfl, t1, _, _, _, rfl, rfl, h1, at0, _, rfl, _, _, rfl, rfl, c1 ma.1, _, rfl, t2, _, _, _, rfl, rfl, h2, at0, _, rfl, _, _, rfl, rfl, c1 mb.1, _, _, rfl, rfl, ?_⟩
      refine ⟨_, rfl, t1, _, _, _, rfl, rfl, h1, at1, _, rfl, _, _, rfl, rfl, c1 ma.2, _, rfl, t2, _, _, _, rfl, rfl, h2, at1, _, rfl, _, _, rfl, rfl, c1 mb.2, _, _, rfl, rfl, ?_⟩
      refine ⟨_, rfl, _, rfl, _, _, rfl, rfl, c1 (by decide), _, rfl, _, rfl, _, _, rfl, rfl, c1 (by decide), _, rfl, _, rfl, _, _, rfl, rfl, c1 (by decide), (by show 3 ≤ sizeLine; decide), fun t ht => ?_⟩
      refine q _ t (same_new ht) ht ?_
      unfold Pg.crossing
      rw [if_pos hs]
      exact upd_same
    · refine if_false_of (decide_eq_false hs) ?_
      refine ⟨_, rfl, _, rfl, t1, _, _, _, rfl, rfl, h1, at0, _, rfl, _, _, rfl, rfl, c1 ma.1, _, rfl, t2, _, _, _, rfl, rfl, h2, at0, _, rfl, _, _, rfl, rfl, c1 mb.1, _, _, rfl, rfl, ?_⟩
      refine ⟨_, rfl, t1, _, _, _, rfl, rfl, h1, at1, _, rfl, _, _, rfl, rfl, c1 ma.2, _, rfl, t2, _, _, _, rfl, rfl, h2, at1, _, rfl, _, _, rfl, rfl, c1 mb.2, _, _, rfl, rfl, ?_⟩
      refine ⟨_, rfl, _, rfl, _, _, rfl, rfl, c1 (by decide), _, rfl, _, rfl, _, _, rfl, rfl, c1 (by decide), _, rfl, _, rfl, _, _, rfl, rfl, c1 (by decide), (by show 3 ≤ sizeLine; decide), fun t ht => ?_⟩
      refine q _ t (same_new ht) ht ?_
      unfold Pg.crossing
      rw [if_neg hs]
      exact upd_same

/-! ### left_by_cut -/
def spLc (K : PySem.W.Frag) (CP : Addr) : Sp := fun vs H Q _ => ∃ (p : Addr) (g : Sq71.Polygon) (a b c : Int), vs = [.ref p, .int a, .int b, .int c] ∧ PolyAt K CP H p g ∧ a.natAbs ≤ 20 ∧ b.natAbs ≤ 20 ∧ c.natAbs ≤ 40 ∧
  g.D ≤ 1000 ∧ (∀ q ∈ g.cs, Md q) ∧ g.cs.length ≤ 10000 ∧
  ∀ H' l vs, Same H H' → H l = none → H' l = some (.lst vs) → Rel2 (T3 K H') vs (Pg.left g.D a b c g.cs) → Q (.ref l) H'
theorem scLc : FnScope ["polygon", "a", "b", "c", "corners", "excesses", "left", "k", "x", "y"] ["polygon", "a", "b", "c"] (defScope sLc) := ⟨rfl, rfl, rfl, by decide +kernel, rfl, by decide +kernel, by decide +kernel⟩
theorem exc_bd {g : Sq71.Polygon} {a b c : Int} {q : Pt} (ha : a.natAbs ≤ 20) (hb : b.natAbs ≤ 20) (hc : c.natAbs ≤ 40) (hD : g.D ≤ 1000) (hq : Md q) : Ex8 (Pg.exc g.D a b c q) := by
  unfold Ex8 Pg.exc
  have h1 := mul_bd ha hq.1
  have h2 := mul_bd hb hq.2
  have h3 := mul_bd (y := (g.D : Int)) hc (by rw [Int.natAbs_natCast]; exact hD)
  omega
theorem before2_get {cs : List Pt} {k : Nat} {v : Pt} (h : cs[k]? = some v) : ∃ u, (Pg.before2 cs)[k]? = some (u, v) ∧ atI cs ((k : Int) - 1) = some u ∧ u ∈ cs := by
  have hk : k < cs.length := (List.getElem?_eq_some_iff.1 h).1
  unfold Pg.before2
  have hz : ∀ {u : Pt}, (cs.drop (cs.length - 1) ++ cs.take (cs.length - 1))[k]? = some u → ((cs.drop (cs.length - 1) ++ cs.take (cs.length - 1)).zip cs)[k]? = some (u, v) := by
    intro u hu
    rw [List.getElem?_zip_eq_some]
    exact ⟨hu, h⟩
  cases k with
  | zero =>
    have hl : cs[cs.length - 1]? = some (cs[cs.length - 1]'(by omega)) := by simp [show cs.length - 1 < cs.length by omega]
    refine ⟨cs[cs.length - 1]'(by omega), hz ?_, ?_, List.getElem_mem _⟩
    · rw [List.getElem?_append_left (by simp; omega), List.getElem?_drop, Nat.add_zero]
      exact hl
    · have e : ixN cs.length (((0 : Nat) : Int) - 1) = some (cs.length - 1) := by
        unfold ixN
        rw [if_neg (by decide), if_pos (by omega)]
        congr 1
        omega
      unfold atI
      rw [e]
      exact hl
  | succ k =>
    have hl : cs[k]? = some (cs[k]'(by omega)) := by simp [show k < cs.length by omega]
    refine ⟨cs[k]'(by omega), hz ?_, ?_, List.getElem_mem _⟩
    · have hd : (cs.drop (cs.length - 1)).length = 1 := by simp; omega
      rw [List.getElem?_append_right (by omega), hd, Nat.add_sub_cancel, List.getElem?_take, if_pos (by omega)]
      exact hl
    · have e : (((k + 1 : Nat) : Int) - 1) = (k : Int) := by omega
      rw [e]
      exact atI_nat hl
theorem flat_more {α β : Type} {f : α → List β} {l : List α} {i : Nat} {x : α} (h : l[i]? = some x) : (l.take (i + 1)).flatMap f = (l.take i).flatMap f ++ f x := by
  rw [List.take_add_one, h, Option.toList_some, List.flatMap_append]
  simp
theorem flat_len {cs : List Pt} {D a b c : Int} (i : Nat) : (((Pg.before2 cs).take i).flatMap (Pg.leftOf D a b c)).length ≤ 2 * i := by
  induction i with
  | zero => simp
  | succ i ih =>
    cases h : (Pg.before2 cs)[i]? with
    | none =>
      rw [List.take_add_one, h]
      simp only [Option.toList_none, List.append_nil]
      omega
    | some e =>
      rw [flat_more h, List.length_append]
      have : (Pg.leftOf D a b c e).length ≤ 2 := by
        unfold Pg.leftOf
        rw [List.length_append]
        split <;> split <;> simp
      omega
theorem rel_upd {K : PySem.W.Frag} {H : Hp} {c : Addr} {xs ys : List V} (hc : H c = some (.lst xs)) {vs : List V} {ts : List Tri} (h : Rel2 (T3 K H) vs ts) : Rel2 (T3 K (upd H c (.lst ys))) vs ts :=
  h.mono fun _ _ q => q.upd hc
theorem rel_same {K : PySem.W.Frag} {H H' : Hp} (e : Same H H') {vs : List V} {ts : List Tri} (h : Rel2 (T3 K H) vs ts) : Rel2 (T3 K H') vs ts :=
  h.mono fun _ _ q => q.mono e
theorem atI_map {α β : Type} {f : α → β} {xs : List α} {i : Int} {x : α} (h : atI xs i = some x) : atI (xs.map f) i = some (f x) := by
  unfold atI at h ⊢
  rw [List.length_map]
  cases e : ixN xs.length i with
  | none => rw [e] at h; cases h
  | some j =>
    rw [e] at h
    show (xs.map f)[j]? = some (f x)
    rw [List.getElem?_map, show xs[j]? = some x from h]
    rfl
theorem Pts.atI {K : PySem.W.Frag} {H : Hp} {vs : List V} {ps : List Pt} {i : Int} {p : Pt} (h : Pts K H vs ps) (e : L2.atI ps i = some p) : ∃ v, L2.atI vs i = some v ∧ P2 K H v p := by
  unfold L2.atI at e ⊢
  rw [h.length]
  cases q : ixN ps.length i with
  | none => rw [q] at e; cases e
  | some j =>
    rw [q] at e
    exact h.get' (i := j) e
theorem ok_lc (G : Own mg) (T : TP K mg CP) {f f1 : Addr} {fd fd1 : FuncData} (F : Fun K "left_by_cut" "left_by_cut" sLc f fd)
    (N1 : Dn K mg "crossing" f1 fd1 ["start", "start_excess", "end", "end_excess"]) (G1 : FnOk P w K mg base CX0 1 f1 fd1 ["start", "start_excess", "end", "end_excess"] (spCr K)) :
    FnOk P w K mg base CX0 2 f fd ["polygon", "a", "b", "c"] (spLc K CP) := by
  refine F.ok scLc (fun vs H Q E h => ?_) (fun cdv A outer s H vs Q E hr h => ⟨_,
    pss_cons (ps_set (i := 4) scLc.nd rfl (Or.inl rfl) (pe_fld (pv 0) rfl))
    (pss_cons (ps_setLc (i := 5) (own := [("x", 8), ("y", 9)]) (g := gTup K 2 (gCons (gName 8) (gCons (gName 9) gNil))) (tt := tYes)
        (te := tOp (rI0 fun i j => .int (i - j)) (tOp (rI0 fun i j => .int (i + j)) (tOp (rI CMul fun i j => .int (i * j)) (tVar 1) (tVar 8)) (tOp (rI CMul fun i j => .int (i * j)) (tVar 2) (tVar 9)))
          (tOp (rI CMul fun i j => .int (i * j)) (tVar 3) (tFld K (tVar 0) "scale"))) rfl scLc.nd rfl rfl (sw_true rfl rfl rfl (by decide +kernel)) (pi_list (pv 4))
        (blkOk_by (N := ["polygon", "a", "b", "c", "corners", "excesses", "left", "k", "x", "y"]) (sc := defScope sLc) (by decide +kernel))
        (fun _ _ _ _ _ => pg_tup rfl (pgs_cons (pg_name (i := 8) scLc.nd rfl (Or.inl rfl)) (pgs_cons (pg_name (i := 9) scLc.nd rfl (Or.inl rfl)) pgs_nil)))
        (fun _ _ _ _ _ => pts_nil) (fun _ _ _ _ _ => pe_op op_sub (pe_op op_add (pe_op op_mul (pv 1) (pv 8)) (pe_op op_mul (pv 2) (pv 9))) (pe_op op_mul (pv 3) (pe_fld (pv 0) rfl))))
    (pss_cons (ps_set (i := 6) scLc.nd rfl (Or.inl rfl) (pe_lst pa_nil))
    (pss_cons (ps_for PassesOwn.never rfl (pi_range1 rfl G.range (pa_cons (pe_callB call_len_seq (by rfl) G.len PySem.boot_len (pa_cons (pv 4) pa_nil)) pa_nil)) (pg_name (i := 7) scLc.nd rfl (Or.inl rfl))
      (pss_cons (ps_if (pt_cmpR op_lt (pe_op op_mul (pe_ix ix_list (pv 5) (pe_op op_sub (pv 7) pe_int) (fun _ _ => rfl)) (pe_ix ix_list (pv 5) (pv 7) (fun _ _ => rfl))) pe_int (nomark _))
          (pss_one (ps_expr (pe_bm PySem.F.plainAttrs_list PySem.F.slot_list_append PySem.F.type_list_append mt_append (pv 6) (pa_cons
            (pe_call G1 hr rfl N1.g N1.kp N1.b .nil pass0 (pa_cons (pe_ix ix_list (pv 4) (pe_op op_sub (pv 7) pe_int) (fun _ _ => rfl)) (pa_cons (pe_ix ix_list (pv 5) (pe_op op_sub (pv 7) pe_int) (fun _ _ => rfl))
              (pa_cons (pe_ix ix_list (pv 4) (pv 7) (fun _ _ => rfl)) (pa_cons (pe_ix ix_list (pv 5) (pv 7) (fun _ _ => rfl)) pa_nil))))) pa_nil)))) pss_nil)
      (pss_one (ps_if (pt_cmpR op_le (pe_ix ix_list (pv 5) (pv 7) (fun _ _ => rfl)) pe_int (nomark _))
          (pss_one (ps_expr (pe_bm PySem.F.plainAttrs_list PySem.F.slot_list_append PySem.F.type_list_append mt_append (pv 6) (pa_cons
            (pe_tup (pa_cons (pe_ix ix_tup (pe_ix ix_list (pv 4) (pv 7) (fun _ _ => rfl)) pe_int (fun _ _ => rfl)) (pa_cons (pe_ix ix_tup (pe_ix ix_list (pv 4) (pv 7) (fun _ _ => rfl)) pe_int (fun _ _ => rfl)) (pa_cons pe_int pa_nil)))) pa_nil)))) pss_nil))))
    (pss_one (ps_ret (pv 6)))))), ?_⟩)
  · obtain ⟨p, g, a, b, c, rfl, _⟩ := h
    rfl
  · obtain ⟨p, g, a, b, c, rfl, ⟨dx, l, cv, hp, hl, hpt⟩, ha, hb, hc, hD, hM, hn, q⟩ := h
    have c1 : ∀ {i j : Int}, i.natAbs ≤ 1000000 → CMul i j := fun h => cmul_l (by omega)
    refine ⟨_, rfl, p, CP, dx, _, _, rfl, hp, T.cl, T.nC, polF_corners _ _, ?_⟩
    refine ⟨_, rfl, l, rfl, ⟨_, .inl (.inl hl)⟩, fun e he => ?_⟩
    refine lc_all (walk_list (xs := cv)) (fun i H' => Same H H' ∧ H' e = some (.lst (((g.cs.take i).map fun p => Pg.exc g.D a b c p).map V.int))) ⟨same_new he, upd_same⟩
      (fun i H' _ h => .inl (.inl (h.1 _ _ hl))) ?_ ?_
    · rintro i x H1 H2 hi ⟨s1, hd⟩ ⟨rfl, ex⟩
      obtain ⟨pt, hpp, t, rfl, ht⟩ := hpt.get ex
      refine ⟨t, _, rfl, same_t s1 ht, rfl, _, _, rfl, _, _, rfl, rfl, rfl, ?_⟩
      refine ⟨_, rfl, _, rfl, _, _, rfl, rfl, c1 (by omega), _, rfl, _, rfl, _, _, rfl, rfl, c1 (by omega), _, _, rfl, rfl, _, rfl, _, rfl, p, CP, dx, _, _, rfl, s1 _ _ hp, T.cl, T.nS, polF_scale _ _, _, _, rfl, rfl, c1 (by omega), _, _, rfl, rfl, ?_⟩
      refine ⟨_, hd, ?_, same_mut s1 he, ?_⟩
      · rw [List.length_map, List.length_map, List.length_take]
        exact Nat.lt_of_le_of_lt (Nat.le_trans (Nat.min_le_right _ _) hn) (by decide)
      · rw [upd_same, map_more hpp, List.map_append]
        rfl
    · rintro H1 ⟨s1, hd⟩
      rw [hpt.length, List.take_length] at hd
      refine ⟨(by show 0 ≤ sizeLine; omega), fun m hm => ?_⟩
      have s2 : Same H1 (upd H1 m (.lst [])) := same_new hm
      refine ⟨_, rfl, l, cv, rfl, .inl (.inl (.inl (s2 _ _ (s1 _ _ hl)))), (cv.length : Int), rfl, (by omega), (by rw [hpt.length]; omega), ?_⟩
      refine for_range (lo := 0) (n := ((cv.length : Int)).toNat)
        (fun i σ H' => ∃ (v : Option V) (vs : List V), σ = [some (.ref p), some (.int a), some (.int b), some (.int c), some (.ref l), some (.ref e), some (.ref m), v, none, none] ∧ Same H1 H' ∧
          H' m = some (.lst vs) ∧ Rel2 (T3 K H') vs (((Pg.before2 g.cs).take i).flatMap (Pg.leftOf g.D a b c)))
        ⟨none, [], rfl, s2, upd_same, .nil⟩ ?_ ?_
      · rintro i σ H' hi ⟨v, vs, rfl, s3, hv, hr'⟩
        have hi' : i < g.cs.length := by
          rw [← hpt.length]
          omega
        have hgv : g.cs[i]? = some (g.cs[i]) := by simp [hi']
        generalize g.cs[i] = pt at hgv
        obtain ⟨pu, hbz, hau, humem⟩ := before2_get hgv
        have hvmem : pt ∈ g.cs := List.mem_of_getElem? hgv
        have exu := exc_bd (g := g) ha hb hc hD (hM pu humem)
        have exv := exc_bd (g := g) ha hb hc hD (hM pt hvmem)
        have hcv' : SqL K H' l cv := .inl (.inl (s3 _ _ (s1 _ _ hl)))
        have hex' : SqL K H' e ((g.cs.map fun p => Pg.exc g.D a b c p).map V.int) := .inl (.inl (s3 _ _ hd))
        have e0 : (0 : Int) + (i : Int) = (i : Int) := by omega
        rw [e0]
        have av : atI g.cs (i : Int) = some pt := atI_nat hgv
        have aeu : atI ((g.cs.map fun p => Pg.exc g.D a b c p).map V.int) ((i : Int) - 1) = some (.int (Pg.exc g.D a b c pu)) := atI_map (atI_map hau)
        have aev : atI ((g.cs.map fun p => Pg.exc g.D a b c p).map V.int) (i : Int) = some (.int (Pg.exc g.D a b c pt)) := atI_map (atI_map av)
        have hptH : Pts K H' cv g.cs := (hpt.mono s1).mono s3
        obtain ⟨vu, acu, p2u⟩ := hptH.atI hau
        obtain ⟨vv, acv, p2v⟩ := hptH.atI av
        have hlen : vs.length ≤ 2 * i := by
          rw [hr'.length]
          exact flat_len i
        have hsz : vs.length + 1 < sizeLine := Nat.lt_of_le_of_lt (show vs.length + 1 ≤ 30000 by omega) (by decide)
        -- the second test, from any state
        have second : ∀ (H2 : Hp) (ws : List V) (ts : List Tri), Same H1 H2 → H2 m = some (.lst ws) → Rel2 (T3 K H2) ws ts → ws.length < sizeLine →
            ((Pg.before2 g.cs).take (i + 1)).flatMap (Pg.leftOf g.D a b c) = ts ++ (if Pg.exc g.D a b c pt ≤ 0 then [(pt.1, pt.2, 1)] else []) →
            ∀ (D0 : Ends), (∀ (H3 : Hp) (ws' : List V), Same H1 H3 → H3 m = some (.lst ws') → Rel2 (T3 K H3) ws' (((Pg.before2 g.cs).take (i + 1)).flatMap (Pg.leftOf g.D a b c)) →
              D0.nx [some (.ref p), some (.int a), some (.int b), some (.int c), some (.ref l), some (.ref e), some (.ref m), some (.int i), none, none] H3) →
            tIfS (tTest (tOp (rI0 fun i j => .bl (decide (i ≤ j))) (tOp (rIxL K) (tVar 5) (tVar 7)) (tC (.int 0))))
              (tDrop (tBM K "list" rAppend (tVar 6) (tCons (tTup (tCons (tOp (rIxT K) (tOp (rIxL K) (tVar 4) (tVar 7)) (tC (.int 0))) (tCons (tOp (rIxT K) (tOp (rIxL K) (tVar 4) (tVar 7)) (tC (.int 1))) (tCons (tC (.int 1)) tNil)))) tNil)))
              tNext D0 [some (.ref p), some (.int a), some (.int b), some (.int c), some (.ref l), some (.ref e), some (.ref m), some (.int i), none, none] H2 := by
          intro H2 ws ts s4 hm2 hr2 hs2 heq D0 hnx
          have hex2 : SqL K H2 e ((g.cs.map fun p => Pg.exc g.D a b c p).map V.int) := .inl (.inl (s4 _ _ hd))
          have hcv2 : SqL K H2 l cv := .inl (.inl (s4 _ _ (s1 _ _ hl)))
          have p2v2 : P2 K H2 vv pt := by
            obtain ⟨vv', acv', p2v'⟩ := ((hpt.mono s1).mono s4).atI av
            have : vv' = vv := Option.some.inj (acv'.symm.trans acv)
            subst this
            exact p2v'
          obtain ⟨tv, rfl, htv⟩ := p2v2
          refine ⟨_, rfl, _, rfl, e, _, _, _, rfl, rfl, hex2, aev, _, _, rfl, rfl, _, rfl, ?_⟩
          by_cases h0 : Pg.exc g.D a b c pt ≤ 0
          · refine if_true_of (decide_eq_true h0) ?_
            refine ⟨_, rfl, .inl ⟨rfl, _, .inl (.inl hm2)⟩, _, rfl, _, rfl, l, _, _, _, rfl, rfl, hcv2, acv, tv, _, _, _, rfl, rfl, htv, at0,
              _, rfl, _, rfl, l, _, _, _, rfl, rfl, hcv2, acv, tv, _, _, _, rfl, rfl, htv, at1, (by show 3 ≤ sizeLine; decide), fun q1 hq1 => ?_⟩
            have hmq : m ≠ q1 := fun e => by rw [← e, hm2] at hq1; cases hq1
            have hm3 : (upd H2 q1 (.tup [.int pt.1, .int pt.2, .int 1])) m = some (.lst ws) := by rw [upd_ne hmq]; exact hm2
            refine ⟨m, ws, _, rfl, rfl, hm3, hs2, ?_⟩
            refine hnx _ _ (same_mut (s4.trans (same_new hq1)) hm) upd_same ?_
            rw [heq, if_pos h0]
            exact (rel_upd hm3 (rel_same (same_new hq1) hr2)).snoc (T3.upd hm3 ⟨q1, rfl, .inl (.inl upd_same)⟩)
          · refine if_false_of (decide_eq_false h0) ?_
            refine hnx _ _ s4 hm2 ?_
            rw [heq, if_neg h0, List.append_nil]
            exact hr2
        have fin : ∀ (H3 : Hp) (ws' : List V), Same H1 H3 → H3 m = some (.lst ws') → Rel2 (T3 K H3) ws' (((Pg.before2 g.cs).take (i + 1)).flatMap (Pg.leftOf g.D a b c)) →
            (∃ (v : Option V) (vs : List V), [some (V.ref p), some (V.int a), some (V.int b), some (V.int c), some (V.ref l), some (V.ref e), some (V.ref m), some (V.int i), none, none] =
              [some (.ref p), some (.int a), some (.int b), some (.int c), some (.ref l), some (.ref e), some (.ref m), v, none, none] ∧ Same H1 H3 ∧
              H3 m = some (.lst vs) ∧ Rel2 (T3 K H3) vs (((Pg.before2 g.cs).take (i + 1)).flatMap (Pg.leftOf g.D a b c))) :=
          fun H3 ws' h1 h2 h3 => ⟨some (.int i), ws', rfl, h1, h2, h3⟩
        have heq := flat_more (f := Pg.leftOf g.D a b c) hbz
        refine ⟨_, rfl, _, rfl, _, _, rfl, rfl, e, _, _, _, rfl, rfl, hex', aeu, _, rfl, _, rfl, e, _, _, _, rfl, rfl, hex', aev, _, _, rfl, rfl, cmul_l (by have := exu; unfold Ex8 at this; omega), _, _, rfl, rfl, _, rfl, ?_⟩
        by_cases hneg : Pg.exc g.D a b c pu * Pg.exc g.D a b c pt < 0
        · refine if_true_of (decide_eq_true hneg) ?_
          refine ⟨_, rfl, .inl ⟨rfl, _, .inl (.inl hv)⟩, _, rfl, _, rfl, _, _, rfl, rfl, l, _, _, _, rfl, rfl, hcv', acu, _, rfl, _, rfl, _, _, rfl, rfl, e, _, _, _, rfl, rfl, hex', aeu,
            _, rfl, _, rfl, l, _, _, _, rfl, rfl, hcv', acv, _, rfl, _, rfl, e, _, _, _, rfl, rfl, hex', aev, vu, vv, pu, pt, _, _, rfl, p2u, p2v, hM pu humem, hM pt hvmem, exu, exv, fun H2 q1 s4 hq1 hq2 => ?_⟩
          have hm2 : H2 m = some (.lst vs) := s4 _ _ hv
          refine ⟨m, vs, _, rfl, rfl, hm2, (by omega), ?_⟩
          refine second _ _ _ (same_mut (s3.trans s4) hm) upd_same ((rel_upd hm2 (rel_same s4 hr')).snoc (T3.upd hm2 ⟨q1, rfl, .inl (.inl hq2)⟩)) (by rw [List.length_append]; exact hsz) ?_ _ fin
          rw [heq, List.append_assoc]
          congr 1
          unfold Pg.leftOf
          rw [if_pos hneg]
        · refine if_false_of (decide_eq_false hneg) ?_
          refine second _ _ _ s3 hv hr' (by omega) ?_ _ fin
          rw [heq]
          congr 1
          unfold Pg.leftOf
          rw [if_neg hneg]
          rfl
      · rintro σ H' ⟨v, vs, rfl, s3, hv, hr'⟩
        refine ⟨_, rfl, q H' m vs (s1.trans s3) (s1.free hm) hv ?_⟩
        have hfull : (Pg.before2 g.cs).take ((cv.length : Int)).toNat = Pg.before2 g.cs := by
          apply List.take_of_length_le
          unfold Pg.before2
          rw [List.length_zip, hpt.length]
          omega
        rw [hfull] at hr'
        exact hr'
end
end Pw
end

section
namespace Pw
open PySem PySem.Spec PyProof.Rows L2
open Pg (Pt Tri)
/-- triples as a cut leaves them -/
structure Tm (t : Tri) : Prop where
  x : t.1.natAbs ≤ 1000000000000000
  y : t.2.1.natAbs ≤ 1000000000000000
  pos : 0 < t.2.2
  tm : t.2.2.natAbs ≤ 200000000
theorem crossing_tm {u v : Pt} {se ee : Int} (hu : Md u) (hv : Md v) (h1 : Ex8 se) (h2 : Ex8 ee) (h : se * ee < 0) : Tm (Pg.crossing u se v ee) := by
  have hp := Pg.crossing_pos (s := u) (e := v) h
  unfold Ex8 at h1 h2
  have a1 := mul_bd hu.1 h2
  have a2 := mul_bd hv.1 h1
  have a3 := mul_bd hu.2 h2
  have a4 := mul_bd hv.2 h1
  refine ⟨?_, ?_, hp, ?_⟩
  · unfold Pg.crossing
    simp only
    split <;> omega
  · unfold Pg.crossing
    simp only
    split <;> omega
  · unfold Pg.crossing
    simp only
    split <;> omega
theorem left_tm {g : Sq71.Polygon} {a b c : Int} (ha : a.natAbs ≤ 20) (hb : b.natAbs ≤ 20) (hc : c.natAbs ≤ 40) (hD : g.D ≤ 1000) (hM : ∀ q ∈ g.cs, Md q) : ∀ t ∈ Pg.left g.D a b c g.cs, Tm t := by
  intro t ht
  obtain ⟨e, he, ht⟩ := List.mem_flatMap.1 ht
  have hm := Pg.before2_mem he
  unfold Pg.leftOf at ht
  rcases List.mem_append.1 ht with ht | ht
  · split at ht
    · rename_i h
      have ht : t = _ := List.mem_singleton.1 ht
      subst ht
      exact crossing_tm (hM _ hm.1) (hM _ hm.2) (exc_bd ha hb hc hD (hM _ hm.1)) (exc_bd ha hb hc hD (hM _ hm.2)) h
    · simp at ht
  · split at ht
    · have ht : t = _ := List.mem_singleton.1 ht
      subst ht
      have := hM _ hm.2
      unfold Md at this
      refine ⟨?_, ?_, Int.one_pos, ?_⟩
      · show e.2.1.natAbs ≤ _; omega
      · show e.2.2.natAbs ≤ _; omega
      · show (1 : Int).natAbs ≤ _; decide
    · simp at ht
def lc3 (s : Nat) (t : Tri) : Nat := Nat.lcm s t.2.2.natAbs
theorem shared_fold (l : List Tri) : Pg.shared l = l.foldl lc3 1 := rfl
theorem lcm_le (a b : Nat) (ha : 0 < a) (hb : 0 < b) : Nat.lcm a b ≤ a * b := Nat.le_of_dvd (Nat.mul_pos ha hb) (Nat.lcm_dvd_mul a b)
theorem fold_pos : ∀ (l : List Tri) (a : Nat), 0 < a → (∀ t ∈ l, Tm t) → 0 < l.foldl lc3 a ∧ l.foldl lc3 a ≤ a * 268435456 ^ l.length
  | [], a, h, _ => ⟨h, by simp⟩
  | t :: l, a, h, hl => by
    have ht := hl t List.mem_cons_self
    have h1 : 0 < t.2.2.natAbs := by have := ht.pos; omega
    have h2 := lcm_le a t.2.2.natAbs h h1
    have h3 : 0 < lc3 a t := Nat.lcm_pos h h1
    have ih := fold_pos l (lc3 a t) h3 fun u hu => hl u (List.mem_cons_of_mem _ hu)
    refine ⟨ih.1, Nat.le_trans ih.2 ?_⟩
    rw [List.length_cons, Nat.pow_succ]
    have h4 : lc3 a t ≤ a * 268435456 := Nat.le_trans h2 (Nat.mul_le_mul_left _ (by have := ht.tm; omega))
    calc lc3 a t * 268435456 ^ l.length ≤ a * 268435456 * 268435456 ^ l.length := Nat.mul_le_mul_right _ h4
      _ = a * (268435456 ^ l.length * 268435456) := by rw [Nat.mul_assoc, Nat.mul_comm 268435456]
set_option exponentiation.threshold 9000 in
theorem fold_lim {l : List Tri} (hl : ∀ t ∈ l, Tm t) (hn : l.length < 64) : l.foldl lc3 1 < 2 ^ 1792 := by
  have h := (fold_pos l 1 Nat.one_pos hl).2
  have h2 : 268435456 ^ l.length ≤ 268435456 ^ 63 := Nat.pow_le_pow_right (by decide) (by omega)
  have h3 : 268435456 ^ 63 < 2 ^ 1792 := by decide +kernel
  rw [Nat.one_mul] at h
  omega
set_option exponentiation.threshold 9000 in
theorem lim_1792 : 2 ^ 1792 ≤ lim := by
  show 2 ^ 1792 ≤ 2 ^ 8000
  exact Nat.pow_le_pow_right (by decide) (by decide)
set_option exponentiation.threshold 9000 in
theorem small_1792 : 1000000000000000 * 2 ^ 1792 < small := by
  show 1000000000000000 * 2 ^ 1792 < 2 ^ 7000
  decide +kernel
set_option exponentiation.threshold 9000 in
theorem lim_1792k : 1000 * 2 ^ 1792 < lim := by
  show 1000 * 2 ^ 1792 < 2 ^ 8000
  decide +kernel
theorem at2_0 {x y z : V} : atI [x, y, z] (0 : Int) = some x := rfl

section
variable {P : Program} {w : World} {K : PySem.W.Frag} {mg : Str → Option Value} {base : Heap} {CP : Addr}
def spPc (K : PySem.W.Frag) (CP : Addr) : Sp := fun vs H Q _ => ∃ (p : Addr) (g : Sq71.Polygon) (a b c : Int), vs = [.ref p, .int a, .int b, .int c] ∧ PolyAt K CP H p g ∧ a.natAbs ≤ 20 ∧ b.natAbs ≤ 20 ∧ c.natAbs ≤ 40 ∧
  0 < g.D ∧ g.D ≤ 1000 ∧ (∀ q ∈ g.cs, Md q) ∧ g.cs.length ≤ 10000 ∧ (Pg.left g.D a b c g.cs).length < 64 ∧
  ((Pg.around (Sq68.inOrder (Pg.placesOf (Pg.left g.D a b c g.cs)))).length < 3 → ∀ H', Same H H' → Q .non H') ∧
  (3 ≤ (Pg.around (Sq68.inOrder (Pg.placesOf (Pg.left g.D a b c g.cs)))).length → ∀ H' r, Same H H' →
    PolyN K CP H H' r (Pg.red (g.D * Pg.shared (Pg.left g.D a b c g.cs)) (Sq68.corners (Pg.placesOf (Pg.left g.D a b c g.cs)))) → Q (.ref r) H')
theorem scPc : FnScope ["polygon", "a", "b", "c", "left", "shared", "x", "y", "times", "places"] ["polygon", "a", "b", "c"] (defScope sPc) := ⟨rfl, rfl, rfl, by decide +kernel, rfl, by decide +kernel, by decide +kernel⟩
theorem ok_pc (G : Own mg) (T : TP K mg CP) {f f1 f2 f3 : Addr} {fd fd1 fd2 fd3 : FuncData} (F : Fun K "polygon_cut" "polygon_cut" sPc f fd)
    (N1 : Dn K mg "left_by_cut" f1 fd1 ["polygon", "a", "b", "c"]) (G1 : FnOk P w K mg base CX0 2 f1 fd1 ["polygon", "a", "b", "c"] (spLc K CP))
    (N2 : Dn K mg "common_multiple" f2 fd2 ["one", "other"]) (G2 : FnOk P w K mg base CX0 2 f2 fd2 ["one", "other"] spCm)
    (N3 : Dn K mg "polygon_between" f3 fd3 ["scale", "places"]) (G3 : FnOk P w K mg base CX0 5 f3 fd3 ["scale", "places"] (spPb K CP)) :
    FnOk P w K mg base CX0 6 f fd ["polygon", "a", "b", "c"] (spPc K CP) := by
  refine F.ok scPc (fun vs H Q E h => ?_) (fun cdv A outer s H vs Q E hr h => ⟨_,
    pss_cons (ps_set (i := 4) scPc.nd rfl (Or.inl rfl) (pe_call G1 (hr.mono (by decide)) rfl N1.g N1.kp N1.b .nil pass0 (pa_cons (pv 0) (pa_cons (pv 1) (pa_cons (pv 2) (pa_cons (pv 3) pa_nil))))))
    (pss_cons (ps_set (i := 5) scPc.nd rfl (Or.inr rfl) pe_int)
    (pss_cons (ps_for PassesOwn.never rfl (pi_list (pv 4)) (pg_tup rfl (pgs_cons (pg_name (i := 6) scPc.nd rfl (Or.inl rfl)) (pgs_cons (pg_name (i := 7) scPc.nd rfl (Or.inl rfl)) (pgs_cons (pg_name (i := 8) scPc.nd rfl (Or.inl rfl)) pgs_nil))))
      (pss_one (ps_set (i := 5) scPc.nd rfl (Or.inr rfl) (pe_call G2 (hr.mono (by decide)) rfl N2.g N2.kp N2.b .nil pass0 (pa_cons (pv 5) (pa_cons (pv 8) pa_nil))))))
    (pss_cons (ps_setLc (i := 9) (own := [("x", 6), ("y", 7), ("times", 8)]) (g := gTup K 3 (gCons (gName 6) (gCons (gName 7) (gCons (gName 8) gNil)))) (tt := tYes) rfl scPc.nd rfl rfl (sw_true rfl rfl rfl (by decide +kernel)) (pi_list (pv 4))
        (blkOk_by (N := ["polygon", "a", "b", "c", "left", "shared", "x", "y", "times", "places"]) (sc := defScope sPc) (by decide +kernel))
        (fun _ _ _ _ _ => pg_tup rfl (pgs_cons (pg_name (i := 6) scPc.nd rfl (Or.inl rfl)) (pgs_cons (pg_name (i := 7) scPc.nd rfl (Or.inl rfl)) (pgs_cons (pg_name (i := 8) scPc.nd rfl (Or.inl rfl)) pgs_nil))))
        (fun _ _ _ _ _ => pts_nil) (fun _ _ _ _ _ => pe_tup (pa_cons (pe_op op_mul (pv 6) (pe_op op_fdivW (pv 5) (pv 8))) (pa_cons (pe_op op_mul (pv 7) (pe_op op_fdivW (pv 5) (pv 8))) pa_nil))))
    (pss_one (ps_ret (pe_call G3 hr rfl N3.g N3.kp N3.b .nil pass0 (pa_cons (pe_op op_mul (pe_fld (pv 0) rfl) (pv 5)) (pa_cons (pv 9) pa_nil)))))))), ?_⟩)
  · obtain ⟨p, g, a, b, c, rfl, _⟩ := h
    rfl
  · obtain ⟨p, g, a, b, c, rfl, hpol, ha, hb, hc, hD0, hD, hM, hn, h64, qN, qS⟩ := h
    have htm := left_tm ha hb hc hD hM
    refine ⟨_, rfl, _, rfl, _, rfl, _, rfl, p, g, a, b, c, rfl, hpol, ha, hb, hc, hD, hM, hn, fun H1 l lv s1 nl hl hrel => ?_⟩
    generalize hL : Pg.left (g.D : Int) a b c g.cs = L at *
    have htk : ∀ i, ∀ t ∈ L.take i, Tm t := fun i t ht => htm t (List.mem_of_mem_take ht)
    refine ⟨_, rfl, l, rfl, ⟨_, .inl (.inl hl)⟩, for_list (K := K) (a := l) (xs := lv)
      (fun i σ H' => ∃ (u v x : Option V), σ = [some (.ref p), some (.int a), some (.int b), some (.int c), some (.ref l), some (.int ((L.take i).foldl lc3 1 : Nat)), u, v, x, none] ∧ H' = H1)
      ⟨none, none, none, rfl, rfl⟩ (fun i σ H' _ ⟨_, _, _, _, e⟩ => by rw [e]; exact .inl (.inl hl)) ?_ ?_⟩
    · rintro i x σ H' hi ⟨u, v, y, rfl, rfl⟩
      obtain ⟨t, ht, q, rfl, hq⟩ := hrel.get hi
      have tm := htm t (List.mem_of_getElem? ht)
      have hf := fold_pos (L.take i) 1 Nat.one_pos (htk i)
      have hfl : (L.take i).foldl lc3 1 < 2 ^ 1792 := fold_lim (htk i) (by rw [List.length_take]; omega)
      have hlim := lim_1792
      refine ⟨q, _, rfl, hq, rfl, _, _, rfl, _, _, rfl, _, _, rfl, rfl, ?_⟩
      refine ⟨_, rfl, _, rfl, _, _, rfl, (by omega), tm.pos, (by rw [Int.natAbs_natCast]; omega), ?_, ?_⟩
      · have := tm.tm
        have h3 := small_1792
        have h4 := small_lim
        omega
      · refine ⟨some (.int t.1), some (.int t.2.1), some (.int t.2.2), ?_, rfl⟩
        rw [fold_more ht]
        rfl
    · rintro σ H' ⟨u, v, y, rfl, rfl⟩
      have hfull : L.take lv.length = L := by rw [hrel.length, List.take_length]
      rw [hfull, ← shared_fold]
      have hfl : Pg.shared L < 2 ^ 1792 := fold_lim htm h64
      have hlim := lim_1792
      have hsm := small_1792
      have hs0 : 0 < Pg.shared L := (fold_pos L 1 Nat.one_pos htm).1
      refine ⟨_, rfl, l, rfl, ⟨_, .inl (.inl hl)⟩, fun e he => ?_⟩
      refine lc_all (walk_list (xs := lv)) (fun i H2 => Same H' H2 ∧ ∃ vs, H2 e = some (.lst vs) ∧ Pts K H2 vs ((L.take i).map fun t => ((t.1 * ((Pg.shared L : Int) / t.2.2), t.2.1 * ((Pg.shared L : Int) / t.2.2)) : Pt)))
        ⟨same_new he, [], upd_same, .nil⟩ (fun i H2 _ h => .inl (.inl (h.1 _ _ hl))) ?_ ?_
      · rintro i x H2 H3 hi ⟨s2, vs, hv, hpv⟩ ⟨rfl, ex⟩
        obtain ⟨t, ht, q, rfl, hq⟩ := hrel.get ex
        have tm := htm t (List.mem_of_getElem? ht)
        have wd : CDivW (Pg.shared L : Int) t.2.2 := lim_div tm.pos (by have := tm.tm; have h4 := small_lim; omega)
        refine ⟨q, _, rfl, same_t s2 hq, rfl, _, _, rfl, _, _, rfl, _, _, rfl, rfl, rfl, ?_⟩
        refine ⟨_, rfl, _, rfl, _, rfl, _, _, rfl, rfl, wd, _, _, rfl, rfl, cmul_l tm.x, _, rfl, _, rfl, _, rfl, _, _, rfl, rfl, wd, _, _, rfl, rfl, cmul_l tm.y, (by show 2 ≤ sizeLine; decide), fun r hr' => ?_⟩
        have hre : e ≠ r := fun z => by rw [← z, hv] at hr'; cases hr'
        have hv' : (upd H3 r (.tup [.int (t.1 * ((Pg.shared L : Int) / t.2.2)), .int (t.2.1 * ((Pg.shared L : Int) / t.2.2))])) e = some (.lst vs) := by rw [upd_ne hre]; exact hv
        refine ⟨vs, hv', ?_, same_mut (s2.trans (same_new hr')) he, _, upd_same, ?_⟩
        · rw [hpv.length, List.length_map, List.length_take]
          exact Nat.lt_of_le_of_lt (show _ ≤ 100 by omega) (by decide)
        · rw [map_more ht]
          exact ((hpv.mono (same_new hr')).upd hv').snoc (P2.upd hv' ⟨r, rfl, .inl (.inl upd_same)⟩)
      · rintro H2 ⟨s2, vs, hv, hpv⟩
        rw [hrel.length, List.take_length] at hpv
        obtain ⟨dx, lc, cvs, hp, hlc, hpt⟩ := (hpol.mono s1).mono s2
        have hkD : 1000 * 2 ^ 1792 < lim := lim_1792k
        have eD : ((g.D : Int) * (Pg.shared L : Int)) = ((g.D * Pg.shared L : Nat) : Int) := by rw [Int.natCast_mul]
        have hDs : g.D * Pg.shared L < lim := by
          have : g.D * Pg.shared L ≤ 1000 * 2 ^ 1792 := Nat.mul_le_mul hD (by omega)
          omega
        refine ⟨_, rfl, p, CP, dx, _, _, rfl, hp, T.cl, T.nS, polF_scale _ _, _, rfl, _, _, rfl, rfl, cmul_l (by rw [Int.natAbs_natCast]; omega), _, rfl, ?_⟩
        refine ⟨g.D * Pg.shared L, e, vs, Pg.placesOf L, ?_, Nat.mul_pos hD0 hs0, hDs, .inl (.inl (.inl hv)), hpv, ?_, ?_, ?_, ?_⟩
        · show [V.int ((g.D : Int) * (Pg.shared L : Int)), V.ref e] = _
          rw [eD]
        · intro q hq
          obtain ⟨t, ht, rfl⟩ := List.mem_map.1 hq
          have tm := htm t ht
          have hdle : ((Pg.shared L : Int) / t.2.2).natAbs ≤ Pg.shared L := by
            have h1 : 0 ≤ (Pg.shared L : Int) / t.2.2 := Int.ediv_nonneg (by omega) (Int.le_of_lt tm.pos)
            have h2 : (Pg.shared L : Int) / t.2.2 ≤ (Pg.shared L : Int) := Int.ediv_le_self _ (by omega)
            omega
          have hx := mul_bd tm.x hdle
          have hy := mul_bd tm.y hdle
          have hb2 : 1000000000000000 * Pg.shared L ≤ 1000000000000000 * 2 ^ 1792 := Nat.mul_le_mul_left _ (by omega)
          exact ⟨by show (t.1 * ((Pg.shared L : Int) / t.2.2)).natAbs < small; omega, by show (t.2.1 * ((Pg.shared L : Int) / t.2.2)).natAbs < small; omega⟩
        · unfold Pg.placesOf
          rw [List.length_map]
          exact h64
        · intro h3 H3 s3
          exact qN h3 H3 ((s1.trans s2).trans s3)
        · intro h3 H3 r s3 hpr
          exact qS h3 H3 r ((s1.trans s2).trans s3) (hpr.from (s1.trans s2))
end
end Pw
end

section
namespace Pw
open PySem PySem.Spec PyProof.Rows L2
open Pg (Pt Tri)
def moved (g : Sq71.Polygon) (r u : Int) : Sq71.Polygon := ⟨g.D, g.cs.map fun c => (c.1 + r * g.D, c.2 + u * g.D)⟩
section
variable {P : Program} {w : World} {K : PySem.W.Frag} {mg : Str → Option Value} {base : Heap} {CP : Addr}
/-! ### polygon_moved -/
def spPm (K : PySem.W.Frag) (CP : Addr) : Sp := fun vs H Q _ => ∃ (p : Addr) (g : Sq71.Polygon) (r u : Int), vs = [.ref p, .int r, .int u] ∧ PolyAt K CP H p g ∧ r.natAbs ≤ 20 ∧ u.natAbs ≤ 20 ∧ g.cs.length ≤ 10000 ∧
  ∀ H' q, Same H H' → PolyN K CP H H' q (moved g r u) → Q (.ref q) H'
theorem scPm : FnScope ["polygon", "right", "up", "scale", "x", "y"] ["polygon", "right", "up"] (defScope sPm) := ⟨rfl, rfl, rfl, by decide +kernel, rfl, by decide +kernel, by decide +kernel⟩
theorem ok_pm (T : TP K mg CP) {f f3 : Addr} {fd fd3 : FuncData} (F : Fun K "polygon_moved" "polygon_moved" sPm f fd)
    (M : Mk K CP f3) (b3 : Binds K fd3 ["self", "scale", "corners"] []) (G3 : FnOk P w K mg base CX0 1 f3 fd3 ["self", "scale", "corners"] (spPi CP)) :
    FnOk P w K mg base CX0 3 f fd ["polygon", "right", "up"] (spPm K CP) := by
  refine F.ok scPm (fun vs H Q E h => ?_) (fun cdv A outer s H vs Q E hr h => ⟨_,
    pss_cons (ps_set (i := 3) scPm.nd rfl (Or.inr rfl) (pe_fld (pv 0) rfl))
    (pss_one (ps_ret (pe_make M G3 hr rfl T.g b3 .nil pass0 (pa_cons (pv 3) (pa_cons
      (pe_lc (own := [("x", 4), ("y", 5)]) (g := gTup K 2 (gCons (gName 4) (gCons (gName 5) gNil))) (tt := tYes) rfl scPm.nd (pi_list (pe_fld (pv 0) rfl))
        (blkOk_by (N := ["polygon", "right", "up", "scale", "x", "y"]) (sc := defScope sPm) (by decide +kernel))
        (fun _ _ _ _ _ => pg_tup rfl (pgs_cons (pg_name (i := 4) scPm.nd rfl (Or.inl rfl)) (pgs_cons (pg_name (i := 5) scPm.nd rfl (Or.inl rfl)) pgs_nil)))
        (fun _ _ _ _ _ => pts_nil) (fun _ _ _ _ _ => pe_tup (pa_cons (pe_op op_add (pv 4) (pe_op op_mul (pv 1) (pv 3))) (pa_cons (pe_op op_add (pv 5) (pe_op op_mul (pv 2) (pv 3))) pa_nil)))) pa_nil))))), ?_⟩)
  · obtain ⟨p, g, r, u, rfl, _⟩ := h
    rfl
  · obtain ⟨p, g, r, u, rfl, ⟨dx, l, cv, hp, hl, hpt⟩, hr1, hu1, hn, q⟩ := h
    refine ⟨_, rfl, p, CP, dx, _, _, rfl, hp, T.cl, T.nS, polF_scale _ _, ?_⟩
    refine ⟨_, rfl, _, rfl, p, CP, dx, _, _, rfl, hp, T.cl, T.nC, polF_corners _ _, l, rfl, ⟨_, .inl (.inl hl)⟩, fun e he => ?_⟩
    refine lc_all (walk_list (xs := cv)) (fun i H2 => Same H H2 ∧ ∃ vs, H2 e = some (.lst vs) ∧ Pts K H2 vs ((g.cs.take i).map fun c => ((c.1 + r * g.D, c.2 + u * g.D) : Pt)))
      ⟨same_new he, [], upd_same, .nil⟩ (fun i H2 _ h => .inl (.inl (h.1 _ _ hl))) ?_ ?_
    · rintro i x H2 H3 hi ⟨s2, vs, hv, hpv⟩ ⟨rfl, ex⟩
      obtain ⟨pt, hpp, t, rfl, ht⟩ := hpt.get ex
      refine ⟨t, _, rfl, same_t s2 ht, rfl, _, _, rfl, _, _, rfl, rfl, rfl, ?_⟩
      refine ⟨_, rfl, _, rfl, _, rfl, _, _, rfl, rfl, cmul_l (by omega), _, _, rfl, rfl, _, rfl, _, rfl, _, rfl, _, _, rfl, rfl, cmul_l (by omega), _, _, rfl, rfl, (by show 2 ≤ sizeLine; decide), fun y hy => ?_⟩
      have hye : e ≠ y := fun z => by rw [← z, hv] at hy; cases hy
      have hv' : (upd H3 y (.tup [.int (pt.1 + r * g.D), .int (pt.2 + u * g.D)])) e = some (.lst vs) := by rw [upd_ne hye]; exact hv
      refine ⟨vs, hv', ?_, same_mut (s2.trans (same_new hy)) he, _, upd_same, ?_⟩
      · rw [hpv.length, List.length_map, List.length_take]
        exact Nat.lt_of_le_of_lt (Nat.le_trans (Nat.min_le_right _ _) hn) (by decide)
      · rw [map_more hpp]
        exact ((hpv.mono (same_new hy)).upd hv').snoc (P2.upd hv' ⟨y, rfl, .inl (.inl upd_same)⟩)
    · rintro H2 ⟨s2, vs, hv, hpv⟩
      rw [hpt.length, List.take_length] at hpv
      intro x dx' nx nd ne
      refine ⟨x, dx', _, _, rfl, upd_same, fun H3 hx keep => ⟨rfl, ?_⟩⟩
      have s3 : Same H2 H3 := Same.made nx nd keep
      exact q H3 x (s2.trans s3) ⟨s2.free nx, dx', e, vs, hx, s3 _ _ hv, hpv.mono s3, he⟩

/-! ### reaches_beyond -/
def spRb (K : PySem.W.Frag) (CP : Addr) : Sp := fun vs H Q _ => ∃ (p : Addr) (g : Sq71.Polygon) (b : Int), vs = [.ref p, .int b] ∧ PolyAt K CP H p g ∧ b.natAbs ≤ 1000 ∧ g.cs.length ≤ 10000 ∧
  ∀ H', Same H H' → Q (.bl (g.cs.any fun c => beyond [c.1, c.2] (b * g.D))) H'
theorem scRb : FnScope ["polygon", "bound", "corner"] ["polygon", "bound"] (defScope sRb) := ⟨rfl, rfl, rfl, by decide +kernel, rfl, by decide +kernel, by decide +kernel⟩
theorem ok_rb (G : Own mg) (T : TP K mg CP) {f f1 : Addr} {fd fd1 : FuncData} (F : Fun K "reaches_beyond" "reaches_beyond" sRb f fd)
    (N1 : Dn K mg "any_beyond" f1 fd1 ["numbers", "bound"]) (G1 : FnOk P w K mg base CX0 1 f1 fd1 ["numbers", "bound"] (spAb K)) :
    FnOk P w K mg base CX0 2 f fd ["polygon", "bound"] (spRb K CP) := by
  refine F.ok scRb (fun vs H Q E h => ?_) (fun cdv A outer s H vs Q E hr h => ⟨_,
    pss_one (ps_ret (pe_callB (cr_any rfl) (by rfl) G.any boot_any (pa_cons
      (pe_lc (own := [("corner", 2)]) (g := gName 2) (tt := tYes) (te := tCall (spAb K) [] E0 (tCons (tVar 2) (tCons (tOp (rI CMul fun i j => .int (i * j)) (tVar 1) (tFld K (tVar 0) "scale")) tNil)))
        rfl scRb.nd (pi_list (pe_fld (pv 0) rfl)) (blkOk_by (N := ["polygon", "bound", "corner"]) (sc := defScope sRb) (by decide +kernel))
        (fun _ _ _ _ _ => pg_name (i := 2) scRb.nd rfl (Or.inl rfl)) (fun _ _ _ _ _ => pts_nil)
        (fun _ _ _ _ _ => pe_call G1 hr rfl N1.g N1.kp N1.b .nil pass0 (pa_cons (pv 2) (pa_cons (pe_op op_mul (pv 1) (pe_fld (pv 0) rfl)) pa_nil)))) pa_nil))), ?_⟩)
  · obtain ⟨p, g, b, rfl, _⟩ := h
    rfl
  · obtain ⟨p, g, b, rfl, ⟨dx, l, cv, hp, hl, hpt⟩, hb, hn, q⟩ := h
    refine ⟨_, rfl, p, CP, dx, _, _, rfl, hp, T.cl, T.nC, polF_corners _ _, l, rfl, ⟨_, .inl (.inl hl)⟩, fun e he => ?_⟩
    refine lc_all (walk_list (xs := cv)) (fun i H2 => Same H H2 ∧ H2 e = some (.lst (((g.cs.take i).map fun c => beyond [c.1, c.2] (b * g.D)).map V.bl)))
      ⟨same_new he, upd_same⟩ (fun i H2 _ h => .inl (.inl (h.1 _ _ hl))) ?_ ?_
    · rintro i x H2 H3 hi ⟨s2, hv⟩ ⟨rfl, ex⟩
      obtain ⟨pt, hpp, t, rfl, ht⟩ := hpt.get ex
      refine ⟨rfl, ?_⟩
      refine ⟨_, rfl, _, rfl, _, rfl, p, CP, dx, _, _, rfl, s2 _ _ hp, T.cl, T.nS, polF_scale _ _, _, _, rfl, rfl, cmul_l (by omega), ?_⟩
      refine ⟨t, [pt.1, pt.2], b * g.D, rfl, .inr (same_t s2 ht), (by show 2 ≤ 100000; decide), fun H4 s4 => ?_⟩
      refine ⟨_, s4 _ _ hv, ?_, same_mut (s2.trans s4) he, ?_⟩
      · rw [List.length_map, List.length_map, List.length_take]
        exact Nat.lt_of_le_of_lt (Nat.le_trans (Nat.min_le_right _ _) hn) (by decide)
      · rw [upd_same, map_more hpp, List.map_append]
        rfl
    · rintro H2 ⟨s2, hv⟩
      rw [hpt.length, List.take_length] at hv
      refine ⟨e, _, rfl, .inl (.inl hv), ?_⟩
      rw [List.any_map]
      exact q H2 s2
end
end Pw
end

section
namespace Pw
open PySem PySem.Spec PyProof.Rows L2
open Pg (Pt)
abbrev sSf : Stmt := top 5
abbrev sTa : Stmt := top 19
/-- names that only the later defs use -/
structure Own2 (mg : Str → Option Value) : Prop where
  sum : mg "sum" = none
  min : mg "min" = none
  max : mg "max" = none
  enumerate : mg "enumerate" = none
section
variable {P : Program} {w : World} {K : PySem.W.Frag} {mg : Str → Option Value} {base : Heap} {CP : Addr}
theorem cmul_r {i j : Int} (h : j.natAbs ≤ 1000000000000000000) : CMul i j := .inr ⟨by omega, by omega⟩
theorem cmul_l' {i j : Int} (h : i.natAbs ≤ 1000000000000000000) : CMul i j := .inl ⟨by omega, by omega⟩
/-! ### sum_of_floors -/
def spSf : Sp := fun vs H Q _ => ∃ n a b m : Int, vs = [.int n, .int a, .int b, .int m] ∧ n ≤ 1000000000 ∧ 0 < m ∧ m.natAbs < lim ∧ Q (.int (Pg.flS n.toNat a b m)) H
theorem scSf : FnScope ["count", "slope", "start", "lower", "total", "rise", "steeper"] ["count", "slope", "start", "lower"] (defScope sSf) := ⟨rfl, rfl, rfl, by decide +kernel, rfl, by decide +kernel, by decide +kernel⟩
theorem tri_small {n : Int} (h0 : 0 < n) (h : n ≤ 1000000000) : (n * (n - 1) / 2).natAbs ≤ 1000000000000000000 := by
  have h1 : 0 ≤ n * (n - 1) := Int.mul_nonneg (by omega) (by omega)
  have h2 : n * (n - 1) ≤ 1000000000 * 1000000000 := Int.mul_le_mul h (by omega) (by omega) (by omega)
  omega
theorem ok_sf {f : Addr} {fd : FuncData} (F : Fun K "sum_of_floors" "sum_of_floors" sSf f fd) : FnOk P w K mg base CX0 1 f fd ["count", "slope", "start", "lower"] spSf := by
  refine F.ok scSf (fun vs H Q E h => ?_) (fun cdv A outer s H vs Q E hr h => ⟨_,
    pss_cons (ps_set (i := 4) scSf.nd rfl (Or.inl rfl) pe_int)
    (pss_cons (ps_while PassesOwn.never (pt_cmpR op_gt (pv 0) pe_int (nomark _))
      (pss_cons (ps_set (i := 4) scSf.nd rfl (Or.inl rfl) (pe_op op_add (pe_op op_add (pv 4) (pe_op op_mul (pe_op op_fdivW (pv 1) (pv 3)) (pe_op op_fdiv (pe_op op_mul (pv 0) (pe_op op_sub (pv 0) pe_int)) pe_int))) (pe_op op_mul (pe_op op_fdivW (pv 2) (pv 3)) (pv 0))))
      (pss_cons (ps_set (i := 1) scSf.nd rfl (Or.inl rfl) (pe_op op_mod (pv 1) (pv 3)))
      (pss_cons (ps_set (i := 5) scSf.nd rfl (Or.inl rfl) (pe_op op_add (pe_op op_mul (pv 1) (pv 0)) (pe_op op_mod (pv 2) (pv 3))))
      (pss_cons (ps_set (i := 0) scSf.nd rfl (Or.inl rfl) (pe_op op_fdivW (pv 5) (pv 3)))
      (pss_cons (ps_set (i := 2) scSf.nd rfl (Or.inl rfl) (pe_op op_mod (pv 5) (pv 3)))
      (pss_cons (ps_set (i := 6) scSf.nd rfl (Or.inl rfl) (pv 3))
      (pss_cons (ps_set (i := 3) scSf.nd rfl (Or.inl rfl) (pv 1))
      (pss_one (ps_set (i := 1) scSf.nd rfl (Or.inl rfl) (pv 6)))))))))))
    (pss_one (ps_ret (pv 4)))), ?_⟩)
  · obtain ⟨n, a, b, m, rfl, _⟩ := h
    rfl
  · obtain ⟨n0, a0, b0, m0, rfl, hn0, hm0, lm0, q⟩ := h
    refine while_by (fun σ H' => ∃ (T n a b m : Int) (u v : Option V), σ = [some (.int n), some (.int a), some (.int b), some (.int m), some (.int T), u, v] ∧ H' = H ∧ n ≤ 1000000000 ∧ (0 < n → 0 < m) ∧ 0 ≤ m ∧ m.natAbs < lim ∧
        T + Pg.flS n.toNat a b m = Pg.flS n0.toNat a0 b0 m0)
      (fun σ _ => slotN 3 σ) ⟨0, n0, a0, b0, m0, none, none, rfl, rfl, hn0, fun _ => hm0, by omega, lm0, by omega⟩ ?_ ?_
    · rintro σ H' ⟨T, n, a, b, m, u, v, rfl, rfl, hn, hm, hm', lm, e⟩
      refine ⟨_, rfl, _, _, rfl, rfl, _, rfl, ?_⟩
      by_cases h0 : 0 < n
      · refine if_true_of (decide_eq_true h0) ?_
        have hm := hm h0
        have wd : ∀ i : Int, CDivW i m := fun i => lim_div hm lm
        obtain ⟨t1, t2, t3⟩ := Pg.turn_less hm h0 a b
        have r0 := Int.emod_nonneg a (show m ≠ 0 by omega)
        have r1 := Int.emod_lt_of_pos a hm
        refine ⟨_, rfl, _, rfl, _, rfl, _, _, rfl, rfl, wd _, _, rfl, _, rfl, _, _, rfl, rfl, _, _, rfl, rfl, cmul_l' (by omega), _, _, rfl, rfl, ⟨by decide, by decide⟩, _, _, rfl, rfl, cmul_r (tri_small h0 hn), _, _, rfl, rfl,
          _, rfl, _, rfl, _, _, rfl, rfl, wd _, _, rfl, _, _, rfl, rfl, cmul_r (by omega), _, _, rfl, rfl, ?_⟩
        refine ⟨_, rfl, _, rfl, _, _, rfl, rfl, hm, ?_⟩
        refine ⟨_, rfl, _, rfl, _, _, rfl, rfl, cmul_r (by omega), _, rfl, _, rfl, _, _, rfl, rfl, hm, _, _, rfl, rfl, ?_⟩
        refine ⟨_, rfl, _, rfl, _, _, rfl, rfl, wd _, ?_⟩
        refine ⟨_, rfl, _, rfl, _, _, rfl, rfl, hm, ?_⟩
        refine ⟨_, rfl, _, rfl, _, rfl, ?_, ?_⟩
        · refine ⟨_, _, _, _, _, _, _, rfl, rfl, by omega, t3, r0, by omega, ?_⟩
          rw [← e, Pg.flS_turn hm h0]
          omega
        · show (a % m).toNat < m.toNat
          omega
      · refine if_false_of (decide_eq_false h0) ?_
        refine ⟨_, rfl, ?_⟩
        have : n.toNat = 0 := by omega
        rw [this] at e
        have z : Pg.flS 0 a b m = 0 := rfl
        rw [z, Int.add_zero] at e
        rw [← e] at q
        exact q
    · intro σ H' Q1 Q2 hq h
      obtain ⟨v, h1, x, y, h2, h3, b, h4, h5⟩ := h
      exact ⟨v, h1, x, y, h2, h3, b, h4, hq _ _ h5⟩
/-! ### twice_area -/
theorem sum_before (f : Pt × Pt → Int) : ∀ cs : List Pt, ((Pg.before2 cs).map f).sum = ((Sq68.edges cs).map f).sum := by
  intro cs
  match cs with
  | [] => rfl
  | [p] => rfl
  | p :: x :: l =>
    obtain ⟨ini, z, e⟩ : ∃ ini z, x :: l = ini ++ [z] := ⟨(x :: l).dropLast, (x :: l).getLast (by simp), (List.dropLast_concat_getLast (by simp)).symm⟩
    have hE : Sq68.edges (p :: x :: l) = (p :: (ini ++ [z])).zip ((ini ++ [z]) ++ [p]) := by rw [← e]; rfl
    rw [hE]
    have hb : Pg.before2 (p :: x :: l) = (z :: (p :: ini)).zip ((p :: ini) ++ [z]) := by
      rw [e, ← List.cons_append]
      exact Pg.before2_snoc (p :: ini) z
    rw [hb]
    have e1 : (z :: (p :: ini)).zip ((p :: ini) ++ [z]) = (z, p) :: (p :: ini).zip (ini ++ [z]) := rfl
    have e2 : (p :: (ini ++ [z])).zip ((ini ++ [z]) ++ [p]) = (p :: ini).zip (ini ++ [z]) ++ [(z, p)] := by
      rw [← List.cons_append]
      exact Pg.zip_snoc (p :: ini) (ini ++ [z]) z p (by simp)
    rw [e1, e2, List.map_cons, List.sum_cons, List.map_append, List.sum_append]
    simp
    omega
def spTa (K : PySem.W.Frag) (CP : Addr) : Sp := fun vs H Q _ => ∃ (p : Addr) (g : Sq71.Polygon), vs = [.ref p] ∧ PolyAt K CP H p g ∧ (∀ q ∈ g.cs, Lm q) ∧ g.cs.length ≤ 10000 ∧ ∀ H', Same H H' → Q (.int (Sq68.twice g.cs)) H'
theorem scTa : FnScope ["polygon", "corners", "k"] ["polygon"] (defScope sTa) := ⟨rfl, rfl, rfl, by decide +kernel, rfl, by decide +kernel, by decide +kernel⟩
theorem ok_ta (G : Own mg) (G2 : Own2 mg) (T : TP K mg CP) {f f1 : Addr} {fd fd1 : FuncData} (F : Fun K "twice_area" "twice_area" sTa f fd) (N1 : Dn K mg "crosswise" f1 fd1 ["one", "other"])
    (G1 : FnOk P w K mg base CX0 1 f1 fd1 ["one", "other"] (spCw K)) : FnOk P w K mg base CX0 2 f fd ["polygon"] (spTa K CP) := by
  refine F.ok scTa (fun vs H Q E h => ?_) (fun cdv A outer s H vs Q E hr h => ⟨_,
    pss_cons (ps_set (i := 1) scTa.nd rfl (Or.inr rfl) (pe_fld (pv 0) rfl))
    (pss_one (ps_ret (pe_callB (cr_sum rfl) (by rfl) G2.sum boot_sum (pa_cons
      (pe_lc (own := [("k", 2)]) (g := gName 2) (tt := tYes) (te := tCall (spCw K) [] E0 (tCons (tOp (rIxL K) (tVar 1) (tOp (rI0 fun i j => .int (i - j)) (tVar 2) (tC (.int 1)))) (tCons (tOp (rIxL K) (tVar 1) (tVar 2)) tNil))) rfl scTa.nd (pi_range1 rfl G.range (pa_cons (pe_callB call_len_seq (by rfl) G.len PySem.boot_len (pa_cons (pv 1) pa_nil)) pa_nil))
        (blkOk_by (N := ["polygon", "corners", "k"]) (sc := defScope sTa) (by decide +kernel))
        (fun _ _ _ _ _ => pg_name (i := 2) scTa.nd rfl (Or.inl rfl)) (fun _ _ _ _ _ => pts_nil)
        (fun _ _ _ _ _ => pe_call G1 hr rfl N1.g N1.kp N1.b .nil pass0 (pa_cons (pe_ix ix_list (pv 1) (pe_op op_sub (pv 2) pe_int) (fun _ _ => rfl)) (pa_cons (pe_ix ix_list (pv 1) (pv 2) (fun _ _ => rfl)) pa_nil)))) pa_nil)))), ?_⟩)
  · obtain ⟨p, g, rfl, _⟩ := h
    rfl
  · obtain ⟨p, g, rfl, ⟨dx, l, cv, hp, hl, hpt⟩, hM, hn, q⟩ := h
    refine ⟨_, rfl, p, CP, dx, _, _, rfl, hp, T.cl, T.nC, polF_corners _ _, ?_⟩
    refine ⟨_, rfl, l, cv, rfl, .inl (.inl (.inl hl)), (cv.length : Int), rfl, (by omega), (by rw [hpt.length]; omega), fun e he => ?_⟩
    refine lc_all (walk_range (lo := 0) (n := ((cv.length : Int)).toNat)) (fun i H' => Same H H' ∧ H' e = some (.lst ((((Pg.before2 g.cs).take i).map fun e => Sq68.cross e.1 e.2).map V.int))) ⟨same_new he, upd_same⟩
      (fun i H' _ h => trivial) ?_ ?_
    · rintro i x H1 H2 hi ⟨s1, hd⟩ ⟨rfl, ex⟩
      have ex : x = .int (i : Int) := ex.trans (congrArg V.int (Int.zero_add _))
      subst ex
      have hi' : i < g.cs.length := by
        rw [← hpt.length]
        omega
      have hgv : g.cs[i]? = some (g.cs[i]) := by simp [hi']
      generalize g.cs[i] = pt at hgv
      obtain ⟨pu, hbz, hau, humem⟩ := before2_get hgv
      have hvmem : pt ∈ g.cs := List.mem_of_getElem? hgv
      have av : atI g.cs (i : Int) = some pt := atI_nat hgv
      have hptH : Pts K H2 cv g.cs := hpt.mono s1
      have hcv' : SqL K H2 l cv := .inl (.inl (s1 _ _ hl))
      obtain ⟨vu, acu, p2u⟩ := hptH.atI hau
      obtain ⟨vv, acv, p2v⟩ := hptH.atI av
      refine ⟨rfl, _, rfl, _, rfl, _, _, rfl, rfl, l, _, _, _, rfl, rfl, hcv', acu, _, rfl, _, rfl, l, _, _, _, rfl, rfl, hcv', acv, vu, vv, pu, pt, rfl, p2u, p2v, hM pu humem, hM pt hvmem, ?_⟩
      refine ⟨_, hd, ?_, same_mut s1 he, ?_⟩
      · rw [List.length_map, List.length_map, List.length_take]
        refine Nat.lt_of_le_of_lt (Nat.min_le_left _ _) ?_
        exact Nat.lt_of_le_of_lt (show i ≤ 10000 by omega) (by decide)
      · rw [upd_same, map_more hbz, List.map_append]
        rfl
    · rintro H1 ⟨s1, hd⟩
      have hfull : (Pg.before2 g.cs).take ((cv.length : Int)).toNat = Pg.before2 g.cs := by
        apply List.take_of_length_le
        rw [Pg.before2_len, hpt.length]
        omega
      rw [hfull] at hd
      refine ⟨e, _, rfl, .inl (.inl hd), ?_⟩
      have := sum_before (fun e => Sq68.cross e.1 e.2) g.cs
      rw [this]
      exact q H1 s1
end
end Pw
end

section
namespace Pw
open PySem PySem.Spec PyProof.Rows L2
open Pg (Pt Strt)
abbrev sStInit : Stmt := inClass (top 23) 0
abbrev sCo : Stmt := top 24
abbrev sSa : Stmt := top 25
/-! ### the class Stretch -/
def strF (s : Strt) : List (Str × V) := [("width", .int s.w), ("slope", .int s.slope), ("offset", .int s.off), ("lower", .int s.low)]
def StAt (CS : Addr) (H : Hp) (v : V) (s : Strt) : Prop := ∃ a dx, v = .ref a ∧ H a = some (.ins CS dx (strF s))
theorem StAt.mono {CS : Addr} {H H' : Hp} {v : V} {s : Strt} (e : Same H H') (h : StAt CS H v s) : StAt CS H' v s := by
  obtain ⟨a, dx, rfl, h⟩ := h
  exact ⟨a, dx, rfl, e _ _ h⟩
theorem StAt.upd {CS : Addr} {H : Hp} {v : V} {s : Strt} {c : Addr} {xs ys : List V} (hc : H c = some (.lst xs)) (h : StAt CS H v s) : StAt CS (L2.upd H c (.lst ys)) v s := by
  obtain ⟨a, dx, rfl, h⟩ := h
  exact ⟨a, dx, rfl, by rw [upd_ne (fun e => by rw [e, hc] at h; cases h)]; exact h⟩
theorem strF_w (s : Strt) : (strF s).lookup ("width" : Str) = some (.int s.w) := lk_here
theorem strF_s (s : Strt) : (strF s).lookup ("slope" : Str) = some (.int s.slope) := (lk_past (by decide +kernel)).trans lk_here
theorem strF_o (s : Strt) : (strF s).lookup ("offset" : Str) = some (.int s.off) := (lk_past (by decide +kernel)).trans ((lk_past (by decide +kernel)).trans lk_here)
theorem strF_l (s : Strt) : (strF s).lookup ("lower" : Str) = some (.int s.low) := (lk_past (by decide +kernel)).trans ((lk_past (by decide +kernel)).trans ((lk_past (by decide +kernel)).trans lk_here))
theorem str_new2 (x y : V) : putF "slope" y (putF "width" x []) = ([("width", x), ("slope", y)] : List (Str × V)) := (put_past (by decide +kernel)).trans rfl
theorem str_new3 (x y z : V) : putF "offset" z [("width", x), ("slope", y)] = ([("width", x), ("slope", y), ("offset", z)] : List (Str × V)) :=
  (put_past (by decide +kernel)).trans (congrArg (fun r => (("width", x) : Str × V) :: r) ((put_past (by decide +kernel)).trans rfl))
theorem str_new4 (x y z u : V) : putF "lower" u [("width", x), ("slope", y), ("offset", z)] = ([("width", x), ("slope", y), ("offset", z), ("lower", u)] : List (Str × V)) :=
  (put_past (by decide +kernel)).trans (congrArg (fun r => (("width", x) : Str × V) :: r) ((put_past (by decide +kernel)).trans (congrArg (fun r => (("slope", y) : Str × V) :: r) ((put_past (by decide +kernel)).trans rfl))))
/-- what the top has written of the class -/
structure TSt (K : PySem.W.Frag) (mg : Str → Option Value) (CS : Addr) : Prop where
  cl : Cls K CS
  nW : NoAttr K CS "width"
  nS : NoAttr K CS "slope"
  nO : NoAttr K CS "offset"
  nL : NoAttr K CS "lower"
  g : mg "Stretch" = some (.ref CS)
def spSi (CS : Addr) : Sp := fun vs H Q _ => ∃ (p dx : Addr) (x y z u : V), vs = [.ref p, x, y, z, u] ∧ H p = some (.ins CS dx []) ∧
  ∀ H' : Hp, H' p = some (.ins CS dx [("width", x), ("slope", y), ("offset", z), ("lower", u)]) → (∀ b o, H b = some o → b ≠ p → H' b = some o) → Q .non H'
section
variable {P : Program} {w : World} {K : PySem.W.Frag} {mg : Str → Option Value} {base : Heap} {CP CS : Addr}
theorem scSi : FnScope ["self", "width", "slope", "offset", "lower"] ["self", "width", "slope", "offset", "lower"] (defScope sStInit) := ⟨rfl, rfl, rfl, by decide +kernel, rfl, by decide +kernel, by decide +kernel⟩
theorem ok_si (T : TSt K mg CS) {f : Addr} {fd : FuncData} (F : Fun K "__init__" "Stretch.__init__" sStInit f fd) : FnOk P w K mg base CX0 1 f fd ["self", "width", "slope", "offset", "lower"] (spSi CS) := by
  refine F.ok scSi (fun vs H Q E h => ?_) (fun cdv A outer s H vs Q E hr h => ⟨_, pss_cons (ps_fld (pv 0) (pv 1) rfl) (pss_cons (ps_fld (pv 0) (pv 2) rfl) (pss_cons (ps_fld (pv 0) (pv 3) rfl) (pss_one (ps_fld (pv 0) (pv 4) rfl)))), ?_⟩)
  · obtain ⟨p, dx, x, y, z, u, rfl, _⟩ := h
    rfl
  · obtain ⟨p, dx, x, y, z, u, rfl, hp, k⟩ := h
    refine ⟨_, rfl, _, rfl, p, CS, dx, [], rfl, hp, T.cl, T.nW, (by show 0 < 1000; decide), ?_⟩
    refine ⟨_, rfl, _, rfl, p, CS, dx, _, rfl, upd_same, T.cl, T.nS, (by show 1 < 1000; decide), ?_⟩
    rw [str_new2]
    refine ⟨_, rfl, _, rfl, p, CS, dx, _, rfl, upd_same, T.cl, T.nO, (by show 2 < 1000; decide), ?_⟩
    rw [str_new3]
    refine ⟨_, rfl, _, rfl, p, CS, dx, _, rfl, upd_same, T.cl, T.nL, (by show 3 < 1000; decide), ?_⟩
    rw [str_new4]
    refine k _ upd_same fun b o e hb => ?_
    rw [upd_ne hb, upd_ne hb, upd_ne hb, upd_ne hb]
    exact e
/-! ### columns -/
def spCo (K : PySem.W.Frag) (CP : Addr) : Sp := fun vs H Q _ => ∃ (p : Addr) (g : Sq71.Polygon) (k ls : Int), vs = [.ref p, .int k, .int ls] ∧ PolyAt K CP H p g ∧ 0 < g.D ∧ g.D < lim ∧ 0 < g.cs.length ∧ g.cs.length ≤ 10000 ∧ k.natAbs ≤ 1000000000 ∧
  ∀ H' t, Same H H' → H t = none → H' t = some (.tup [.int (Pg.colA g.D k ls (Pg.sumMin g.cs)), .int (Pg.colZ g.D k ls (Pg.sumMax g.cs))]) → Q (.ref t) H'
theorem scCo : FnScope ["polygon", "size", "less", "left", "right", "x", "y"] ["polygon", "size", "less"] (defScope sCo) := ⟨rfl, rfl, rfl, by decide +kernel, rfl, by decide +kernel, by decide +kernel⟩
theorem ok_co (G2 : Own2 mg) (T : TP K mg CP) {f : Addr} {fd : FuncData} (F : Fun K "columns" "columns" sCo f fd) : FnOk P w K mg base CX0 1 f fd ["polygon", "size", "less"] (spCo K CP) := by
  refine F.ok scCo (fun vs H Q E h => ?_) (fun cdv A outer s H vs Q E hr h => ⟨_,
    pss_cons (ps_set (i := 3) scCo.nd rfl (Or.inl rfl) (pe_callB (cr_min rfl) (by rfl) G2.min boot_min (pa_cons
      (pe_lc (own := [("x", 5), ("y", 6)]) (g := gTup K 2 (gCons (gName 5) (gCons (gName 6) gNil))) (tt := tYes) rfl scCo.nd (pi_list (pe_fld (pv 0) rfl))
        (blkOk_by (N := ["polygon", "size", "less", "left", "right", "x", "y"]) (sc := defScope sCo) (by decide +kernel))
        (fun _ _ _ _ _ => pg_tup rfl (pgs_cons (pg_name (i := 5) scCo.nd rfl (Or.inl rfl)) (pgs_cons (pg_name (i := 6) scCo.nd rfl (Or.inl rfl)) pgs_nil)))
        (fun _ _ _ _ _ => pts_nil) (fun _ _ _ _ _ => pv 5)) pa_nil)))
    (pss_cons (ps_set (i := 4) scCo.nd rfl (Or.inl rfl) (pe_callB (cr_max rfl) (by rfl) G2.max boot_max (pa_cons
      (pe_lc (own := [("x", 5), ("y", 6)]) (g := gTup K 2 (gCons (gName 5) (gCons (gName 6) gNil))) (tt := tYes) rfl scCo.nd (pi_list (pe_fld (pv 0) rfl))
        (blkOk_by (N := ["polygon", "size", "less", "left", "right", "x", "y"]) (sc := defScope sCo) (by decide +kernel))
        (fun _ _ _ _ _ => pg_tup rfl (pgs_cons (pg_name (i := 5) scCo.nd rfl (Or.inl rfl)) (pgs_cons (pg_name (i := 6) scCo.nd rfl (Or.inl rfl)) pgs_nil)))
        (fun _ _ _ _ _ => pts_nil) (fun _ _ _ _ _ => pv 5)) pa_nil)))
    (pss_one (ps_ret (pe_tup (pa_cons (pe_un un_neg (pe_op op_fdivW (pe_op op_sub (pe_op op_mul (pe_un un_neg (pv 3)) (pv 1)) (pv 2)) (pe_fld (pv 0) rfl)))
      (pa_cons (pe_op op_fdivW (pe_op op_sub (pe_op op_mul (pv 4) (pv 1)) (pv 2)) (pe_fld (pv 0) rfl)) pa_nil)))))), ?_⟩)
  · obtain ⟨p, g, k, ls, rfl, _⟩ := h
    rfl
  · obtain ⟨p, g, k, ls, rfl, ⟨dx, l, cv, hp, hl, hpt⟩, hD, lD, hn0, hn, hk, q⟩ := h
    have turn : ∀ {H0 H1 H2 : Hp} {i : Nat} {x : V} {e : Addr}, Same H H0 → H0 e = none → i < cv.length → Same H0 H1 → H1 e = some (.lst (((g.cs.take i).map fun p => p.1).map V.int)) → YAt cv i H1 x H2 →
        ∃ (t : Addr) (a b : Int), x = .ref t ∧ SqT K H2 t [.int a, .int b] ∧ H2 = H1 ∧ (((g.cs.take i).map fun p => p.1).map V.int).length < sizeLine ∧
          Same H0 (upd H1 e (.lst ((((g.cs.take i).map fun p => p.1).map V.int) ++ [.int a]))) ∧ ((((g.cs.take i).map fun p => p.1).map V.int) ++ [V.int a]) = (((g.cs.take (i + 1)).map fun p => p.1).map V.int) := by
      intro H0 H1 H2 i x e s0 he hi s1 hd y
      obtain ⟨rfl, ex⟩ := y
      obtain ⟨pt, hpp, t, rfl, ht⟩ := hpt.get ex
      refine ⟨t, pt.1, pt.2, rfl, same_t (s0.trans s1) ht, rfl, ?_, same_mut s1 he, ?_⟩
      · rw [List.length_map, List.length_map, List.length_take]
        exact Nat.lt_of_le_of_lt (Nat.le_trans (Nat.min_le_right _ _) hn) (by decide)
      · rw [map_more hpp, List.map_append]
        rfl
    refine ⟨_, rfl, p, CP, dx, _, _, rfl, hp, T.cl, T.nC, polF_corners _ _, l, rfl, ⟨_, .inl (.inl hl)⟩, fun e he => ?_⟩
    refine lc_all (walk_list (xs := cv)) (fun i H' => Same H H' ∧ H' e = some (.lst (((g.cs.take i).map fun p => p.1).map V.int))) ⟨same_new he, upd_same⟩
      (fun i H' _ h => .inl (.inl (h.1 _ _ hl))) ?_ ?_
    · rintro i x H1 H2 hi ⟨s1, hd⟩ y
      obtain ⟨t, a, b, rfl, ht, rfl, hsz, sm, eq⟩ := turn (Same.refl H) he hi s1 hd y
      refine ⟨t, _, rfl, ht, rfl, _, _, rfl, _, _, rfl, rfl, rfl, ?_⟩
      exact ⟨_, rfl, _, hd, hsz, sm, by rw [upd_same, eq]⟩
    · rintro H1 ⟨s1, hd⟩
      rw [hpt.length, List.take_length] at hd
      refine ⟨e, _, rfl, .inl (.inl hd), (by rw [List.length_map]; exact hn0), fun m hm hmin => ?_⟩
      obtain ⟨cm, hcm, rfl⟩ := List.mem_map.1 hm
      have em := Pg.min_is hcm fun c hc => hmin _ (List.mem_map_of_mem (f := fun p : Pt => p.1) hc)
      refine ⟨_, rfl, p, CP, dx, _, _, rfl, s1 _ _ hp, T.cl, T.nC, polF_corners _ _, l, rfl, ⟨_, .inl (.inl (s1 _ _ hl))⟩, fun e' he' => ?_⟩
      refine lc_all (walk_list (xs := cv)) (fun i H' => Same H1 H' ∧ H' e' = some (.lst (((g.cs.take i).map fun p => p.1).map V.int))) ⟨same_new he', upd_same⟩
        (fun i H' _ h => .inl (.inl (h.1 _ _ (s1 _ _ hl)))) ?_ ?_
      · rintro i x H2 H3 hi ⟨s2, hd'⟩ y
        obtain ⟨t, a, b, rfl, ht, rfl, hsz, sm, eq⟩ := turn s1 he' hi s2 hd' y
        refine ⟨t, _, rfl, ht, rfl, _, _, rfl, _, _, rfl, rfl, rfl, ?_⟩
        exact ⟨_, rfl, _, hd', hsz, sm, by rw [upd_same, eq]⟩
      · rintro H2 ⟨s2, hd'⟩
        rw [hpt.length, List.take_length] at hd'
        refine ⟨e', _, rfl, .inl (.inl hd'), (by rw [List.length_map]; exact hn0), fun m hm hmax => ?_⟩
        obtain ⟨cz, hcz, rfl⟩ := List.mem_map.1 hm
        have ez := Pg.max_is hcz fun c hc => hmax _ (List.mem_map_of_mem (f := fun p : Pt => p.1) hc)
        rw [em, ez] at q
        have hp2 := s2 _ _ (s1 _ _ hp)
        have wd : ∀ i : Int, CDivW i (g.D : Int) := fun i => lim_div (by omega) (by rw [Int.natAbs_natCast]; exact lD)
        refine ⟨_, rfl, _, rfl, _, rfl, _, _, rfl, rfl, cmul_r (by omega), _, rfl, _, _, rfl, rfl, _, rfl, p, CP, dx, _, _, rfl, hp2, T.cl, T.nS, polF_scale _ _, _, _, rfl, rfl, wd _, _, rfl, ?_⟩
        refine ⟨_, rfl, _, rfl, _, _, rfl, rfl, cmul_r (by omega), _, rfl, _, _, rfl, rfl, _, rfl, p, CP, dx, _, _, rfl, hp2, T.cl, T.nS, polF_scale _ _, _, _, rfl, rfl, wd _, (by show 2 ≤ sizeLine; decide), fun t ht => ?_⟩
        exact q _ t ((s1.trans s2).trans (same_new ht)) ((s1.trans s2).free ht) upd_same
/-! ### stretch_above -/
def spSa (K : PySem.W.Frag) (CS : Addr) : Sp := fun vs H Q _ => ∃ (e sp : Addr) (ue ve : V) (u v : Pt) (D k c l ls : Int), vs = [.ref e, .int D, .int k, .ref sp, .int ls] ∧ SqT K H e [ue, ve] ∧ P2 K H ue u ∧ P2 K H ve v ∧ SqT K H sp [.int c, .int l] ∧
  D.natAbs ≤ 1000000000 ∧ k.natAbs ≤ 1000000000 ∧ c.natAbs ≤ 1000000000000 ∧ u.1.natAbs ≤ 1000000000 ∧ u.2.natAbs ≤ 1000000000 ∧
  ∀ H' r, Same H H' → H r = none → StAt CS H' (.ref r) (Pg.strt D k ls u v c l) → Q (.ref r) H'
theorem scSa : FnScope ["edge", "scale", "size", "span", "less", "left", "right", "wide", "high", "slope", "offset"] ["edge", "scale", "size", "span", "less"] (defScope sSa) := ⟨rfl, rfl, rfl, by decide +kernel, rfl, by decide +kernel, by decide +kernel⟩
theorem ok_sa (T : TSt K mg CS) {f f3 : Addr} {fd fd3 : FuncData} (F : Fun K "stretch_above" "stretch_above" sSa f fd)
    (M : Mk K CS f3) (b3 : Binds K fd3 ["self", "width", "slope", "offset", "lower"] []) (G3 : FnOk P w K mg base CX0 1 f3 fd3 ["self", "width", "slope", "offset", "lower"] (spSi CS)) :
    FnOk P w K mg base CX0 3 f fd ["edge", "scale", "size", "span", "less"] (spSa K CS) := by
  refine F.ok scSa (fun vs H Q E h => ?_) (fun cdv A outer s H vs Q E hr h => ⟨_,
    pss_cons (ps_set (i := 5) scSa.nd rfl (Or.inl rfl) (pe_ix ix_tup (pv 0) pe_int (fun _ _ => rfl)))
    (pss_cons (ps_set (i := 6) scSa.nd rfl (Or.inl rfl) (pe_ix ix_tup (pv 0) pe_int (fun _ _ => rfl)))
    (pss_cons (ps_set (i := 7) scSa.nd rfl (Or.inl rfl) (pe_op op_sub (pe_ix ix_tup (pv 6) pe_int (fun _ _ => rfl)) (pe_ix ix_tup (pv 5) pe_int (fun _ _ => rfl))))
    (pss_cons (ps_set (i := 8) scSa.nd rfl (Or.inl rfl) (pe_op op_sub (pe_ix ix_tup (pv 6) pe_int (fun _ _ => rfl)) (pe_ix ix_tup (pv 5) pe_int (fun _ _ => rfl))))
    (pss_cons (ps_set (i := 9) scSa.nd rfl (Or.inl rfl) (pe_op op_mul (pe_un un_neg (pv 8)) (pv 1)))
    (pss_cons (ps_set (i := 10) scSa.nd rfl (Or.inl rfl) (pe_op op_sub (pe_op op_add (pe_op op_mul (pv 9) (pe_ix ix_tup (pv 3) pe_int (fun _ _ => rfl)))
      (pe_op op_mul (pv 2) (pe_op op_sub (pe_op op_mul (pe_ix ix_tup (pv 5) pe_int (fun _ _ => rfl)) (pv 8)) (pe_op op_mul (pe_ix ix_tup (pv 5) pe_int (fun _ _ => rfl)) (pv 7))))) (pv 4)))
    (pss_one (ps_ret (pe_make M G3 hr rfl T.g b3 .nil pass0 (pa_cons (pe_op op_add (pe_op op_sub (pe_ix ix_tup (pv 3) pe_int (fun _ _ => rfl)) (pe_ix ix_tup (pv 3) pe_int (fun _ _ => rfl))) pe_int)
      (pa_cons (pv 9) (pa_cons (pv 10) (pa_cons (pe_op op_mul (pv 7) (pv 1)) pa_nil)))))))))))), ?_⟩)
  · obtain ⟨e, sp, ue, ve, u, v, D, k, c, l, ls, rfl, _⟩ := h
    rfl
  · obtain ⟨e, sp, _, _, u, v, D, k, c, l, ls, rfl, hE, ⟨tu, rfl, hu⟩, ⟨tv, rfl, hv⟩, hS, bD, bk, bc, bu1, bu2, q⟩ := h
    refine ⟨_, rfl, e, _, _, _, rfl, rfl, hE, at0, ?_⟩
    refine ⟨_, rfl, e, _, _, _, rfl, rfl, hE, at1, ?_⟩
    refine ⟨_, rfl, tv, _, _, _, rfl, rfl, hv, at0, _, rfl, tu, _, _, _, rfl, rfl, hu, at0, _, _, rfl, rfl, ?_⟩
    refine ⟨_, rfl, tv, _, _, _, rfl, rfl, hv, at1, _, rfl, tu, _, _, _, rfl, rfl, hu, at1, _, _, rfl, rfl, ?_⟩
    refine ⟨_, rfl, _, rfl, _, rfl, _, _, rfl, rfl, cmul_r (by omega), ?_⟩
    refine ⟨_, rfl, _, rfl, sp, _, _, _, rfl, rfl, hS, at0, _, _, rfl, rfl, cmul_r (by omega), _, rfl, _, rfl, tu, _, _, _, rfl, rfl, hu, at0, _, rfl, _, _, rfl, rfl, cmul_l' (by omega),
      _, rfl, tu, _, _, _, rfl, rfl, hu, at1, _, rfl, _, _, rfl, rfl, cmul_l' (by omega), _, _, rfl, rfl, _, _, rfl, rfl, cmul_l' (by omega), _, _, rfl, rfl, _, rfl, _, _, rfl, rfl, ?_⟩
    refine ⟨_, rfl, sp, _, _, _, rfl, rfl, hS, at1, _, rfl, sp, _, _, _, rfl, rfl, hS, at0, _, _, rfl, rfl, _, _, rfl, rfl, _, rfl, _, rfl, _, rfl, _, rfl, _, _, rfl, rfl, cmul_r (by omega), ?_⟩
    intro x dx nx nd ne
    refine ⟨x, dx, _, _, _, _, rfl, upd_same, fun H3 hx keep => ⟨rfl, ?_⟩⟩
    exact q H3 x (Same.made nx nd keep) nx ⟨x, dx, rfl, hx⟩
end
end Pw
end

section
namespace Pw
open PySem PySem.Spec PyProof.Rows L2
open Pg (Pt Strt)
abbrev sLs : Stmt := top 26
/-- a list sorted, no two alike -/
theorem ordered_list {L M : List (Addr × List Int)} {cs : List Pt} (e : L.map ptOf = cs) (nd : cs.Nodup) (pm : M.Perm L) (srt : M.Pairwise leP) : M.map ptOf = Sq68.inOrder cs := by
  have pm2 : (M.map ptOf).Perm cs := by rw [← e]; exact pm.map _
  have nd2 : (M.map ptOf).Nodup := pm2.nodup_iff.2 nd
  refine (Pg.inOrder_of ?_ fun x => pm2.mem_iff).symm
  rw [List.Nodup, List.pairwise_map] at nd2
  rw [Pg.Sorted, List.pairwise_map]
  refine List.Pairwise.imp (fun {p q} h => ?_) (srt.and nd2)
  obtain ⟨hle, hne⟩ := h
  rcases Pg.lx_tri (ptOf p) (ptOf q) with h | h | h
  · exact h
  · exact absurd h hne
  · exfalso
    unfold leP at hle
    unfold Pg.lx ptOf at h
    simp only at h
    omega
section
variable {P : Program} {w : World} {K : PySem.W.Frag} {mg : Str → Option Value} {base : Heap} {CP CS : Addr}
theorem st_upd {H : Hp} {c : Addr} {xs ys : List V} (hc : H c = some (.lst xs)) {vs : List V} {ts : List Strt} (h : Rel2 (StAt CS H) vs ts) : Rel2 (StAt CS (upd H c (.lst ys))) vs ts := h.mono fun _ _ q => q.upd hc
theorem st_same {H H' : Hp} (e : Same H H') {vs : List V} {ts : List Strt} (h : Rel2 (StAt CS H) vs ts) : Rel2 (StAt CS H') vs ts := h.mono fun _ _ q => q.mono e
theorem lst_len {D k ls hi : Int} : ∀ (l : List Pt) (c : Int), (Pg.lst D k ls hi l c).length ≤ l.length
  | [], _ => Nat.le_refl _
  | [_], _ => Nat.zero_le _
  | u :: v :: r, c => by
    unfold Pg.lst
    split
    · have := lst_len (D := D) (k := k) (ls := ls) (hi := hi) (v :: r) (min hi (v.1 * k / D) + 1)
      simp only [List.length_cons] at this ⊢
      omega
    · have := lst_len (D := D) (k := k) (ls := ls) (hi := hi) (v :: r) c
      simp only [List.length_cons] at this ⊢
      omega
theorem lst_cons {D k ls hi : Int} (u v : Pt) (r : List Pt) (c : Int) : Pg.lst D k ls hi (u :: v :: r) c =
    if c ≤ min hi (v.1 * k / D) then Pg.strt D k ls u v c (min hi (v.1 * k / D)) :: Pg.lst D k ls hi (v :: r) (min hi (v.1 * k / D) + 1) else Pg.lst D k ls hi (v :: r) c := rfl
theorem drop_two {l : List Pt} {i : Nat} {u v : Pt} (hu : l[i]? = some u) (hv : l[i + 1]? = some v) : l.drop i = u :: v :: l.drop (i + 2) := by
  have h1 : i < l.length := (List.getElem?_eq_some_iff.1 hu).1
  have h2 : i + 1 < l.length := (List.getElem?_eq_some_iff.1 hv).1
  rw [List.drop_eq_getElem_cons h1, List.drop_eq_getElem_cons h2]
  rw [List.getElem?_eq_getElem h1] at hu
  rw [List.getElem?_eq_getElem h2] at hv
  rw [Option.some.inj hu, Option.some.inj hv]
theorem min_if (i j : Int) : (if j < i then j else i) = min i j := by
  rw [Int.min_def]
  split <;> split <;> omega
/-! ### lower_stretches -/
structure Near (cs : List Pt) : Prop where
  nd : cs.Nodup
  len : cs.length ≤ 1000
  bd : ∀ q ∈ cs, q.1.natAbs ≤ 1000000000 ∧ q.2.natAbs ≤ 1000000000
theorem Near.sm {cs : List Pt} (h : Near cs) : ∀ q ∈ cs, Sm q := fun q hq => ⟨small_of (by have := (h.bd q hq).1; omega), small_of (by have := (h.bd q hq).2; omega)⟩
theorem Near.lm {cs : List Pt} (h : Near cs) : ∀ q ∈ cs, Lm q := fun q hq => ⟨lim_of (by have := (h.bd q hq).1; omega), lim_of (by have := (h.bd q hq).2; omega)⟩
theorem inOrder_len (cs : List Pt) : (Sq68.inOrder cs).length ≤ cs.length := Pg.nodup_le (Pg.sorted_nodup (Pg.inOrder_sorted cs)) fun x hx => (Pg.mem_inOrder cs x).1 hx
theorem chain_len (cs : List Pt) : (Pg.chain cs).length ≤ cs.length := Nat.le_trans (bends_len _) (inOrder_len cs)
theorem chain_mem (cs : List Pt) : ∀ q ∈ Pg.chain cs, q ∈ cs := fun q hq => (Pg.mem_inOrder cs q).1 (bends_mem _ q hq)
def spLs (K : PySem.W.Frag) (CS : Addr) : Sp := fun vs H Q _ => ∃ (a sp : Addr) (xs : List V) (cs : List Pt) (D : Nat) (k c0 hi ls : Int), vs = [.ref a, .int D, .int k, .ref sp, .int ls] ∧ SqL K H a xs ∧ Pts K H xs cs ∧ Near cs ∧ SqT K H sp [.int c0, .int hi] ∧
  0 < D ∧ D ≤ 1000000000 ∧ k.natAbs ≤ 1000000000 ∧ c0.natAbs ≤ 100000000000 ∧ hi.natAbs ≤ 100000000000 ∧
  ∀ H' l vs, Same H H' → H l = none → H' l = some (.lst vs) → Rel2 (StAt CS H') vs (Pg.lst D k ls hi (Pg.chain cs) c0) → Q (.ref l) H'
theorem scLs : FnScope ["corners", "scale", "size", "span", "less", "chain", "column", "stretches", "k", "last"] ["corners", "scale", "size", "span", "less"] (defScope sLs) := ⟨rfl, rfl, rfl, by decide +kernel, rfl, by decide +kernel, by decide +kernel⟩
theorem ok_ls (G : Own mg) (G2 : Own2 mg) {f f1 f2 : Addr} {fd fd1 fd2 : FuncData} (F : Fun K "lower_stretches" "lower_stretches" sLs f fd)
    (N1 : Dn K mg "left_bends" f1 fd1 ["places"]) (G1 : FnOk P w K mg base CX0 3 f1 fd1 ["places"] (spLb K))
    (N2 : Dn K mg "stretch_above" f2 fd2 ["edge", "scale", "size", "span", "less"]) (G3 : FnOk P w K mg base CX0 3 f2 fd2 ["edge", "scale", "size", "span", "less"] (spSa K CS)) :
    FnOk P w K mg base CX0 4 f fd ["corners", "scale", "size", "span", "less"] (spLs K CS) := by
  refine F.ok scLs (fun vs H Q E h => ?_) (fun cdv A outer s H vs Q E hr h => ⟨_,
    pss_cons (ps_set (i := 5) scLs.nd rfl (Or.inl rfl) (pe_call G1 hr rfl N1.g N1.kp N1.b .nil pass0 (pa_cons (pe_callB (cr_sortL hr.units) (by rfl) G.sorted PyProof.Rows.boot_sorted (pa_cons (pv 0) pa_nil)) pa_nil)))
    (pss_cons (ps_set (i := 6) scLs.nd rfl (Or.inl rfl) (pe_ix ix_tup (pv 3) pe_int (fun _ _ => rfl)))
    (pss_cons (ps_set (i := 7) scLs.nd rfl (Or.inl rfl) (pe_lst pa_nil))
    (pss_cons (ps_for PassesOwn.never rfl (pi_range2 rfl G.range (pa_cons pe_int (pa_cons (pe_callB call_len_seq (by rfl) G.len PySem.boot_len (pa_cons (pv 5) pa_nil)) pa_nil))) (pg_name (i := 8) scLs.nd rfl (Or.inl rfl))
      (pss_cons (ps_set (i := 9) scLs.nd rfl (Or.inl rfl) (pe_callB (call_min2 rfl) (by rfl) G2.min boot_min (pa_cons (pe_ix ix_tup (pv 3) pe_int (fun _ _ => rfl))
        (pa_cons (pe_op op_fdivW (pe_op op_mul (pe_ix ix_tup (pe_ix ix_list (pv 5) (pv 8) (fun _ _ => rfl)) pe_int (fun _ _ => rfl)) (pv 2)) (pv 1)) pa_nil))))
      (pss_one (ps_if (pt_cmpR op_le (pv 6) (pv 9) (nomark _))
        (pss_cons (ps_expr (pe_bm PySem.F.plainAttrs_list PySem.F.slot_list_append PySem.F.type_list_append mt_append (pv 7) (pa_cons
          (pe_call G3 hr rfl N2.g N2.kp N2.b .nil pass0 (pa_cons (pe_tup (pa_cons (pe_ix ix_list (pv 5) (pe_op op_sub (pv 8) pe_int) (fun _ _ => rfl)) (pa_cons (pe_ix ix_list (pv 5) (pv 8) (fun _ _ => rfl)) pa_nil)))
            (pa_cons (pv 1) (pa_cons (pv 2) (pa_cons (pe_tup (pa_cons (pv 6) (pa_cons (pv 9) pa_nil))) (pa_cons (pv 4) pa_nil)))))) pa_nil)))
        (pss_one (ps_set (i := 6) scLs.nd rfl (Or.inl rfl) (pe_op op_add (pv 9) pe_int)))) pss_nil))))
    (pss_one (ps_ret (pv 7)))))), ?_⟩)
  · obtain ⟨a, sp, xs, cs, D, k, c0, hi, ls, rfl, _⟩ := h
    rfl
  · obtain ⟨a, sp, xs, cs, D, k, c0, hi, ls, rfl, hA, hP, nr, hS, hD, bD, bk, bc, bh, q⟩ := h
    obtain ⟨ks, ex, hk, h2, ep⟩ := hP.keys
    have lenk : ks.length = cs.length := by
      have := congrArg List.length ep
      rwa [List.length_map] at this
    rw [ex] at hA
    have nlen := nr.len
    refine ⟨_, rfl, a, ks, rfl, hA, (by omega), fun p hp => ⟨hk p hp, h2 p hp⟩, fun M o pm srt no => ?_⟩
    have e := ordered_list ep nr.nd pm srt
    have s1 := same_new (H := H) (o := .lst (M.map fun q => V.ref q.1)) no
    have subM : ∀ p ∈ M, p ∈ ks := fun p hp => pm.mem_iff.1 hp
    have pM := (pts_of (fun p hp => hk p (subM p hp)) fun p hp => h2 p (subM p hp)).mono s1
    rw [e] at pM
    refine ⟨o, _, _, rfl, .inl (.inl upd_same), pM, fun p hp => nr.sm p ((Pg.mem_inOrder cs p).1 hp), (by have := inOrder_len cs; omega), fun H2 ch cv s2 nch hch pch => ?_⟩
    have pch : Pts K H2 cv (Pg.chain cs) := pch
    have s12 : Same H H2 := s1.trans s2
    refine ⟨_, rfl, sp, _, _, _, rfl, rfl, same_t s12 hS, at0, ?_⟩
    refine ⟨(by show 0 ≤ sizeLine; omega), fun m hm => ?_⟩
    have s3 : Same H2 (upd H2 m (.lst [])) := same_new hm
    have clen := chain_len cs
    have hlen := pch.length
    refine ⟨_, rfl, ch, cv, rfl, .inl (.inl (.inl (s3 _ _ hch))), 1, (cv.length : Int), rfl, ⟨by omega, by omega, by omega, by omega⟩, ?_⟩
    refine for_range (lo := 1) (n := ((cv.length : Int) - 1).toNat)
      (fun i σ H' => ∃ (v u : Option V) (vs : List V) (c : Int) (acc : List Strt), σ = [some (.ref a), some (.int D), some (.int k), some (.ref sp), some (.int ls), some (.ref ch), some (.int c), some (.ref m), v, u] ∧ Same H2 H' ∧
        H' m = some (.lst vs) ∧ Rel2 (StAt CS H') vs acc ∧ acc ++ Pg.lst D k ls hi ((Pg.chain cs).drop i) c = Pg.lst D k ls hi (Pg.chain cs) c0 ∧ c0 ≤ c ∧ (c = c0 ∨ c ≤ hi + 1))
      ⟨none, none, [], c0, [], rfl, s3, upd_same, .nil, rfl, Int.le_refl _, .inl rfl⟩ ?_ ?_
    · rintro i σ H' hi' ⟨v, u, vs, c, acc, rfl, s4, hv, hr', eq, hc1, hc2⟩
      have i1 : i + 1 < (Pg.chain cs).length := by omega
      have gu : (Pg.chain cs)[i]? = some ((Pg.chain cs)[i]'(by omega)) := by simp [show i < (Pg.chain cs).length by omega]
      have gv : (Pg.chain cs)[i + 1]? = some ((Pg.chain cs)[i + 1]'i1) := by simp [i1]
      generalize (Pg.chain cs)[i]'(by omega) = pu at gu
      generalize (Pg.chain cs)[i + 1]'i1 = pw at gv
      have mu := chain_mem cs pu (List.mem_of_getElem? gu)
      have hcv' : SqL K H' ch cv := .inl (.inl (s4 _ _ hch))
      have pchH := pch.mono s4
      have ei : (1 : Int) + (i : Int) = ((i + 1 : Nat) : Int) := by omega
      have e1 : (1 : Int) + (i : Int) - 1 = ((i : Nat) : Int) := by omega
      obtain ⟨vu, acu, p2u⟩ := pchH.atI (i := (1 : Int) + (i : Int) - 1) (by rw [e1]; exact atI_nat gu)
      obtain ⟨vw, acw, p2w⟩ := pchH.atI (i := (1 : Int) + (i : Int)) (by rw [ei]; exact atI_nat gv)
      have p2w' := p2w
      obtain ⟨tw, rfl, htw⟩ := p2w
      have hS' : SqT K H' sp [.int c0, .int hi] := same_t (s12.trans s4) hS
      have wd : ∀ i : Int, CDivW i (D : Int) := fun i => lim_div (by omega) (by rw [Int.natAbs_natCast]; exact lim_of (by omega))
      refine ⟨_, rfl, sp, _, _, _, rfl, rfl, hS', at1, _, rfl, _, rfl, ch, _, _, _, rfl, rfl, hcv', acw, tw, _, _, _, rfl, rfl, htw, at0, _, rfl, _, _, rfl, rfl, cmul_r (by omega), _, rfl, _, _, rfl, rfl, wd _, _, _, rfl, ?_⟩
      rw [min_if]
      have hdrop := drop_two gu gv
      have hd2 : (Pg.chain cs).drop (i + 1) = pw :: (Pg.chain cs).drop (i + 2) := by
        have := congrArg (List.drop 1) hdrop
        rwa [List.drop_drop] at this
      rw [hdrop, lst_cons] at eq
      refine ⟨_, rfl, _, rfl, _, _, rfl, rfl, _, rfl, ?_⟩
      generalize hlast : min hi (pw.1 * k / (D : Int)) = last at eq ⊢
      have hle2 : last ≤ hi := by rw [← hlast]; exact Int.min_le_left _ _
      have hlen2 : vs.length ≤ 1000 := by
        rw [hr'.length]
        have h3 := lst_len (D := D) (k := k) (ls := ls) (hi := hi) (Pg.chain cs) c0
        have h4 := congrArg List.length eq
        rw [List.length_append] at h4
        omega
      by_cases hc : c ≤ last
      · refine if_true_of (decide_eq_true hc) ?_
        rw [if_pos hc] at eq
        refine ⟨_, rfl, .inl ⟨rfl, _, .inl (.inl hv)⟩, _, rfl, _, rfl, _, _, rfl, rfl, ch, _, _, _, rfl, rfl, hcv', acu, _, rfl, _, rfl, ch, _, _, _, rfl, rfl, hcv', acw, (by show 2 ≤ sizeLine; decide), fun t1 ht1 => ?_⟩
        have s5 : Same H' (upd H' t1 (.tup [vu, .ref tw])) := same_new ht1
        refine ⟨_, rfl, _, rfl, _, rfl, _, rfl, (by show 2 ≤ sizeLine; decide), fun t2 ht2 => ?_⟩
        have s6 : Same (upd H' t1 (.tup [vu, .ref tw])) (upd (upd H' t1 (.tup [vu, .ref tw])) t2 (.tup [.int c, .int last])) := same_new ht2
        have s56 := s5.trans s6
        have nb := nr.bd pu mu
        refine ⟨_, rfl, t1, t2, vu, .ref tw, pu, pw, (D : Int), k, c, last, ls, rfl, .inl (.inl (s6 _ _ upd_same)), p2u.mono s56, p2w'.mono s56, .inl (.inl upd_same), (by omega), bk, (by omega), nb.1, nb.2, fun H7 r s7 nr7 st7 => ?_⟩
        have hv7 : H7 m = some (.lst vs) := s7 _ _ (s56 _ _ hv)
        refine ⟨m, vs, _, rfl, rfl, hv7, Nat.lt_of_le_of_lt hlen2 (by decide), ?_⟩
        refine ⟨_, rfl, _, _, rfl, rfl, ?_⟩
        refine ⟨_, _, _, last + 1, acc ++ [Pg.strt D k ls pu pw c last], rfl, same_mut ((s4.trans s56).trans s7) hm, upd_same, ?_, ?_, by omega, .inr (by omega)⟩
        · exact (st_upd hv7 (st_same (s56.trans s7) hr')).snoc (st7.upd hv7)
        · rw [List.append_assoc, hd2]
          exact eq
      · refine if_false_of (decide_eq_false hc) ?_
        rw [if_neg hc] at eq
        refine ⟨_, _, vs, c, acc, rfl, s4, hv, hr', ?_, hc1, hc2⟩
        rw [hd2]
        exact eq
    · rintro σ H' ⟨v, u, vs, c, acc, rfl, s4, hv, hr', eq, _, _⟩
      refine ⟨_, rfl, q H' m vs (s12.trans s4) (s12.free hm) hv ?_⟩
      have : Pg.lst D k ls hi ((Pg.chain cs).drop ((cv.length : Int) - 1).toNat) c = [] := by
        have hl : ((Pg.chain cs).drop ((cv.length : Int) - 1).toNat).length ≤ 1 := by
          rw [List.length_drop]
          omega
        revert hl
        generalize (Pg.chain cs).drop ((cv.length : Int) - 1).toNat = l
        intro hl
        match l, hl with
        | [], _ => rfl
        | [_], _ => rfl
      rw [this, List.append_nil] at eq
      rw [← eq]
      exact hr'
end
end Pw
end

section
namespace Pw
open PySem PySem.Spec PyProof.Rows L2
open Pg (Pt Strt)
abbrev sBs : Stmt := top 27
abbrev sHm : Stmt := top 28
abbrev sPi : Stmt := top 29
abbrev sPwi : Stmt := top 30
section
variable {P : Program} {w : World} {K : PySem.W.Frag} {mg : Str → Option Value} {base : Heap} {CP CS : Addr}
theorem near_nY {cs : List Pt} (h : Near cs) : Near (cs.map Pg.nY) := by
  refine ⟨?_, by rw [List.length_map]; exact h.len, fun q hq => ?_⟩
  · have := h.nd
    rw [List.Nodup] at this ⊢
    rw [List.pairwise_map]
    refine this.imp fun {a b} hab e => hab ?_
    have e1 : (Pg.nY a).1 = (Pg.nY b).1 := by rw [e]
    have e2 : (Pg.nY a).2 = (Pg.nY b).2 := by rw [e]
    have e2 : -a.2 = -b.2 := e2
    exact Prod.ext e1 (by omega)
  · obtain ⟨c, hc, rfl⟩ := List.mem_map.1 hq
    have := h.bd c hc
    refine ⟨this.1, ?_⟩
    show (-c.2).natAbs ≤ _
    omega
/-! ### both_stretches -/
def spBs (K : PySem.W.Frag) (CP CS : Addr) : Sp := fun vs H Q _ => ∃ (p sp : Addr) (g : Sq71.Polygon) (k c0 hi ls : Int), vs = [.ref p, .int k, .ref sp, .int ls] ∧ PolyAt K CP H p g ∧ Near g.cs ∧ SqT K H sp [.int c0, .int hi] ∧
  0 < g.D ∧ g.D ≤ 1000000000 ∧ k.natAbs ≤ 1000000000 ∧ c0.natAbs ≤ 100000000000 ∧ hi.natAbs ≤ 100000000000 ∧
  ∀ H' t l1 l2 v1 v2, Same H H' → H' t = some (.tup [.ref l1, .ref l2]) → H' l1 = some (.lst v1) → H' l2 = some (.lst v2) →
    Rel2 (StAt CS H') v1 (Pg.lst g.D k ls hi (Pg.chain g.cs) c0) → Rel2 (StAt CS H') v2 (Pg.lst g.D k ls hi (Pg.chain (g.cs.map Pg.nY)) c0) → Q (.ref t) H'
theorem scBs : FnScope ["polygon", "size", "span", "less", "turned", "below", "above", "x", "y"] ["polygon", "size", "span", "less"] (defScope sBs) := ⟨rfl, rfl, rfl, by decide +kernel, rfl, by decide +kernel, by decide +kernel⟩
theorem ok_bs (T : TP K mg CP) {f f1 : Addr} {fd fd1 : FuncData} (F : Fun K "both_stretches" "both_stretches" sBs f fd)
    (N1 : Dn K mg "lower_stretches" f1 fd1 ["corners", "scale", "size", "span", "less"]) (G1 : FnOk P w K mg base CX0 4 f1 fd1 ["corners", "scale", "size", "span", "less"] (spLs K CS)) :
    FnOk P w K mg base CX0 5 f fd ["polygon", "size", "span", "less"] (spBs K CP CS) := by
  refine F.ok scBs (fun vs H Q E h => ?_) (fun cdv A outer s H vs Q E hr h => ⟨_,
    pss_cons (ps_setLc (i := 4) (own := [("x", 7), ("y", 8)]) (g := gTup K 2 (gCons (gName 7) (gCons (gName 8) gNil))) (tt := tYes) (te := tTup (tCons (tVar 7) (tCons (tUn (rU fun i => .int (-i)) (tVar 8)) tNil))) rfl scBs.nd rfl rfl (sw_true rfl rfl rfl (by decide +kernel)) (pi_list (pe_fld (pv 0) rfl))
        (blkOk_by (N := ["polygon", "size", "span", "less", "turned", "below", "above", "x", "y"]) (sc := defScope sBs) (by decide +kernel))
        (fun _ _ _ _ _ => pg_tup rfl (pgs_cons (pg_name (i := 7) scBs.nd rfl (Or.inl rfl)) (pgs_cons (pg_name (i := 8) scBs.nd rfl (Or.inl rfl)) pgs_nil)))
        (fun _ _ _ _ _ => pts_nil) (fun _ _ _ _ _ => pe_tup (pa_cons (pv 7) (pa_cons (pe_un un_neg (pv 8)) pa_nil))))
    (pss_cons (ps_set (i := 5) scBs.nd rfl (Or.inl rfl) (pe_call G1 hr rfl N1.g N1.kp N1.b .nil pass0 (pa_cons (pe_fld (pv 0) rfl) (pa_cons (pe_fld (pv 0) rfl) (pa_cons (pv 1) (pa_cons (pv 2) (pa_cons (pv 3) pa_nil)))))))
    (pss_cons (ps_set (i := 6) scBs.nd rfl (Or.inl rfl) (pe_call G1 hr rfl N1.g N1.kp N1.b .nil pass0 (pa_cons (pv 4) (pa_cons (pe_fld (pv 0) rfl) (pa_cons (pv 1) (pa_cons (pv 2) (pa_cons (pv 3) pa_nil)))))))
    (pss_one (ps_ret (pe_tup (pa_cons (pv 5) (pa_cons (pv 6) pa_nil))))))), ?_⟩)
  · obtain ⟨p, sp, g, k, c0, hi, ls, rfl, _⟩ := h
    rfl
  · obtain ⟨p, sp, g, k, c0, hi, ls, rfl, ⟨dx, l, cv, hp, hl, hpt⟩, nr, hS, hD, bD, bk, bc, bh, q⟩ := h
    refine ⟨_, rfl, p, CP, dx, _, _, rfl, hp, T.cl, T.nC, polF_corners _ _, l, rfl, ⟨_, .inl (.inl hl)⟩, fun e he => ?_⟩
    refine lc_all (walk_list (xs := cv)) (fun i H' => Same H H' ∧ ∃ vs, H' e = some (.lst vs) ∧ Pts K H' vs ((g.cs.take i).map Pg.nY)) ⟨same_new he, [], upd_same, .nil⟩
      (fun i H' _ h => .inl (.inl (h.1 _ _ hl))) ?_ ?_
    · rintro i x H1 H2 hi' ⟨s1, vs, hv, pv'⟩ ⟨rfl, ex⟩
      obtain ⟨pt, hpp, t, rfl, ht⟩ := hpt.get ex
      refine ⟨t, _, rfl, same_t s1 ht, rfl, _, _, rfl, _, _, rfl, rfl, rfl, ?_⟩
      refine ⟨_, rfl, _, rfl, _, rfl, (by show 2 ≤ sizeLine; decide), fun r hr' => ?_⟩
      have ne : e ≠ r := fun z => by rw [← z, hv] at hr'; cases hr'
      have hv' : (upd H2 r (.tup [.int pt.1, .int (-pt.2)])) e = some (.lst vs) := by rw [upd_ne ne]; exact hv
      refine ⟨vs, hv', ?_, same_mut (s1.trans (same_new hr')) he, _, upd_same, ?_⟩
      · rw [pv'.length, List.length_map, List.length_take]
        exact Nat.lt_of_le_of_lt (Nat.le_trans (Nat.min_le_right _ _) nr.len) (by decide)
      · rw [map_more hpp]
        exact ((pv'.mono (same_new hr')).upd hv').snoc (P2.upd hv' ⟨r, rfl, .inl (.inl upd_same)⟩)
    · rintro H1 ⟨s1, tv, hv, pv'⟩
      rw [hpt.length, List.take_length] at pv'
      refine ⟨_, rfl, p, CP, dx, _, _, rfl, s1 _ _ hp, T.cl, T.nC, polF_corners _ _, _, rfl, p, CP, dx, _, _, rfl, s1 _ _ hp, T.cl, T.nS, polF_scale _ _, _, rfl, _, rfl, _, rfl,
        l, sp, cv, g.cs, g.D, k, c0, hi, ls, rfl, .inl (.inl (s1 _ _ hl)), hpt.mono s1, nr, same_t s1 hS, hD, bD, bk, bc, bh, fun H2 l1 v1 s2 n1 hl1 r1 => ?_⟩
      have s12 := s1.trans s2
      refine ⟨_, rfl, _, rfl, p, CP, dx, _, _, rfl, s12 _ _ hp, T.cl, T.nS, polF_scale _ _, _, rfl, _, rfl, _, rfl,
        e, sp, tv, g.cs.map Pg.nY, g.D, k, c0, hi, ls, rfl, .inl (.inl (s2 _ _ hv)), pv'.mono s2, near_nY nr, same_t s12 hS, hD, bD, bk, bc, bh, fun H3 l2 v2 s3 n2 hl2 r2 => ?_⟩
      refine ⟨_, rfl, _, rfl, (by show 2 ≤ sizeLine; decide), fun t ht => ?_⟩
      have s4 := same_new (o := .tup [.ref l1, .ref l2]) ht
      exact q _ t l1 l2 v1 v2 ((s12.trans s3).trans s4) upd_same (s4 _ _ (s3 _ _ hl1)) (s4 _ _ hl2) (st_same (s3.trans s4) r1) (st_same s4 r2)
/-! ### how_many -/
/-- what is asked of a polygon told by the steps -/
structure Tame (g : Sq71.Polygon) : Prop where
  fine : Pg.Fine g
  nd : g.cs.Nodup
  len : g.cs.length ≤ 60
  D1 : g.D ≤ 72000
  bd : ∀ q ∈ g.cs, q.1.natAbs ≤ 1200000 ∧ q.2.natAbs ≤ 1200000
theorem Tame.near {g : Sq71.Polygon} (h : Tame g) : Near g.cs := ⟨h.nd, by have := h.len; omega, fun q hq => by have := h.bd q hq; omega⟩
theorem Tame.pos {g : Sq71.Polygon} (h : Tame g) : 0 < g.cs.length := by
  obtain ⟨a, L, z, U, m⟩ := h.fine.mono
  rw [m.eq]
  simp
theorem min_bd {g : Sq71.Polygon} (h : Tame g) : (Pg.sumMin g.cs).natAbs ≤ 1200000 ∧ (Pg.sumMax g.cs).natAbs ≤ 1200000 := by
  obtain ⟨a, L, z, U, m⟩ := h.fine.mono
  have bd := m.bounds
  have ma : a ∈ g.cs := by rw [m.eq]; simp
  have mz : z ∈ g.cs := by rw [m.eq]; simp
  rw [Pg.min_is ma fun c hc => (bd c hc).1, Pg.max_is mz fun c hc => (bd c hc).2]
  exact ⟨(h.bd a ma).1, (h.bd z mz).1⟩
theorem div_bd {a b : Int} {M : Nat} (hb : 0 < b) (h : a.natAbs ≤ M) : (a / b).natAbs ≤ M + 1 := by
  have h1 : a / b * b ≤ a := Int.ediv_mul_le _ (by omega)
  have h2 : a < (a / b + 1) * b := Int.lt_ediv_add_one_mul_self a hb
  rcases Int.le_total 0 (a / b) with p | p
  · have : a / b * 1 ≤ a / b * b := Int.mul_le_mul_of_nonneg_left (by omega) p
    omega
  · by_cases z : a / b = 0
    · omega
    · have : (a / b + 1) * b ≤ (a / b + 1) * 1 := by
        have := Int.mul_le_mul_of_nonneg_left (show (1 : Int) ≤ b by omega) (show 0 ≤ -(a / b + 1) by omega)
        rw [Int.neg_mul, Int.neg_mul] at this
        omega
      omega
theorem col_bd {g : Sq71.Polygon} (h : Tame g) {k : Nat} (hk : k ≤ 100) (st : Bool) : (Pg.colA g.D k (Pg.lsOf st) (Pg.sumMin g.cs)).natAbs ≤ 200000000 ∧ (Pg.colZ g.D k (Pg.lsOf st) (Pg.sumMax g.cs)).natAbs ≤ 200000000 := by
  have b := min_bd h
  have D0 := h.fine.D0
  have l1 : (Pg.lsOf st).natAbs ≤ 1 := by unfold Pg.lsOf; split <;> decide
  have m1 := Pg.abs_mul_le (show (-Pg.sumMin g.cs).natAbs ≤ 1200000 by omega) (show ((k : Nat) : Int).natAbs ≤ 100 by omega)
  have m2 := Pg.abs_mul_le b.2 (show ((k : Nat) : Int).natAbs ≤ 100 by omega)
  unfold Pg.colA Pg.colZ
  have d1 := div_bd (b := (g.D : Int)) (M := 120000001) (a := -Pg.sumMin g.cs * (k : Int) - Pg.lsOf st) (by omega) (by omega)
  have d2 := div_bd (b := (g.D : Int)) (M := 120000001) (a := Pg.sumMax g.cs * (k : Int) - Pg.lsOf st) (by omega) (by omega)
  omega
theorem wide_bd {g : Sq71.Polygon} (h : Tame g) {k : Nat} (hk : k ≤ 100) (st : Bool) : Pg.wide g k st ≤ 1000000000 := by
  have := col_bd h hk st
  unfold Pg.wide
  omega
theorem Rel2.get2 {α : Type} {R : V → α → Prop} {vs : List V} {xs : List α} {i : Nat} {v : V} (h : Rel2 R vs xs) (e : vs[i]? = some v) : ∃ x, xs[i]? = some x ∧ R v x := h.get e
def spHm (K : PySem.W.Frag) (CP : Addr) : Sp := fun vs H Q _ => ∃ (p : Addr) (g : Sq71.Polygon) (k : Nat) (st : Bool), vs = [.ref p, .int (k : Int), .int (Pg.lsOf st)] ∧ PolyAt K CP H p g ∧ Tame g ∧ k ≤ 100 ∧ (st = true → 0 < k) ∧
  ∀ H', Same H H' → Q (.int (Sq71.count g k st : Nat)) H'
theorem scHm : FnScope ["polygon", "size", "less", "span", "both", "reaches", "each"] ["polygon", "size", "less"] (defScope sHm) := ⟨rfl, rfl, rfl, by decide +kernel, rfl, by decide +kernel, by decide +kernel⟩
theorem ok_hm (G2 : Own2 mg) (TS : TSt K mg CS) {f f1 f2 f3 : Addr} {fd fd1 fd2 fd3 : FuncData} (F : Fun K "how_many" "how_many" sHm f fd)
    (N1 : Dn K mg "columns" f1 fd1 ["polygon", "size", "less"]) (G1 : FnOk P w K mg base CX0 1 f1 fd1 ["polygon", "size", "less"] (spCo K CP))
    (N2 : Dn K mg "both_stretches" f2 fd2 ["polygon", "size", "span", "less"]) (G3 : FnOk P w K mg base CX0 5 f2 fd2 ["polygon", "size", "span", "less"] (spBs K CP CS))
    (N3 : Dn K mg "sum_of_floors" f3 fd3 ["count", "slope", "start", "lower"]) (G4 : FnOk P w K mg base CX0 1 f3 fd3 ["count", "slope", "start", "lower"] spSf) :
    FnOk P w K mg base CX0 6 f fd ["polygon", "size", "less"] (spHm K CP) := by
  refine F.ok scHm (fun vs H Q E h => ?_) (fun cdv A outer s H vs Q E hr h => ⟨_,
    pss_cons (ps_set (i := 3) scHm.nd rfl (Or.inl rfl) (pe_call G1 (hr.mono (by decide)) rfl N1.g N1.kp N1.b .nil pass0 (pa_cons (pv 0) (pa_cons (pv 1) (pa_cons (pv 2) pa_nil)))))
    (pss_cons (ps_set (i := 4) scHm.nd rfl (Or.inl rfl) (pe_call G3 hr rfl N2.g N2.kp N2.b .nil pass0 (pa_cons (pv 0) (pa_cons (pv 1) (pa_cons (pv 3) (pa_cons (pv 2) pa_nil))))))
    (pss_cons (ps_setLc (i := 5) (own := [("each", 6)]) (g := gName 6) (tt := tYes) (te := tCall spSf [] E0 (tCons (tFld K (tVar 6) "width") (tCons (tFld K (tVar 6) "slope") (tCons (tFld K (tVar 6) "offset") (tCons (tFld K (tVar 6) "lower") tNil)))))
        rfl scHm.nd rfl rfl (sw_true rfl rfl rfl (by decide +kernel)) (pi_list (pe_op op_cat (pe_ix ix_tup (pv 4) pe_int (fun _ _ => rfl)) (pe_ix ix_tup (pv 4) pe_int (fun _ _ => rfl))))
        (blkOk_by (N := ["polygon", "size", "less", "span", "both", "reaches", "each"]) (sc := defScope sHm) (by decide +kernel))
        (fun _ _ _ _ _ => pg_name (i := 6) scHm.nd rfl (Or.inl rfl))
        (fun _ _ _ _ _ => pts_nil) (fun _ _ _ _ _ => pe_call G4 (hr.mono (by decide)) rfl N3.g N3.kp N3.b .nil pass0 (pa_cons (pe_fld (pv 6) rfl) (pa_cons (pe_fld (pv 6) rfl) (pa_cons (pe_fld (pv 6) rfl) (pa_cons (pe_fld (pv 6) rfl) pa_nil))))))
    (pss_one (ps_ret (pe_op op_add (pe_op op_sub (pe_op op_add (pe_callB (cr_sum rfl) (by rfl) G2.sum boot_sum (pa_cons (pv 5) pa_nil)) (pe_ix ix_tup (pv 3) pe_int (fun _ _ => rfl))) (pe_ix ix_tup (pv 3) pe_int (fun _ _ => rfl))) pe_int))))), ?_⟩)
  · obtain ⟨p, g, k, st, rfl, _⟩ := h
    rfl
  · obtain ⟨p, g, k, st, rfl, hP, tm, hk, hst, q⟩ := h
    have D0 := tm.fine.D0
    have D1 := tm.D1
    have nr := tm.near
    have hlen := tm.len
    have cb := col_bd tm hk st
    refine ⟨_, rfl, _, rfl, _, rfl, p, g, (k : Int), Pg.lsOf st, rfl, hP, D0, lim_of (by omega), tm.pos, by omega, by omega, fun H1 t s1 nt ht => ?_⟩
    have hS : SqT K H1 t [.int (Pg.colA g.D k (Pg.lsOf st) (Pg.sumMin g.cs)), .int (Pg.colZ g.D k (Pg.lsOf st) (Pg.sumMax g.cs))] := .inl (.inl ht)
    refine ⟨_, rfl, _, rfl, _, rfl, _, rfl, p, t, g, (k : Int), _, _, Pg.lsOf st, rfl, hP.mono s1, nr, hS, D0, by omega, by omega, by omega, by omega, fun H2 b l1 l2 v1 v2 s2 hb hl1 hl2 r1 r2 => ?_⟩
    have sg := Pg.str_good tm.fine hst (M := 1200000) fun c hc => by have := (tm.bd c hc).1; omega
    have cr := Pg.count_reach tm.fine hst
    have ll1 := lst_len (D := g.D) (k := k) (ls := Pg.lsOf st) (hi := Pg.colZ g.D k (Pg.lsOf st) (Pg.sumMax g.cs)) (Pg.chain g.cs) (Pg.colA g.D k (Pg.lsOf st) (Pg.sumMin g.cs))
    have ll2 := lst_len (D := g.D) (k := k) (ls := Pg.lsOf st) (hi := Pg.colZ g.D k (Pg.lsOf st) (Pg.sumMax g.cs)) (Pg.chain (g.cs.map Pg.nY)) (Pg.colA g.D k (Pg.lsOf st) (Pg.sumMin g.cs))
    have cl1 := chain_len g.cs
    have cl2 := chain_len (g.cs.map Pg.nY)
    rw [List.length_map] at cl2
    unfold Pg.RB Pg.RA at cr
    rw [Pg.rAll_sum, Pg.rAll_sum, ← List.sum_append, ← List.map_append] at cr
    have r12 := r1.append r2
    generalize Pg.lst g.D k (Pg.lsOf st) (Pg.colZ g.D k (Pg.lsOf st) (Pg.sumMax g.cs)) (Pg.chain g.cs) (Pg.colA g.D k (Pg.lsOf st) (Pg.sumMin g.cs)) = L1 at *
    generalize Pg.lst g.D k (Pg.lsOf st) (Pg.colZ g.D k (Pg.lsOf st) (Pg.sumMax g.cs)) (Pg.chain (g.cs.map Pg.nY)) (Pg.colA g.D k (Pg.lsOf st) (Pg.sumMin g.cs)) = L2 at *
    have e1 := r1.length
    have e2 := r2.length
    refine ⟨_, rfl, b, _, _, _, rfl, rfl, .inl (.inl hb), at0, _, rfl, b, _, _, _, rfl, rfl, .inl (.inl hb), at1, l1, l2, _, _, rfl, rfl, hl1, hl2, Nat.le_trans (show v1.length + v2.length ≤ 1000 by omega) (by decide), fun c hc => ?_⟩
    have s3 := same_new (o := .lst (v1 ++ v2)) hc
    have r12' := st_same s3 r12
    have hc' := upd_same (H := H2) (a := c) (o := .lst (v1 ++ v2))
    have ht3 := s3 _ _ (s2 _ _ ht)
    have s13 := (s1.trans s2).trans s3
    generalize upd H2 c (.lst (v1 ++ v2)) = H3 at *
    refine ⟨c, rfl, ⟨_, .inl (.inl hc')⟩, fun e he => ?_⟩
    refine lc_all (walk_list (xs := v1 ++ v2)) (fun i H' => Same H3 H' ∧ H' e = some (.lst ((((L1 ++ L2).take i).map fun s => Pg.flS s.w.toNat s.slope s.off s.low).map V.int))) ⟨same_new he, upd_same⟩
      (fun i H' _ h => .inl (.inl (h.1 _ _ hc'))) ?_ ?_
    · rintro i x H4 H5 hi ⟨s4, hd⟩ ⟨rfl, ex⟩
      obtain ⟨s, hs, a, dx, rfl, ha⟩ := r12'.get ex
      have ha := s4 _ _ ha
      have gs := sg s (List.mem_of_getElem? hs)
      have wb := wide_bd tm hk st
      refine ⟨rfl, _, rfl, a, CS, dx, _, _, rfl, ha, TS.cl, TS.nW, strF_w s, _, rfl, a, CS, dx, _, _, rfl, ha, TS.cl, TS.nS, strF_s s, _, rfl, a, CS, dx, _, _, rfl, ha, TS.cl, TS.nO, strF_o s, _, rfl, a, CS, dx, _, _, rfl, ha, TS.cl, TS.nL, strF_l s,
        s.w, s.slope, s.off, s.low, rfl, by omega, gs.1, lim_of (by omega), ?_⟩
      refine ⟨_, hd, ?_, same_mut s4 he, ?_⟩
      · rw [List.length_map, List.length_map, List.length_take, List.length_append]
        exact Nat.lt_of_le_of_lt (show min i (L1.length + L2.length) ≤ 1000 by omega) (by decide)
      · rw [upd_same, map_more hs, List.map_append]
        rfl
    · rintro H4 ⟨s4, hd⟩
      rw [r12'.length, List.take_length] at hd
      have ht4 : SqT K H4 t [.int (Pg.colA g.D k (Pg.lsOf st) (Pg.sumMin g.cs)), .int (Pg.colZ g.D k (Pg.lsOf st) (Pg.sumMax g.cs))] := .inl (.inl (s4 _ _ ht3))
      refine ⟨_, rfl, e, _, rfl, .inl (.inl hd), _, rfl, t, _, _, _, rfl, rfl, ht4, at1, _, _, rfl, rfl, _, rfl, t, _, _, _, rfl, rfl, ht4, at0, _, _, rfl, rfl, _, _, rfl, rfl, ?_⟩
      have : ((L1 ++ L2).map fun s => Pg.flS s.w.toNat s.slope s.off s.low).sum + Pg.colZ g.D k (Pg.lsOf st) (Pg.sumMax g.cs) - Pg.colA g.D k (Pg.lsOf st) (Pg.sumMin g.cs) + 1 = (Sq71.count g k st : Nat) := by
        rw [cr]
        unfold Pg.wide
        omega
      have q4 := q H4 (s13.trans s4)
      rw [← this] at q4
      exact q4
/-! ### points_in, points_within -/
def spPin (K : PySem.W.Frag) (CP : Addr) (st : Bool) : Sp := fun vs H Q _ => ∃ (p : Addr) (g : Sq71.Polygon) (k : Nat), vs = [.ref p, .int (k : Int)] ∧ PolyAt K CP H p g ∧ Tame g ∧ k ≤ 100 ∧ (st = true → 0 < k) ∧
  ∀ H', Same H H' → Q (.int (Sq71.count g k st : Nat)) H'
theorem scPin : FnScope ["polygon", "size"] ["polygon", "size"] (defScope sPi) := ⟨rfl, rfl, rfl, by decide +kernel, rfl, by decide +kernel, by decide +kernel⟩
theorem scPwi : FnScope ["polygon", "size"] ["polygon", "size"] (defScope sPwi) := ⟨rfl, rfl, rfl, by decide +kernel, rfl, by decide +kernel, by decide +kernel⟩
theorem ok_pin {f f1 : Addr} {fd fd1 : FuncData} (F : Fun K "points_in" "points_in" sPi f fd) (c1 : ∃ t, mg "WITH_EDGES" = some (.int 0 t))
    (N1 : Dn K mg "how_many" f1 fd1 ["polygon", "size", "less"]) (G1 : FnOk P w K mg base CX0 6 f1 fd1 ["polygon", "size", "less"] (spHm K CP)) :
    FnOk P w K mg base CX0 7 f fd ["polygon", "size"] (spPin K CP false) := by
  obtain ⟨_, c1⟩ := c1
  refine F.ok scPin (fun vs H Q E h => ?_) (fun cdv A outer s H vs Q E hr h => ⟨_,
    pss_one (ps_ret (pe_call G1 hr rfl N1.g N1.kp N1.b .nil pass0 (pa_cons (pv 0) (pa_cons (pv 1) (pa_cons (pe_glob (v := .int 0) rfl c1 ⟨_, rfl⟩) pa_nil))))), ?_⟩)
  · obtain ⟨p, g, k, rfl, _⟩ := h
    rfl
  · obtain ⟨p, g, k, rfl, hP, tm, hk, hst, q⟩ := h
    exact ⟨_, rfl, _, rfl, p, g, k, false, rfl, hP, tm, hk, hst, q⟩
theorem ok_pwi {f f1 : Addr} {fd fd1 : FuncData} (F : Fun K "points_within" "points_within" sPwi f fd) (c1 : ∃ t, mg "WITHIN" = some (.int 1 t))
    (N1 : Dn K mg "how_many" f1 fd1 ["polygon", "size", "less"]) (G1 : FnOk P w K mg base CX0 6 f1 fd1 ["polygon", "size", "less"] (spHm K CP)) :
    FnOk P w K mg base CX0 7 f fd ["polygon", "size"] (spPin K CP true) := by
  obtain ⟨_, c1⟩ := c1
  refine F.ok scPwi (fun vs H Q E h => ?_) (fun cdv A outer s H vs Q E hr h => ⟨_,
    pss_one (ps_ret (pe_call G1 hr rfl N1.g N1.kp N1.b .nil pass0 (pa_cons (pv 0) (pa_cons (pv 1) (pa_cons (pe_glob (v := .int 1) rfl c1 ⟨_, rfl⟩) pa_nil))))), ?_⟩)
  · obtain ⟨p, g, k, rfl, _⟩ := h
    rfl
  · obtain ⟨p, g, k, rfl, hP, tm, hk, hst, q⟩ := h
    exact ⟨_, rfl, _, rfl, p, g, k, true, rfl, hP, tm, hk, hst, q⟩
end
end Pw
end

section
namespace Pw
open PySem PySem.Spec PyProof.Rows L2
open Pg (Pt Strt)
abbrev sRo : Stmt := top 31
abbrev sCe : Stmt := top 32
section
variable {P : Program} {w : World} {K : PySem.W.Frag} {mg : Str → Option Value} {base : Heap} {CP CS : Addr}
/-! ### reaches_of -/
theorem rAll_more {l : List Strt} {i : Nat} {s : Strt} (h : l[i]? = some s) : Pg.rAll (l.take (i + 1)) = Pg.rAll (l.take i) ++ Pg.rOf s := flat_more h
theorem rAll_le {l : List Strt} (i : Nat) : (Pg.rAll (l.take i)).length ≤ (Pg.rAll l).length := by
  have : Pg.rAll l = Pg.rAll (l.take i) ++ Pg.rAll (l.drop i) := by
    unfold Pg.rAll
    rw [← List.flatMap_append, List.take_append_drop]
  rw [this, List.length_append]
  omega
def spRo (CS : Addr) : Sp := fun vs H Q _ => ∃ (a : Addr) (xs : List V) (l : List Strt), vs = [.ref a] ∧ H a = some (.lst xs) ∧ Rel2 (StAt CS H) xs l ∧ (∀ s ∈ l, 0 < s.low ∧ s.low.natAbs < lim ∧ s.w ≤ 1000000000 ∧ 0 ≤ s.w) ∧ (Pg.rAll l).length ≤ 100000 ∧
  ∀ H' p, Same H H' → H p = none → H' p = some (.lst ((Pg.rAll l).map V.int)) → Q (.ref p) H'
theorem scRo : FnScope ["stretches", "reaches", "each", "k"] ["stretches"] (defScope sRo) := ⟨rfl, rfl, rfl, by decide +kernel, rfl, by decide +kernel, by decide +kernel⟩
theorem ok_ro (G : Own mg) (TS : TSt K mg CS) {f : Addr} {fd : FuncData} (F : Fun K "reaches_of" "reaches_of" sRo f fd) : FnOk P w K mg base CX0 1 f fd ["stretches"] (spRo CS) := by
  refine F.ok scRo (fun vs H Q E h => ?_) (fun cdv A outer s H vs Q E hr h => ⟨_,
    pss_cons (ps_set (i := 1) scRo.nd rfl (Or.inl rfl) (pe_lst pa_nil))
    (pss_cons (ps_for PassesOwn.never rfl (pi_list (pv 0)) (pg_name (i := 2) scRo.nd rfl (Or.inr rfl))
      (pss_one (ps_expr (pe_bm PySem.F.plainAttrs_list PySem.F.slot_list_extend PySem.F.type_list_extend mt_extend (pv 1) (pa_cons
        (pe_lc (own := [("k", 3)]) (g := gName 3) (tt := tYes) (te := tOp (rI CDivW fun i j => .int (i / j)) (tOp (rI0 fun i j => .int (i + j)) (tOp (rI CMul fun i j => .int (i * j)) (tFld K (tVar 2) "slope") (tVar 3)) (tFld K (tVar 2) "offset")) (tFld K (tVar 2) "lower"))
          rfl scRo.nd (pi_range1 rfl G.range (pa_cons (pe_fld (pv 2) rfl) pa_nil))
          (blkOk_by (N := ["stretches", "reaches", "each", "k"]) (sc := defScope sRo) (by decide +kernel))
          (fun _ _ _ _ _ => pg_name (i := 3) scRo.nd rfl (Or.inl rfl)) (fun _ _ _ _ _ => pts_nil)
          (fun _ _ _ _ _ => pe_op op_fdivW (pe_op op_add (pe_op op_mul (pe_fld (pv 2) rfl) (pv 3)) (pe_fld (pv 2) rfl)) (pe_fld (pv 2) rfl))) pa_nil)))))
    (pss_one (ps_ret (pv 1)))), ?_⟩)
  · obtain ⟨a, xs, l, rfl, _⟩ := h
    rfl
  · obtain ⟨a, xs, l, rfl, hA, hR, hg, hl, q⟩ := h
    refine ⟨(by show 0 ≤ sizeLine; omega), fun r hr' => ?_⟩
    have s1 : Same H (upd H r (.lst [])) := same_new hr'
    refine ⟨_, rfl, a, rfl, ⟨_, .inl (.inl (s1 _ _ hA))⟩, for_list (K := K) (a := a) (xs := xs)
      (fun i σ H' => ∃ (v : Option V), σ = [some (.ref a), some (.ref r), v, none] ∧ Same H H' ∧ H' r = some (.lst ((Pg.rAll (l.take i)).map V.int)))
      ⟨none, rfl, s1, upd_same⟩ (fun i σ H' _ ⟨_, _, s2, _⟩ => .inl (.inl (s2 _ _ hA))) ?_ ?_⟩
    · rintro i x σ H' hi ⟨v, rfl, s2, hr2⟩
      obtain ⟨s, hs, p, dx, rfl, hp⟩ := hR.get hi
      have hp := s2 _ _ hp
      have gs := hg s (List.mem_of_getElem? hs)
      have wd : ∀ i : Int, CDivW i s.low := fun i => lim_div gs.1 gs.2.1
      have hw := gs.2.2.2
      refine ⟨_, rfl, .inl ⟨rfl, _, .inl (.inl hr2)⟩, _, rfl, p, CS, dx, _, _, rfl, hp, TS.cl, TS.nW, strF_w s, s.w, rfl, by omega, by omega, fun e he => ?_⟩
      have more := rAll_more hs
      have le2 := rAll_le (l := l) (i + 1)
      rw [more, List.length_append, Pg.rOf_len] at le2
      refine lc_all (walk_range (lo := 0) (n := s.w.toNat)) (fun j H2 => Same H' H2 ∧ H2 e = some (.lst (((List.range j).map fun (j : Nat) => (s.slope * j + s.off) / s.low).map V.int))) ⟨same_new he, upd_same⟩
        (fun i H' _ h => trivial) ?_ ?_
      · rintro j x H2 H3 hj ⟨s3, hd⟩ ⟨rfl, ex⟩
        have ex : x = .int (j : Int) := ex.trans (congrArg V.int (Int.zero_add _))
        subst ex
        have hp3 := s3 _ _ hp
        refine ⟨rfl, _, rfl, p, CS, dx, _, _, rfl, hp3, TS.cl, TS.nS, strF_s s, _, rfl, _, _, rfl, rfl, cmul_r (by omega), _, rfl, p, CS, dx, _, _, rfl, hp3, TS.cl, TS.nO, strF_o s, _, _, rfl, rfl, _, rfl, p, CS, dx, _, _, rfl, hp3, TS.cl, TS.nL, strF_l s, _, _, rfl, rfl, wd _, ?_⟩
        refine ⟨_, hd, ?_, same_mut s3 he, ?_⟩
        · rw [List.length_map, List.length_map, List.length_range]
          exact Nat.lt_of_le_of_lt (show j ≤ 100000 by omega) (by decide)
        · rw [upd_same, List.range_succ, List.map_append, List.map_append]
          rfl
      · rintro H2 ⟨s3, hd⟩
        have hr3 := s3 _ _ hr2
        refine ⟨r, e, _, _, rfl, rfl, hr3, hd, ?_, ?_⟩
        · rw [List.length_map, List.length_map, List.length_map, List.length_range]
          exact Nat.le_trans (show _ ≤ 100000 by omega) (by decide)
        · refine ⟨_, rfl, same_mut (s2.trans s3) hr', ?_⟩
          rw [upd_same, more, List.map_append]
          rfl
    · rintro σ H' ⟨v, rfl, s2, hr2⟩
      rw [hR.length, List.take_length] at hr2
      exact ⟨_, rfl, q H' r s2 hr' hr2⟩
/-! ### column_ends -/
theorem ce_app {e : Addr} {vs : List V} {x y : Int} {H2 : Hp} {D : Ends} {σ : L2.St} {ta tb : TE} (hσ : σ[3]? = some (some (.ref e))) (hv : H2 e = some (.lst vs)) (hl : vs.length < sizeLine)
    (ha : ∀ Q, Q (.int x) H2 → ta σ H2 Q) (hb : ∀ Q, Q (.int y) H2 → tb σ H2 Q)
    (h : ∀ q, H2 q = none → D.nx σ (upd (upd H2 q (.tup [.int x, .int y])) e (.lst (vs ++ [.ref q])))) :
    tDrop (tBM K "list" rAppend (tVar 3) (tCons (tTup (tCons ta (tCons tb tNil))) tNil)) D σ H2 := by
  refine ⟨_, hσ, .inl ⟨rfl, _, .inl (.inl hv)⟩, ?_⟩
  refine ha _ (hb _ ⟨(by show 2 ≤ sizeLine; decide), fun q hq => ?_⟩)
  have ne : e ≠ q := fun z => by rw [← z, hv] at hq; cases hq
  exact ⟨e, vs, _, rfl, rfl, by rw [upd_ne ne]; exact hv, hl, h q hq⟩
def spCe (K : PySem.W.Frag) (CP : Addr) : Sp := fun vs H Q _ => ∃ (p : Addr) (g : Sq71.Polygon), vs = [.ref p] ∧ PolyAt K CP H p g ∧ Tame g ∧ Pg.wide g 1 false ≤ 50000 ∧
  ∀ H' l vs, Same H H' → H l = none → H' l = some (.lst vs) → Pts K H' vs (Pg.endsN (Pg.colA g.D 1 0 (Pg.sumMin g.cs)) (Pg.RB g 1 false) (Pg.RA g 1 false) (Pg.wide g 1 false).toNat) → Q (.ref l) H'
theorem scCe : FnScope ["polygon", "span", "both", "ends", "k", "reaches"] ["polygon"] (defScope sCe) := ⟨rfl, rfl, rfl, by decide +kernel, rfl, by decide +kernel, by decide +kernel⟩
theorem ok_ce (G : Own mg) (G2 : Own2 mg) {f f1 f2 f3 : Addr} {fd fd1 fd2 fd3 : FuncData} (F : Fun K "column_ends" "column_ends" sCe f fd) (c1 : ∃ t, mg "WITH_EDGES" = some (.int 0 t))
    (N1 : Dn K mg "columns" f1 fd1 ["polygon", "size", "less"]) (G1 : FnOk P w K mg base CX0 1 f1 fd1 ["polygon", "size", "less"] (spCo K CP))
    (N2 : Dn K mg "both_stretches" f2 fd2 ["polygon", "size", "span", "less"]) (G3 : FnOk P w K mg base CX0 5 f2 fd2 ["polygon", "size", "span", "less"] (spBs K CP CS))
    (N3 : Dn K mg "reaches_of" f3 fd3 ["stretches"]) (G4 : FnOk P w K mg base CX0 1 f3 fd3 ["stretches"] (spRo CS)) :
    FnOk P w K mg base CX0 6 f fd ["polygon"] (spCe K CP) := by
  obtain ⟨_, c1⟩ := c1
  refine F.ok scCe (fun vs H Q E h => ?_) (fun cdv A outer s H vs Q E hr h => ⟨_,
    pss_cons (ps_set (i := 1) scCe.nd rfl (Or.inl rfl) (pe_call G1 (hr.mono (by decide)) rfl N1.g N1.kp N1.b .nil pass0 (pa_cons (pv 0) (pa_cons pe_int (pa_cons (pe_glob (v := .int 0) rfl c1 ⟨_, rfl⟩) pa_nil)))))
    (pss_cons (ps_set (i := 2) scCe.nd rfl (Or.inl rfl) (pe_call G3 hr rfl N2.g N2.kp N2.b .nil pass0 (pa_cons (pv 0) (pa_cons pe_int (pa_cons (pv 1) (pa_cons (pe_glob (v := .int 0) rfl c1 ⟨_, rfl⟩) pa_nil))))))
    (pss_cons (ps_set (i := 3) scCe.nd rfl (Or.inl rfl) (pe_lst pa_nil))
    (pss_cons (ps_for PassesOwn.never rfl (pi_enumZip rfl G2.enumerate rfl G.zip (pa_cons (pe_call G4 (hr.mono (by decide)) rfl N3.g N3.kp N3.b .nil pass0 (pa_cons (pe_ix ix_tup (pv 2) pe_int (fun _ _ => rfl)) pa_nil))
        (pa_cons (pe_call G4 (hr.mono (by decide)) rfl N3.g N3.kp N3.b .nil pass0 (pa_cons (pe_ix ix_tup (pv 2) pe_int (fun _ _ => rfl)) pa_nil)) pa_nil)))
      (pg_tup rfl (pgs_cons (pg_name (i := 4) scCe.nd rfl (Or.inl rfl)) (pgs_cons (pg_name (i := 5) scCe.nd rfl (Or.inl rfl)) pgs_nil)))
      (pss_one (ps_if (pt_cmpR op_le (pe_un un_neg (pe_ix ix_tup (pv 5) pe_int (fun _ _ => rfl))) (pe_ix ix_tup (pv 5) pe_int (fun _ _ => rfl)) (nomark _))
        (pss_cons (ps_expr (pe_bm PySem.F.plainAttrs_list PySem.F.slot_list_append PySem.F.type_list_append mt_append (pv 3) (pa_cons
          (pe_tup (pa_cons (pe_op op_add (pe_ix ix_tup (pv 1) pe_int (fun _ _ => rfl)) (pv 4)) (pa_cons (pe_un un_neg (pe_ix ix_tup (pv 5) pe_int (fun _ _ => rfl))) pa_nil))) pa_nil)))
        (pss_one (ps_expr (pe_bm PySem.F.plainAttrs_list PySem.F.slot_list_append PySem.F.type_list_append mt_append (pv 3) (pa_cons
          (pe_tup (pa_cons (pe_op op_add (pe_ix ix_tup (pv 1) pe_int (fun _ _ => rfl)) (pv 4)) (pa_cons (pe_ix ix_tup (pv 5) pe_int (fun _ _ => rfl)) pa_nil))) pa_nil))))) pss_nil)))
    (pss_one (ps_ret (pv 3)))))), ?_⟩)
  · obtain ⟨p, g, rfl, _⟩ := h
    rfl
  · obtain ⟨p, g, rfl, hP, tm, hw, q⟩ := h
    have D0 := tm.fine.D0
    have D1 := tm.D1
    have nr := tm.near
    have hlen := tm.len
    have cb : (Pg.colA g.D 1 0 (Pg.sumMin g.cs)).natAbs ≤ 200000000 ∧ (Pg.colZ g.D 1 0 (Pg.sumMax g.cs)).natAbs ≤ 200000000 := col_bd tm (k := 1) (by decide) false
    refine ⟨_, rfl, p, g, 1, 0, rfl, hP, D0, lim_of (by omega), tm.pos, by omega, by decide, fun H1 t s1 nt ht => ?_⟩
    have hS : SqT K H1 t [.int (Pg.colA g.D 1 0 (Pg.sumMin g.cs)), .int (Pg.colZ g.D 1 0 (Pg.sumMax g.cs))] := .inl (.inl ht)
    refine ⟨_, rfl, _, rfl, p, t, g, 1, _, _, 0, rfl, hP.mono s1, nr, hS, D0, by omega, by decide, by omega, by omega, fun H2 b l1 l2 v1 v2 s2 hb hl1 hl2 r1 r2 => ?_⟩
    have sg := Pg.str_good tm.fine (k := 1) (st := false) (by simp) (M := 1200000) fun c hc => by have := (tm.bd c hc).1; omega
    obtain ⟨len1, len2, all⟩ := Pg.reach_ok tm.fine (k := 1) (st := false) (by simp)
    have wb := wide_bd tm (k := 1) (by decide) false
    have good : ∀ s ∈ Pg.lst g.D 1 0 (Pg.colZ g.D 1 0 (Pg.sumMax g.cs)) (Pg.chain g.cs) (Pg.colA g.D 1 0 (Pg.sumMin g.cs)) ++ Pg.lst g.D 1 0 (Pg.colZ g.D 1 0 (Pg.sumMax g.cs)) (Pg.chain (g.cs.map Pg.nY)) (Pg.colA g.D 1 0 (Pg.sumMin g.cs)),
        0 < s.low ∧ s.low.natAbs < lim ∧ s.w ≤ 1000000000 ∧ 0 ≤ s.w := fun s hs => by
      have gs := sg s hs
      have w1 : s.w ≤ 1000000000 := Int.le_trans gs.2.2.1 wb
      exact ⟨gs.1, lim_of (by have := gs.2.1; have := gs.1; omega), w1, gs.2.2.2⟩
    have len1 : (Pg.rAll (Pg.lst g.D 1 0 (Pg.colZ g.D 1 0 (Pg.sumMax g.cs)) (Pg.chain g.cs) (Pg.colA g.D 1 0 (Pg.sumMin g.cs)))).length = (Pg.wide g 1 false).toNat := len1
    have len2 : (Pg.rAll (Pg.lst g.D 1 0 (Pg.colZ g.D 1 0 (Pg.sumMax g.cs)) (Pg.chain (g.cs.map Pg.nY)) (Pg.colA g.D 1 0 (Pg.sumMin g.cs)))).length = (Pg.wide g 1 false).toNat := len2
    have all : ∀ i : Nat, i < (Pg.wide g 1 false).toNat → ∃ rb ra, (Pg.rAll (Pg.lst g.D 1 0 (Pg.colZ g.D 1 0 (Pg.sumMax g.cs)) (Pg.chain g.cs) (Pg.colA g.D 1 0 (Pg.sumMin g.cs))))[i]? = some rb ∧ (Pg.rAll (Pg.lst g.D 1 0 (Pg.colZ g.D 1 0 (Pg.sumMax g.cs)) (Pg.chain (g.cs.map Pg.nY)) (Pg.colA g.D 1 0 (Pg.sumMin g.cs))))[i]? = some ra :=
      fun i hi => let ⟨rb, ra, h1, h2, _⟩ := all i hi; ⟨rb, ra, h1, h2⟩
    have q : ∀ H' l vs, Same H H' → H l = none → H' l = some (.lst vs) → Pts K H' vs (Pg.endsN (Pg.colA g.D 1 0 (Pg.sumMin g.cs)) (Pg.rAll (Pg.lst g.D 1 0 (Pg.colZ g.D 1 0 (Pg.sumMax g.cs)) (Pg.chain g.cs) (Pg.colA g.D 1 0 (Pg.sumMin g.cs))))
      (Pg.rAll (Pg.lst g.D 1 0 (Pg.colZ g.D 1 0 (Pg.sumMax g.cs)) (Pg.chain (g.cs.map Pg.nY)) (Pg.colA g.D 1 0 (Pg.sumMin g.cs)))) (Pg.wide g 1 false).toNat) → Q (.ref l) H' := q
    generalize Pg.lst g.D 1 0 (Pg.colZ g.D 1 0 (Pg.sumMax g.cs)) (Pg.chain g.cs) (Pg.colA g.D 1 0 (Pg.sumMin g.cs)) = L1 at *
    generalize Pg.lst g.D 1 0 (Pg.colZ g.D 1 0 (Pg.sumMax g.cs)) (Pg.chain (g.cs.map Pg.nY)) (Pg.colA g.D 1 0 (Pg.sumMin g.cs)) = L2 at *
    generalize Pg.colA g.D 1 0 (Pg.sumMin g.cs) = c0 at *
    generalize hn : (Pg.wide g 1 false).toNat = n at *
    have n5 : n ≤ 50000 := by omega
    refine ⟨(by show 0 ≤ sizeLine; omega), fun e he => ?_⟩
    have s3 : Same H2 (upd H2 e (.lst [])) := same_new he
    refine ⟨_, rfl, b, _, _, _, rfl, rfl, .inl (.inl (s3 _ _ hb)), at0, l1, v1, L1, rfl, s3 _ _ hl1, st_same s3 r1, fun s hs => good s (List.mem_append_left _ hs), by omega, fun H4 pb s4 npb hpb => ?_⟩
    have s34 := s3.trans s4
    refine ⟨_, rfl, b, _, _, _, rfl, rfl, .inl (.inl (s34 _ _ hb)), at1, l2, v2, L2, rfl, s34 _ _ hl2, st_same s34 r2, fun s hs => good s (List.mem_append_right _ hs), by omega, fun H5 pa s5 npa hpa => ?_⟩
    have s35 := s34.trans s5
    have hpb5 := s5 _ _ hpb
    have ht5 := s35 _ _ (s2 _ _ ht)
    have he5 : H5 e = some (.lst []) := s5 _ _ (s4 _ _ upd_same)
    have nmin : n = min ((Pg.rAll L1).map V.int).length ((Pg.rAll L2).map V.int).length := by rw [List.length_map, List.length_map, len1, len2]; omega
    have ne1 : pb ≠ e := fun z => by rw [z, upd_same] at npb; cases npb
    have ne2 : pa ≠ e := fun z => by rw [z, s4 _ _ upd_same] at npa; cases npa
    have ne3 : t ≠ e := fun z => by have := s2 _ _ ht; rw [z, he] at this; cases this
    refine ⟨pb, pa, _, _, rfl, .inl (.inl hpb5), .inl (.inl hpa), for_it (walk_enz nmin)
      (fun i σ H' => ∃ (v u : Option V) (vs : List V), σ = [some (.ref p), some (.ref t), some (.ref b), some (.ref e), v, u] ∧ (∀ a o, a ≠ e → H5 a = some o → H' a = some o) ∧ H' e = some (.lst vs) ∧ Pts K H' vs (Pg.endsN c0 (Pg.rAll L1) (Pg.rAll L2) i))
      ⟨none, none, [], rfl, fun a o _ h => h, he5, .nil⟩ ?_ ?_ ?_⟩
    · rintro i σ H' _ ⟨v, u, vs, rfl, k, _, _⟩
      exact ⟨.inl (.inl (k _ _ ne1 hpb5)), .inl (.inl (k _ _ ne2 hpa))⟩
    · rintro i x σ H' H'' hi ⟨v, u, vs, rfl, k, hv, pt⟩ ⟨T, U, x1, y1, rfl, hU, hT, rfl, e1, e2⟩
      obtain ⟨rb, eb, rfl⟩ := map_get e1
      obtain ⟨ra, ea, rfl⟩ := map_get e2
      have more := Pg.endsN_more c0 (Pg.rAll L1) (Pg.rAll L2) i eb ea
      have sU : Same H' (upd H' U (.tup [.int rb, .int ra])) := same_new hU
      have sT : Same (upd H' U (.tup [.int rb, .int ra])) (upd (upd H' U (.tup [.int rb, .int ra])) T (.tup [.int (i : Nat), .ref U])) := same_new hT
      have sUT := sU.trans sT
      have hUt := sT _ _ (upd_same (H := H') (a := U) (o := .tup [.int rb, .int ra]))
      have hTt := upd_same (H := upd H' U (.tup [.int rb, .int ra])) (a := T) (o := .tup [.int (i : Nat), .ref U])
      generalize upd (upd H' U (.tup [.int rb, .int ra])) T (.tup [.int (i : Nat), .ref U]) = H6 at sUT hUt hTt ⊢
      have hv6 := sUT _ _ hv
      have pt6 := pt.mono sUT
      have ht6 : SqT K H6 t _ := .inl (.inl (sUT _ _ (k _ _ ne3 ht5)))
      have hU6 : SqT K H6 U [.int rb, .int ra] := .inl (.inl hUt)
      have k6 : ∀ a o, a ≠ e → H5 a = some o → H6 a = some o := fun a o n h => sUT _ _ (k a o n h)
      have lv : vs.length ≤ 2 * i := by rw [pt.length]; exact Pg.endsN_len _ _ _ i
      have lv2 : vs.length + 1 < sizeLine := Nat.lt_of_le_of_lt (show vs.length + 1 ≤ 100002 by omega) (by decide)
      refine ⟨T, _, rfl, .inl (.inl hTt), rfl, _, _, rfl, _, _, rfl, rfl, ?_⟩
      refine ⟨_, rfl, U, _, _, _, rfl, rfl, hU6, at0, _, rfl, _, rfl, U, _, _, _, rfl, rfl, hU6, at1, _, _, rfl, rfl, _, rfl, ?_⟩
      by_cases hc : -rb ≤ ra
      · refine if_true_of (decide_eq_true hc) ?_
        rw [if_pos hc] at more
        refine ce_app rfl hv6 (by omega) (x := c0 + (i : Nat)) (y := -rb) (fun Q h => ⟨_, rfl, t, _, _, _, rfl, rfl, ht6, at0, _, rfl, _, _, rfl, rfl, h⟩) (fun Q h => ⟨_, rfl, U, _, _, _, rfl, rfl, hU6, at0, _, rfl, h⟩) fun q1 hq1 => ?_
        have s7 : Same H6 (upd H6 q1 (.tup [.int (c0 + (i : Nat)), .int (-rb)])) := same_new hq1
        have hv7 := s7 _ _ hv6
        have hq7 := upd_same (H := H6) (a := q1) (o := .tup [.int (c0 + (i : Nat)), .int (-rb)])
        generalize upd H6 q1 (.tup [.int (c0 + (i : Nat)), .int (-rb)]) = H7 at s7 hv7 hq7 ⊢
        have pt8 : Pts K (upd H7 e (.lst (vs ++ [.ref q1]))) (vs ++ [.ref q1]) (Pg.endsN c0 (Pg.rAll L1) (Pg.rAll L2) i ++ [(c0 + (i : Nat), -rb)]) :=
          ((pt6.mono s7).upd hv7).snoc (P2.upd hv7 ⟨q1, rfl, .inl (.inl hq7)⟩)
        have k8 : ∀ a o, a ≠ e → H6 a = some o → (upd H7 e (.lst (vs ++ [.ref q1]))) a = some o := fun a o n h => by rw [upd_ne n]; exact s7 _ _ h
        have hv8 := upd_same (H := H7) (a := e) (o := .lst (vs ++ [.ref q1]))
        have neU : U ≠ e := fun z => by rw [z, hv] at hU; cases hU
        have hU8 : SqT K (upd H7 e (.lst (vs ++ [.ref q1]))) U [.int rb, .int ra] := .inl (.inl (k8 _ _ neU hUt))
        have ht8 : SqT K (upd H7 e (.lst (vs ++ [.ref q1]))) t _ := .inl (.inl (k8 _ _ ne3 (sUT _ _ (k _ _ ne3 ht5))))
        generalize upd H7 e (.lst (vs ++ [.ref q1])) = H8 at pt8 k8 hv8 hU8 ht8 ⊢
        refine ce_app rfl hv8 (by rw [List.length_append]; exact lv2) (x := c0 + (i : Nat)) (y := ra) (fun Q h => ⟨_, rfl, t, _, _, _, rfl, rfl, ht8, at0, _, rfl, _, _, rfl, rfl, h⟩) (fun Q h => ⟨_, rfl, U, _, _, _, rfl, rfl, hU8, at1, h⟩) fun q2 hq2 => ?_
        have s9 : Same H8 (upd H8 q2 (.tup [.int (c0 + (i : Nat)), .int ra])) := same_new hq2
        have hv9 := s9 _ _ hv8
        have hq9 := upd_same (H := H8) (a := q2) (o := .tup [.int (c0 + (i : Nat)), .int ra])
        generalize upd H8 q2 (.tup [.int (c0 + (i : Nat)), .int ra]) = H9 at s9 hv9 hq9 ⊢
        refine ⟨_, _, _, rfl, fun a o n h => ?_, upd_same, ?_⟩
        · rw [upd_ne n]
          exact s9 _ _ (k8 a o n (k6 a o n h))
        · rw [more, show [((c0 + (i : Nat), -rb) : Pt), (c0 + (i : Nat), ra)] = [(c0 + (i : Nat), -rb)] ++ [(c0 + (i : Nat), ra)] from rfl, ← List.append_assoc]
          exact ((pt8.mono s9).upd hv9).snoc (P2.upd hv9 ⟨q2, rfl, .inl (.inl hq9)⟩)
      · refine if_false_of (decide_eq_false hc) ?_
        rw [if_neg hc, List.append_nil] at more
        exact ⟨_, _, vs, rfl, k6, hv6, by rw [more]; exact pt6⟩
    · rintro σ H' ⟨v, u, vs, rfl, k, hv, pt⟩
      refine ⟨_, rfl, q H' e vs (fun a o h => ?_) ((s1.trans s2).free he) hv pt⟩
      have h2 := (s1.trans s2) a o h
      refine k a o (fun z => by rw [z, he] at h2; cases h2) (s35 _ _ h2)
end
end Pw
end

section
namespace Pw
open PySem PySem.Spec PyProof.Rows L2
open Pg (Pt Tri)
abbrev sBh : Stmt := top 61
abbrev sPr : Stmt := top 62
abbrev sDinit : Stmt := inClass (top 63) 0
abbrev sKeep : Stmt := inClass (top 63) 1
abbrev sBegin : Stmt := inClass (top 63) 2
abbrev sSteps : Stmt := inClass (top 63) 3
abbrev sCut : Stmt := inClass (top 63) 4
abbrev sShift : Stmt := inClass (top 63) 5
abbrev sUndo : Stmt := inClass (top 63) 6
abbrev sTell : Stmt := inClass (top 63) 7
section
variable {P : Program} {w : World} {K : PySem.W.Frag} {mg : Str → Option Value} {base : Heap} {CP : Addr}
/-! ### both_have -/
def spBh (K : PySem.W.Frag) : Sp := fun vs H Q _ => ∃ (a b : Addr) (xs ys : List V) (c : Int), vs = [.ref a, .ref b, .int c] ∧ SqL K H a xs ∧ SqL K H b ys ∧
  Q (.bl (decide ((xs.length : Int) = c ∧ (ys.length : Int) = c))) H
theorem scBh : FnScope ["plus", "minus", "count"] ["plus", "minus", "count"] (defScope sBh) := ⟨rfl, rfl, rfl, by decide +kernel, rfl, by decide +kernel, by decide +kernel⟩
theorem ok_bh (G : Own mg) {f : Addr} {fd : FuncData} (F : Fun K "both_have" "both_have" sBh f fd) : FnOk P w K mg base CX0 1 f fd ["plus", "minus", "count"] (spBh K) := by
  refine F.ok scBh (fun vs H Q E h => ?_) (fun cdv A outer s H vs Q E hr h => ⟨_,
    pss_one (ps_ret (pe_and (pe_cmpR op_eq (pe_callB call_len_seq (by rfl) G.len PySem.boot_len (pa_cons (pv 0) pa_nil)) (pv 2) (nomark _))
      (pe_one (pe_cmpR op_eq (pe_callB call_len_seq (by rfl) G.len PySem.boot_len (pa_cons (pv 1) pa_nil)) (pv 2) (nomark _))))), ?_⟩)
  · obtain ⟨a, b, xs, ys, c, rfl, _⟩ := h
    rfl
  · obtain ⟨a, b, xs, ys, c, rfl, hA, hB, q⟩ := h
    refine ⟨_, rfl, a, xs, rfl, .inl hA, _, rfl, rfl, _, rfl, ?_⟩
    by_cases h1 : (xs.length : Int) = c
    · refine if_true_of (by simp [h1]) ?_
      refine ⟨_, rfl, b, ys, rfl, .inl hB, _, rfl, rfl, ?_⟩
      have : decide (V.int (ys.length : Int) = V.int c) = decide ((xs.length : Int) = c ∧ (ys.length : Int) = c) := by
        by_cases h2 : (ys.length : Int) = c <;> simp [h1, h2]
      rw [this]
      exact q
    · refine if_false_of (by simp [h1]) ?_
      have : decide ((xs.length : Int) = c ∧ (ys.length : Int) = c) = false := by simp [h1]
      rw [this] at q
      exact q

/-! ### pairs -/
def prs : List Int → List Pt
  | x :: y :: l => (x, y) :: prs l
  | _ => []
theorem prs_spec : ∀ (l : List Int), l.length % 2 = 0 → Sq68.pairs l = some (prs l)
  | [], _ => rfl
  | [x], h => by simp at h
  | x :: y :: l, h => by
    have := prs_spec l (by simp at h; omega)
    show (Sq68.pairs l).map (fun m => (x, y) :: m) = some ((x, y) :: prs l)
    rw [this]
    rfl
theorem prs_odd : ∀ (l : List Int), l.length % 2 = 1 → Sq68.pairs l = none
  | [], h => by simp at h
  | [x], h => rfl
  | x :: y :: l, h => by
    have := prs_odd l (by simp at h; omega)
    show (Sq68.pairs l).map (fun m => (x, y) :: m) = none
    rw [this]
    rfl
theorem prs_len : ∀ (l : List Int), (prs l).length = l.length / 2
  | [] => rfl
  | [x] => by simp [prs]
  | x :: y :: l => by
    show (prs l).length + 1 = _
    rw [prs_len l]
    simp only [List.length_cons]
    omega
theorem prs_get : ∀ (l : List Int) (i : Nat) (p : Pt), (prs l)[i]? = some p → l[2 * i]? = some p.1 ∧ l[2 * i + 1]? = some p.2
  | [], i, p, h => by simp [prs] at h
  | [x], i, p, h => by simp [prs] at h
  | x :: y :: l, 0, p, h => by
    have e : (x, y) = p := by simpa [prs] using h
    subst e
    exact ⟨rfl, rfl⟩
  | x :: y :: l, i + 1, p, h => by
    have := prs_get l i p (by simpa [prs] using h)
    have e1 : 2 * (i + 1) = 2 * i + 1 + 1 := by omega
    rw [e1]
    simpa using this
def spPr (K : PySem.W.Frag) : Sp := fun vs H Q _ => ∃ (a : Addr) (ns : List Int), vs = [.ref a] ∧ SqL K H a (ns.map V.int) ∧ ns.length % 2 = 0 ∧ ns.length ≤ 10000 ∧
  ∀ H' p vs, Same H H' → H p = none → H' p = some (.lst vs) → Pts K H' vs (prs ns) → Q (.ref p) H'
theorem scPr : FnScope ["numbers", "k"] ["numbers"] (defScope sPr) := ⟨rfl, rfl, rfl, by decide +kernel, rfl, by decide +kernel, by decide +kernel⟩
theorem size_two (n : Nat) : Builtin.Range.rangeSize 0 (n : Int) 2 = if 0 < (n : Int) then ((n : Int) - 0 - 1) / 2 + 1 else 0 := by
  unfold Builtin.Range.rangeSize
  rw [if_pos (by decide)]
theorem fits_small {x : Int} (h0 : 0 ≤ x) (h1 : x ≤ 200000) : Builtin.Range.rangeFitsLong x = true := by
  unfold Builtin.Range.rangeFitsLong
  rw [Bool.and_eq_true]
  exact ⟨decide_eq_true (by omega), decide_eq_true (by omega)⟩
theorem small_two {n : Nat} (h : n ≤ 100000) : Builtin.Range.small 0 (n : Int) 2 = true := by
  have hs : 0 ≤ Builtin.Range.rangeSize 0 (n : Int) 2 ∧ Builtin.Range.rangeSize 0 (n : Int) 2 ≤ 200000 := by
    rw [size_two]
    split <;> omega
  unfold Builtin.Range.small
  rw [fits_small (by omega) (by omega), fits_small (x := (n : Int)) (by omega) (by omega), fits_small (x := (2 : Int)) (by omega) (by omega), fits_small hs.1 hs.2,
    if_pos (by decide), fits_small (x := (n : Int) + (2 - 1)) (by omega) (by omega)]
  simp
theorem ok_pr (G : Own mg) {f : Addr} {fd : FuncData} (F : Fun K "pairs" "pairs" sPr f fd) : FnOk P w K mg base CX0 1 f fd ["numbers"] (spPr K) := by
  refine F.ok scPr (fun vs H Q E h => ?_) (fun cdv A outer s H vs Q E hr h => ⟨_,
    pss_one (ps_ret (pe_lc (own := [("k", 1)]) (g := gName 1) (tt := tYes) (te := tTup (tCons (tOp (rIxL K) (tVar 0) (tVar 1)) (tCons (tOp (rIxL K) (tVar 0) (tOp (rI0 fun i j => .int (i + j)) (tVar 1) (tC (.int 1)))) tNil))) rfl scPr.nd
      (pi_range3 (by rfl) G.range (pa_cons pe_int (pa_cons (pe_callB call_len_seq (by rfl) G.len PySem.boot_len (pa_cons (pv 0) pa_nil)) (pa_cons pe_int pa_nil))))
      (blkOk_by (N := ["numbers", "k"]) (sc := defScope sPr) (by decide +kernel)) (fun _ _ _ _ _ => pg_name (i := 1) scPr.nd rfl (Or.inl rfl)) (fun _ _ _ _ _ => pts_nil)
      (fun _ _ _ _ _ => pe_tup (pa_cons (pe_ix ix_list (pv 0) (pv 1) (fun _ _ => rfl)) (pa_cons (pe_ix ix_list (pv 0) (pe_op op_add (pv 1) pe_int) (fun _ _ => rfl)) pa_nil))))), ?_⟩)
  · obtain ⟨a, ns, rfl, _⟩ := h
    rfl
  · obtain ⟨a, ns, rfl, hA, hev, hl, q⟩ := h
    refine ⟨_, rfl, a, _, rfl, .inl hA, 0, _, 2, ns.length / 2, rfl, ⟨by decide, by decide, ?_, ?_⟩, fun D hD => ?_⟩
    · rw [List.length_map]
      exact small_two (by omega)
    · show (if (2 : Int) > 0 then (if (0 : Int) < ((ns.map V.int).length : Int) then (((ns.map V.int).length : Int) - 0 - 1) / 2 + 1 else 0) else _) = _
      rw [if_pos (by decide), List.length_map]
      split <;> omega
    · refine lc_all (walk_rangeC (lo := 0) (c := 2) (n := ns.length / 2)) (fun i H' => Same H H' ∧ ∃ vs, H' D = some (.lst vs) ∧ Pts K H' vs ((prs ns).take i))
        ⟨same_new hD, [], upd_same, .nil⟩ (fun _ _ _ _ => trivial) ?_ ?_
      · rintro i x H2 H3 hi ⟨s2, vs, hv, hpv⟩ ⟨rfl, rfl⟩
        have hi2 : i < (prs ns).length := by rw [prs_len]; exact hi
        have hg : (prs ns)[i]? = some ((prs ns)[i]) := by simp [hi2]
        generalize (prs ns)[i] = pt at hg
        obtain ⟨g1, g2⟩ := prs_get ns i pt hg
        have e0 : (0 : Int) + (i : Int) * 2 = ((2 * i : Nat) : Int) := by omega
        have e1 : ((2 * i : Nat) : Int) + 1 = ((2 * i + 1 : Nat) : Int) := by omega
        have hA' : SqL K H3 a (ns.map V.int) := s2.seq hA
        dsimp only
        rw [e0]
        refine ⟨rfl, _, rfl, _, rfl, a, _, _, _, rfl, rfl, hA', atI_map (atI_nat g1), _, rfl, _, rfl, _, _, rfl, rfl, a, _, _, .int pt.2, rfl, rfl, hA', ?_, (by show 2 ≤ sizeLine; decide), fun r hr' => ?_⟩
        · show atI (ns.map V.int) (((2 * i : Nat) : Int) + 1) = _
          rw [e1]
          exact atI_map (atI_nat g2)
        · have hre : D ≠ r := fun z => by rw [← z, hv] at hr'; cases hr'
          have hv' : (upd H3 r (.tup [.int pt.1, .int pt.2])) D = some (.lst vs) := by rw [upd_ne hre]; exact hv
          refine ⟨vs, hv', ?_, same_mut (s2.trans (same_new hr')) hD, _, upd_same, ?_⟩
          · rw [hpv.length, List.length_take]
            exact Nat.lt_of_le_of_lt (show _ ≤ 10000 by rw [prs_len]; omega) (by decide)
          · rw [List.take_add_one, hg, Option.toList_some]
            exact ((hpv.mono (same_new hr')).upd hv').snoc (P2.upd hv' ⟨r, rfl, .inl (.inl upd_same)⟩)
      · rintro H2 ⟨s2, vs, hv, hpv⟩
        rw [← prs_len, List.take_length] at hpv
        exact q H2 D vs s2 hD hv hpv
end
end Pw
end

section
namespace Pw
open PySem PySem.Spec PyProof.Rows L2
open Pg (Pt Tri)
open Sq71 (House Now Steps Out)
def StepsAt (K : PySem.W.Frag) (H : Hp) (v : V) (s : Steps) : Prop := ∃ t x y, v = .ref t ∧ SqT K H t [x, y] ∧ P2 K H x s.u ∧ P2 K H y s.v
def NowAt (K : PySem.W.Frag) (CP : Addr) (H : Hp) (v : V) (n : Now) : Prop := ∃ t p sv, v = .ref t ∧ SqT K H t [.ref p, sv] ∧ PolyAt K CP H p n.p ∧ StepsAt K H sv n.s
theorem StepsAt.mono {K : PySem.W.Frag} {H H' : Hp} {v : V} {s : Steps} (e : Same H H') (h : StepsAt K H v s) : StepsAt K H' v s := by
  obtain ⟨t, x, y, rfl, h1, h2, h3⟩ := h
  exact ⟨t, x, y, rfl, same_t e h1, h2.mono e, h3.mono e⟩
theorem NowAt.mono {K : PySem.W.Frag} {CP : Addr} {H H' : Hp} {v : V} {n : Now} (e : Same H H') (h : NowAt K CP H v n) : NowAt K CP H' v n := by
  obtain ⟨t, p, sv, rfl, h1, h2, h3⟩ := h
  exact ⟨t, p, sv, rfl, same_t e h1, h2.mono e, h3.mono e⟩
def deskF (p : Addr) (s : V) (k : Addr) : List (Str × V) := [("polygon", .ref p), ("steps", s), ("kept", .ref k)]
/-- the desk: itself, its list of what is kept, and what never changes (F) -/
structure DeskAt (K : PySem.W.Frag) (CP CD : Addr) (H : Hp) (d k : Addr) (h : House) : Prop where
  ex : ∃ (dd : Addr) (F : Hp) (p : Addr) (sv : V) (vs : List V), H d = some (.ins CD dd (deskF p sv k)) ∧ H k = some (.lst vs) ∧ Same F H ∧ F d = none ∧ F k = none ∧
    PolyAt K CP F p h.now.p ∧ StepsAt K F sv h.now.s ∧ Rel2 (NowAt K CP F) vs h.past.reverse
/-- what is there stays there, and but for the desk's own it's the same -/
def Fr (d k : Addr) (H H' : Hp) : Prop := ∀ b o, H b = some o → (∃ o', H' b = some o') ∧ (b ≠ d → b ≠ k → H' b = some o)
theorem fr_same {d k : Addr} {H H' : Hp} (h : Same H H') : Fr d k H H' := fun b o e => ⟨⟨o, h b o e⟩, fun _ _ => h b o e⟩
theorem fr_trans {d k k' : Addr} {H H1 H2 : Hp} (h1 : Fr d k H H1) (hk : k' = k ∨ H k' = none) (h2 : Fr d k' H1 H2) : Fr d k H H2 := fun b o e => by
  obtain ⟨o1, e1⟩ := (h1 b o e).1
  refine ⟨(h2 b o1 e1).1, fun n1 n2 => (h2 b o ((h1 b o e).2 n1 n2)).2 n1 fun z => ?_⟩
  rcases hk with q | q
  · exact n2 (z.trans q)
  · rw [z, q] at e; cases e
theorem Fr.free {d k : Addr} {H H' : Hp} (f : Fr d k H H') {q : Addr} (h : H' q = none) : H q = none := by
  cases e : H q with
  | none => rfl
  | some o =>
    obtain ⟨o', e'⟩ := (f q o e).1
    rw [e'] at h; cases h

section
variable {P : Program} {w : World} {K : PySem.W.Frag} {mg : Str → Option Value} {base : Heap} {CP CD : Addr} {H H' : Hp} {d k : Addr} {h : House}
theorem DeskAt.mono (e : Same H H') (D : DeskAt K CP CD H d k h) : DeskAt K CP CD H' d k h := by
  obtain ⟨dd, F, p, sv, vs, h1, h2, h3, r⟩ := D.ex
  exact ⟨dd, F, p, sv, vs, e _ _ h1, e _ _ h2, h3.trans e, r⟩
theorem DeskAt.d_ne (D : DeskAt K CP CD H d k h) {q : Addr} (hq : H q = none) : q ≠ d ∧ q ≠ k := by
  obtain ⟨dd, F, p, sv, vs, h1, h2, _⟩ := D.ex
  exact ⟨fun e => (by rw [e, h1] at hq; cases hq), fun e => (by rw [e, h2] at hq; cases hq)⟩
/-- the heap without the desk and its list -/
def strip (d k : Addr) (H : Hp) : Hp := fun a => if a = d ∨ a = k then none else H a
theorem strip_same (d k : Addr) (H : Hp) : Same (strip d k H) H := fun a o e => by
  unfold strip at e
  split at e
  · cases e
  · exact e
theorem strip_at {a : Addr} (h1 : a ≠ d) (h2 : a ≠ k) : strip d k H a = H a := by
  unfold strip
  rw [if_neg (fun e => by rcases e with e | e; exact h1 e; exact h2 e)]
theorem strip_d : strip d k H d = none := by unfold strip; rw [if_pos (Or.inl rfl)]
theorem strip_k : strip d k H k = none := by unfold strip; rw [if_pos (Or.inr rfl)]
theorem sub_strip {F : Hp} (e : Same F H) (h1 : F d = none) (h2 : F k = none) : Same F (strip d k H) := fun a o q => by
  rw [strip_at (fun z => by rw [z, h1] at q; cases q) (fun z => by rw [z, h2] at q; cases q)]
  exact e a o q
theorem strip_t {t : Addr} {xs : List V} {C dd : Addr} {fs : List (Str × V)} {vs : List V} (hd : H d = some (.ins C dd fs)) (hk : H k = some (.lst vs)) (h : SqT K H t xs) : SqT K (strip d k H) t xs := by
  rcases h with (h | ⟨o, h⟩) | h
  · refine .inl (.inl ?_)
    rw [strip_at (fun z => by rw [z, hd] at h; cases h) (fun z => by rw [z, hk] at h; cases h)]
    exact h
  · refine .inl (.inr ⟨o, ?_⟩)
    rw [strip_at (fun z => by rw [z, hd] at h; cases h) (fun z => by rw [z, hk] at h; cases h)]
    exact h
  · exact .inr h
theorem strip_pts {C dd : Addr} {fs : List (Str × V)} {ws : List V} (hd : H d = some (.ins C dd fs)) (hk : H k = some (.lst ws)) : ∀ {vs : List V} {ps : List Pt}, Pts K H vs ps → Pts K (strip d k H) vs ps
  | _, _, .nil => .nil
  | _, _, .cons ⟨t, e, q⟩ r => .cons ⟨t, e, strip_t hd hk q⟩ (strip_pts hd hk r)
theorem strip_poly {C dd : Addr} {fs : List (Str × V)} {ws : List V} {q : Addr} {g : Sq71.Polygon} (hd : H d = some (.ins C dd fs)) (hk : H k = some (.lst ws)) (e : Same H H') (n : PolyN K CP H H' q g) :
    PolyAt K CP (strip d k H') q g := by
  obtain ⟨h0, dx, l, vs, h1, h2, h3, h4⟩ := n
  have hd' := e _ _ hd
  have hk' := e _ _ hk
  refine ⟨dx, l, vs, ?_, ?_, strip_pts hd' hk' h3⟩
  · rw [strip_at (fun z => by rw [z, hd] at h0; cases h0) (fun z => by rw [z, hk] at h0; cases h0)]
    exact h1
  · rw [strip_at (fun z => by rw [z, hd] at h4; cases h4) (fun z => by rw [z, hk] at h4; cases h4)]
    exact h2

/-- what the top has written of the class Desk -/
structure TD (K : PySem.W.Frag) (CD : Addr) : Prop where
  cl : Cls K CD
  nP : NoAttr K CD "polygon"
  nS : NoAttr K CD "steps"
  nK : NoAttr K CD "kept"
theorem dF_p (p : Addr) (s : V) (k : Addr) : (deskF p s k).lookup ("polygon" : Str) = some (.ref p) := lk_here
theorem dF_s (p : Addr) (s : V) (k : Addr) : (deskF p s k).lookup ("steps" : Str) = some s := (lk_past (by decide +kernel)).trans lk_here
theorem dF_k (p : Addr) (s : V) (k : Addr) : (deskF p s k).lookup ("kept" : Str) = some (.ref k) := (lk_past (by decide +kernel)).trans ((lk_past (by decide +kernel)).trans lk_here)
theorem dF_none (p : Addr) (s : V) (k : Addr) {m : Str} (h1 : (m == ("polygon" : Str)) = false) (h2 : (m == ("steps" : Str)) = false) (h3 : (m == ("kept" : Str)) = false) : (deskF p s k).lookup m = none :=
  (lk_past h1).trans ((lk_past h2).trans ((lk_past h3).trans rfl))
theorem pF_p (p q : Addr) (s : V) (k : Addr) : putF "polygon" (.ref q) (deskF p s k) = deskF q s k := put_here
theorem pF_s (p : Addr) (s t : V) (k : Addr) : putF "steps" t (deskF p s k) = deskF p t k := (put_past (by decide +kernel)).trans (congrArg _ put_here)
theorem pF_k (p : Addr) (s : V) (k l : Addr) : putF "kept" (.ref l) (deskF p s k) = deskF p s l := (put_past (by decide +kernel)).trans (congrArg _ ((put_past (by decide +kernel)).trans (congrArg _ put_here)))
/-- the program's numbers -/
structure Cst (mg : Str → Option Value) : Prop where
  oob : ∃ t, mg "OUT_OF_BOUNDS" = some (.int (-1) t)
  wl : ∃ t, mg "WRONG_LISTS" = some (.int (-3) t)
  iol : ∃ t, mg "IN_ONE_LINE" = some (.int (-4) t)
  tf : ∃ t, mg "TOO_FINE" = some (.int (-5) t)
  nk : ∃ t, mg "NOTHING_KEPT" = some (.int (-6) t)
  kept : ∃ t, mg "MOST_KEPT" = some (.int 20 t)
  q : ∃ t, mg "MOST_Q" = some (.int 6 t)
  lp : ∃ t, mg "LEAST_PLACES" = some (.int 3 t)
  mp : ∃ t, mg "MOST_PLACES" = some (.int 8 t)
  fp : ∃ t, mg "FARTHEST_PLACE" = some (.int 12 t)
  fst : ∃ t, mg "FARTHEST_STEP" = some (.int 6 t)
  fc : ∃ t, mg "FARTHEST_CUT" = some (.int 20 t)
  fine : ∃ t, mg "FINEST_CUT" = some (.int 1000 t)
  fsh : ∃ t, mg "FARTHEST_SHIFT" = some (.int 20 t)
  fco : ∃ t, mg "FARTHEST_CORNER" = some (.int 100 t)

theorem pe_num {X : Cx} {x : Str} {n : Int} {t : Tok} {pos : Pos} (hg : Gl X x) (hm : X.mg x = some (.int n t)) (hd : (x == ("__debug__" : Str)) = false := by decide) : PE X (.Name x pos) (tC (.int n)) :=
  pe_glob hg hm ⟨t, rfl⟩ hd
/-! ### keep -/
def spKeep (K : PySem.W.Frag) (CP CD : Addr) : Sp := fun vs H Q _ => ∃ (d k : Addr) (h : House), vs = [.ref d] ∧ DeskAt K CP CD H d k h ∧ h.past.length ≤ 20 ∧
  ∀ H' k', DeskAt K CP CD H' d k' (h.to h.now) → H k' = none → Fr d k H H' → Q .non H'
theorem scKeep : FnScope ["self"] ["self"] (defScope sKeep) := ⟨rfl, rfl, rfl, by decide +kernel, rfl, by decide +kernel, by decide +kernel⟩
theorem cut_from (xs : List V) : cutV xs (some (-20)) none = xs.drop (xs.length - 20) := by
  have e : HT.sIx xs.length 0 (some (-20)) = xs.length - 20 := by
    show (if (-20 : Int) < 0 then ((-20 : Int) + (xs.length : Int)).toNat else min (-20 : Int).toNat xs.length) = _
    rw [if_pos (by decide)]
    omega
  show (xs.drop (HT.sIx xs.length 0 (some (-20)))).take (xs.length - HT.sIx xs.length 0 (some (-20))) = _
  rw [e, List.take_of_length_le]
  rw [List.length_drop]
  exact Nat.le_refl _
theorem Rel2.drop {α : Type} {R : V → α → Prop} : ∀ {vs : List V} {xs : List α} (i : Nat), Rel2 R vs xs → Rel2 R (vs.drop i) (xs.drop i)
  | _, _, 0, h => h
  | _, _, _ + 1, .nil => .nil
  | _, _, i + 1, .cons _ r => r.drop i
theorem ok_keep (C : Cst mg) (T : TD K CD) {f : Addr} {fd : FuncData} (F : Fun K "keep" "Desk.keep" sKeep f fd) : FnOk P w K mg base CX0 1 f fd ["self"] (spKeep K CP CD) := by
  obtain ⟨tk, hmk⟩ := C.kept
  refine F.ok scKeep (fun vs H Q E h => ?_) (fun cdv A outer s H vs Q E hr h => ⟨_,
    pss_cons (ps_expr (pe_bm PySem.F.plainAttrs_list PySem.F.slot_list_append PySem.F.type_list_append mt_append (pe_fld (pv 0) rfl) (pa_cons (pe_tup (pa_cons (pe_fld (pv 0) rfl) (pa_cons (pe_fld (pv 0) rfl) pa_nil))) pa_nil)))
    (pss_one (ps_fld (pv 0) (pe_slice sl_list (pe_fld (pv 0) rfl) (po_some (pe_un un_neg (pe_num rfl hmk))) po_none) rfl)), ?_⟩)
  · obtain ⟨d, k, h, rfl, _⟩ := h
    rfl
  · obtain ⟨d, k, h, rfl, D, hlen, q⟩ := h
    obtain ⟨dd, F0, p, sv, vs, hd, hk, sF, nd, nk, hpoly, hst, hrel⟩ := D.ex
    have hdk : d ≠ k := fun e => by rw [e, hk] at hd; cases hd
    have hvs : vs.length ≤ 20 := by rw [hrel.length, List.length_reverse]; exact hlen
    refine ⟨_, rfl, d, CD, dd, _, _, rfl, hd, T.cl, T.nK, dF_k _ _ _, .inl ⟨rfl, _, .inl (.inl hk)⟩,
      _, rfl, d, CD, dd, _, _, rfl, hd, T.cl, T.nP, dF_p _ _ _, _, rfl, d, CD, dd, _, _, rfl, hd, T.cl, T.nS, dF_s _ _ _, (by show 2 ≤ sizeLine; decide), fun t ht => ?_⟩
    have ntd : t ≠ d := fun e => by rw [e, hd] at ht; cases ht
    have ntk : t ≠ k := fun e => by rw [e, hk] at ht; cases ht
    have hk1 : (upd H t (.tup [.ref p, sv])) k = some (.lst vs) := by rw [upd_ne ntk.symm]; exact hk
    refine ⟨k, vs, _, rfl, rfl, hk1, Nat.lt_of_le_of_lt hvs (by decide), ?_⟩
    -- the slice
    have hd2 : (upd (upd H t (.tup [.ref p, sv])) k (.lst (vs ++ [.ref t]))) d = some (.ins CD dd (deskF p sv k)) := by
      rw [upd_ne hdk, upd_ne ntd.symm]; exact hd
    refine ⟨_, rfl, d, CD, dd, _, _, rfl, hd2, T.cl, T.nK, dF_k _ _ _, _, rfl, _, rfl, k, _, rfl, .inl (.inl upd_same), fun k' hk' => ?_⟩
    have nk'd : k' ≠ d := fun e => by rw [e, hd2] at hk'; cases hk'
    have nk'k : k' ≠ k := fun e => by rw [e, upd_same] at hk'; cases hk'
    have nk't : k' ≠ t := fun e => by rw [e, upd_ne ntk, upd_same] at hk'; cases hk'
    have nk'H : H k' = none := by rw [upd_ne nk'k, upd_ne nk't] at hk'; exact hk'
    have hd3 : (upd (upd (upd H t (.tup [.ref p, sv])) k (.lst (vs ++ [.ref t]))) k' (.lst (cutV (vs ++ [.ref t]) (some (-20)) none))) d = some (.ins CD dd (deskF p sv k)) := by
      rw [upd_ne nk'd.symm]; exact hd2
    refine ⟨_, rfl, d, CD, dd, _, rfl, hd3, T.cl, T.nK, (by show 3 < 1000; decide), ?_⟩
    rw [pF_k]
    refine q _ k' ?_ nk'H ?_
    · -- the desk as it is now
      have sF' : Same (upd F0 t (.tup [.ref p, sv])) (upd (upd (upd (upd H t (.tup [.ref p, sv])) k (.lst (vs ++ [.ref t]))) k' (.lst (cutV (vs ++ [.ref t]) (some (-20)) none))) d (.ins CD dd (deskF p sv k'))) := by
        intro b o hb
        by_cases e : b = t
        · subst e
          rw [upd_same] at hb
          rw [upd_ne ntd, upd_ne nk't.symm, upd_ne ntk, upd_same]
          exact hb
        · rw [upd_ne e] at hb
          have hbd : b ≠ d := fun z => by rw [z, nd] at hb; cases hb
          have hbk : b ≠ k := fun z => by rw [z, nk] at hb; cases hb
          have hbk' : b ≠ k' := fun z => by rw [z] at hb; rw [sF _ _ hb] at nk'H; cases nk'H
          rw [upd_ne hbd, upd_ne hbk', upd_ne hbk, upd_ne e]
          exact sF _ _ hb
      have nF : F0 t = none := sF.free ht
      have sE : Same F0 (upd F0 t (.tup [.ref p, sv])) := same_new nF
      refine ⟨dd, upd F0 t (.tup [.ref p, sv]), p, sv, cutV (vs ++ [.ref t]) (some (-20)) none, upd_same, ?_, sF', ?_, ?_, hpoly.mono sE, hst.mono sE, ?_⟩
      · rw [upd_ne nk'd, upd_same]
      · rw [upd_ne ntd.symm]; exact nd
      · rw [upd_ne nk't]
        exact sF.free nk'H
      · rw [cut_from]
        have hr2 : Rel2 (NowAt K CP (upd F0 t (.tup [.ref p, sv]))) (vs ++ [.ref t]) (h.now :: h.past).reverse := by
          rw [List.reverse_cons]
          exact (hrel.mono fun v n q => q.mono sE).snoc ⟨t, p, sv, rfl, .inl (.inl upd_same), hpoly.mono sE, hst.mono sE⟩
        have e : (h.to h.now).past.reverse = (h.now :: h.past).reverse.drop ((vs ++ [V.ref t]).length - 20) := by
          show ((h.now :: h.past).take 20).reverse = _
          rw [List.reverse_take, hr2.length, List.length_reverse]
        rw [e]
        exact hr2.drop _
    · intro b o hb
      have hbt : b ≠ t := fun z => by rw [z, ht] at hb; cases hb
      have hbk' : b ≠ k' := fun z => by rw [z, nk'H] at hb; cases hb
      refine ⟨?_, fun hbd hbk => ?_⟩
      · by_cases e1 : b = d
        · exact ⟨_, by rw [e1]; exact upd_same⟩
        · by_cases e2 : b = k
          · exact ⟨_, by rw [upd_ne e1, upd_ne hbk', e2]; exact upd_same⟩
          · exact ⟨o, by rw [upd_ne e1, upd_ne hbk', upd_ne e2, upd_ne hbt]; exact hb⟩
      · rw [upd_ne hbd, upd_ne hbk', upd_ne hbk, upd_ne hbt]
        exact hb
end
end Pw
end

section
namespace Pw
open PySem PySem.Spec PyProof.Rows L2
open Pg (Pt Tri GoodP)
open Sq71 (House Now Steps Out)
/-- what is known of all that is kept -/
structure GoodS (s : Steps) : Prop where
  b : s.u.1.natAbs ≤ 6 ∧ s.u.2.natAbs ≤ 6 ∧ s.v.1.natAbs ≤ 6 ∧ s.v.2.natAbs ≤ 6
  d : s.det ≠ 0
structure GoodH (h : House) (t : Nat) : Prop where
  all : ∀ n ∈ h.now :: h.past, GoodP n.p t ∧ GoodS n.s
  len : h.past.length ≤ 20
theorem GoodH.now {h : House} {t : Nat} (g : GoodH h t) : GoodP h.now.p t := (g.all _ List.mem_cons_self).1
/-- a call's answer: the desk as it is then, a new list, and all else as it was -/
def Ans (K : PySem.W.Frag) (CP CD : Addr) (H : Hp) (d k : Addr) (r : House × Out) (Q : VK) : Prop :=
  ∀ H' k' q, DeskAt K CP CD H' d k' r.1 → (k' = k ∨ H k' = none) → Fr d k H H' → H q = none → q ≠ k' → H' q = some (.lst ((r.2.value :: r.2.out).map V.int)) → Q (.ref q) H'
abbrev nV (ns : List Nat) : List V := ns.map fun (n : Nat) => V.int (n : Int)
section
variable {P : Program} {w : World} {K : PySem.W.Frag} {mg : Str → Option Value} {base : Heap} {CP CD : Addr} {H H1 H' : Hp} {d k : Addr} {h : House} {Q : VK}
/-- a refusal: all is as it was -/
theorem refuse {c : Int} {r : House × Out} {q : Addr} (D : DeskAt K CP CD H d k h) (s1 : Same H H1) (hq : H1 q = none) (e : r = (h, Sq71.says c)) (a : Ans K CP CD H d k r Q) : Q (.ref q) (upd H1 q (.lst [.int c])) := by
  subst e
  have s2 := s1.trans (same_new (o := .lst [.int c]) hq)
  exact a _ k q (D.mono s2) (.inl rfl) (fr_same s2) (s1.free hq) (D.d_ne (s1.free hq)).2 upd_same
theorem nV_int (ns : List Nat) : nV ns = (ns.map fun (n : Nat) => (n : Int)).map V.int := by
  unfold nV
  rw [List.map_map]
  rfl
theorem subs_given (ns ms : List Nat) (h : ns.length = ms.length) : Sq71.given ns ms = some (subs (ns.map fun (n : Nat) => (n : Int)) (ms.map fun (n : Nat) => (n : Int))) := by
  unfold Sq71.given subs
  rw [if_neg (fun z => z h)]
  congr 1
  rw [List.zip_map, List.map_map]
  rfl
theorem given_none {ns ms : List Nat} (h : ns.length ≠ ms.length) : Sq71.given ns ms = none := by
  unfold Sq71.given
  rw [if_pos h]
theorem beyond_far (l : List Int) (b : Nat) : beyond l (b : Int) = Sq71.far_ b l := by
  unfold beyond Sq71.far_
  congr 1
  funext n
  apply decide_eq_decide.2
  split <;> omega
theorem subs_length (ns ms : List Int) : (subs ns ms).length = min ns.length ms.length := by unfold subs; simp
/-- through a change of the desk alone -/
theorem sqT_thru {t : Addr} {xs : List V} {C dd k' : Addr} {fs : List (Str × V)} {ws : List V} (hd : H1 d = some (.ins C dd fs)) (hk : H1 k = some (.lst ws)) (fr : Fr d k H1 H') (hk' : k' = k ∨ H1 k' = none)
    (q : SqT K H1 t xs) : SqT K (strip d k' H') t xs := by
  rcases q with (q | ⟨o, q⟩) | q
  · have n1 : t ≠ d := fun z => by rw [z, hd] at q; cases q
    have n2 : t ≠ k := fun z => by rw [z, hk] at q; cases q
    have n3 : t ≠ k' := fun z => by
      rcases hk' with e | e
      · exact n2 (z.trans e)
      · rw [← z, q] at e; cases e
    refine .inl (.inl ?_)
    rw [strip_at n1 n3]
    exact (fr _ _ q).2 n1 n2
  · have n1 : t ≠ d := fun z => by rw [z, hd] at q; cases q
    have n2 : t ≠ k := fun z => by rw [z, hk] at q; cases q
    have n3 : t ≠ k' := fun z => by
      rcases hk' with e | e
      · exact n2 (z.trans e)
      · rw [← z, q] at e; cases e
    refine .inl (.inr ⟨o, ?_⟩)
    rw [strip_at n1 n3]
    exact (fr _ _ q).2 n1 n2
  · exact .inr q
theorem pts_thru {C dd k' : Addr} {fs : List (Str × V)} {ws : List V} (hd : H1 d = some (.ins C dd fs)) (hk : H1 k = some (.lst ws)) (fr : Fr d k H1 H') (hk' : k' = k ∨ H1 k' = none) :
    ∀ {vs : List V} {ps : List Pt}, Pts K H1 vs ps → Pts K (strip d k' H') vs ps
  | _, _, .nil => .nil
  | _, _, .cons ⟨t, e, q⟩ r => .cons ⟨t, e, sqT_thru hd hk fr hk' q⟩ (pts_thru hd hk fr hk' r)
theorem poly_thru {q : Addr} {g : Sq71.Polygon} {k' : Addr} (D : DeskAt K CP CD H d k h) (s1 : Same H H1) (n : PolyN K CP H H1 q g) (fr : Fr d k H1 H') (hk' : k' = k ∨ H1 k' = none) : PolyAt K CP (strip d k' H') q g := by
  obtain ⟨dd, F, p, sv, vs, hd, hk, _⟩ := D.ex
  obtain ⟨h0, dx, l, ws, h1, h2, h3, h4⟩ := n
  have nq := D.d_ne h0
  have nl := D.d_ne h4
  have ne : ∀ {a : Addr} {o : HO}, H1 a = some o → a ≠ k → a ≠ k' := fun e n z => by
    rcases hk' with q | q
    · exact n (z.trans q)
    · rw [← z, e] at q; cases q
  refine ⟨dx, l, ws, ?_, ?_, pts_thru (s1 _ _ hd) (s1 _ _ hk) fr hk' h3⟩
  · rw [strip_at nq.1 (ne h1 nq.2)]
    exact (fr _ _ h1).2 nq.1 nq.2
  · rw [strip_at nl.1 (ne h2 nl.2)]
    exact (fr _ _ h2).2 nl.1 nl.2
/-- the desk with another polygon -/
theorem set_poly {q : Addr} {g : Sq71.Polygon} (D : DeskAt K CP CD H d k h) (hq : PolyAt K CP (strip d k H) q g) :
    ∃ dd p sv, H d = some (.ins CD dd (deskF p sv k)) ∧ DeskAt K CP CD (upd H d (.ins CD dd (deskF q sv k))) d k ⟨⟨g, h.now.s⟩, h.past⟩ := by
  obtain ⟨dd, F, p, sv, vs, hd, hk, sF, nd, nk, hpoly, hst, hrel⟩ := D.ex
  have hdk : k ≠ d := fun e => by rw [← e, hk] at hd; cases hd
  have s1 : Same F (strip d k H) := sub_strip sF nd nk
  refine ⟨dd, p, sv, hd, dd, strip d k H, q, sv, vs, upd_same, by rw [upd_ne hdk]; exact hk, ?_, strip_d, strip_k, hq, hst.mono s1, hrel.mono fun v n z => z.mono s1⟩
  intro b o e
  have : b ≠ d := fun z => by rw [z, strip_d] at e; cases e
  rw [upd_ne this]
  exact strip_same _ _ _ _ _ e
/-- the desk with other steps -/
theorem set_steps {sw : V} {s : Steps} (D : DeskAt K CP CD H d k h) (hq : StepsAt K (strip d k H) sw s) :
    ∃ dd p sv, H d = some (.ins CD dd (deskF p sv k)) ∧ DeskAt K CP CD (upd H d (.ins CD dd (deskF p sw k))) d k ⟨⟨h.now.p, s⟩, h.past⟩ := by
  obtain ⟨dd, F, p, sv, vs, hd, hk, sF, nd, nk, hpoly, hst, hrel⟩ := D.ex
  have hdk : k ≠ d := fun e => by rw [← e, hk] at hd; cases hd
  have s1 : Same F (strip d k H) := sub_strip sF nd nk
  refine ⟨dd, p, sv, hd, dd, strip d k H, p, sw, vs, upd_same, by rw [upd_ne hdk]; exact hk, ?_, strip_d, strip_k, hpoly.mono s1, hq, hrel.mono fun v n z => z.mono s1⟩
  intro b o e
  have : b ≠ d := fun z => by rw [z, strip_d] at e; cases e
  rw [upd_ne this]
  exact strip_same _ _ _ _ _ e
theorem fr_d {o : HO} : Fr d k H (upd H d o) := fun b u e => by
  refine ⟨?_, fun n1 _ => by rw [upd_ne n1]; exact e⟩
  by_cases z : b = d
  · exact ⟨o, by rw [z]; exact upd_same⟩
  · exact ⟨u, by rw [upd_ne z]; exact e⟩

theorem good_md {g : Sq71.Polygon} {t : Nat} (hg : GoodP g t) : ∀ q ∈ g.cs, Md q := by
  intro q hq
  have := hg.bd q hq
  have hD := hg.D1
  have h1 : 100 * g.D ≤ 100000 := by omega
  exact ⟨by omega, by omega⟩

/-! ### shift -/
def spShift (K : PySem.W.Frag) (CP CD : Addr) : Sp := fun vs H Q _ => ∃ (d k : Addr) (h : House) (t : Nat) (a b : Addr) (ns ms : List Nat), vs = [.ref d, .ref a, .ref b] ∧ DeskAt K CP CD H d k h ∧ GoodH h t ∧ t ≤ 40 ∧
  SqL K H a (nV ns) ∧ SqL K H b (nV ms) ∧ ns.length ≤ 1024 ∧ Ans K CP CD H d k (h.step (.shift ns ms)) Q
theorem scShift : FnScope ["self", "plus", "minus", "numbers", "polygon"] ["self", "plus", "minus"] (defScope sShift) := ⟨rfl, rfl, rfl, by decide +kernel, rfl, by decide +kernel, by decide +kernel⟩
theorem two_of {l : List Nat} (h : l.length = 2) : ∃ a b, l = [a, b] := by
  match l, h with
  | [a, b], _ => exact ⟨a, b, rfl⟩
theorem shift_no {h : House} {ns ms : List Nat} (hn : ¬ (ns.length = 2 ∧ ms.length = 2)) : h.step (.shift ns ms) = (h, Sq71.says (-3)) := by
  show (match Sq71.given ns ms with
    | some [x, y] => _
    | _ => (h, Sq71.says (-3))) = _
  by_cases e : ns.length = ms.length
  · rw [subs_given ns ms e]
    have hl : (subs (ns.map fun (n : Nat) => (n : Int)) (ms.map fun (n : Nat) => (n : Int))).length ≠ 2 := by
      rw [subs_length, List.length_map, List.length_map]
      omega
    generalize subs (ns.map fun (n : Nat) => (n : Int)) (ms.map fun (n : Nat) => (n : Int)) = l at hl
    match l, hl with
    | [], _ => rfl
    | [_], _ => rfl
    | [_, _], hl => exact absurd rfl hl
    | _ :: _ :: _ :: _, _ => rfl
  · rw [given_none e]
theorem shift_yes (h : House) (a b c e : Nat) : h.step (.shift [a, b] [c, e]) =
    (if Sq71.far_ 20 [(a : Int) - c, (b : Int) - e] = true ∨ ((moved h.now.p ((a : Int) - c) ((b : Int) - e)).cs.any fun c => beyond [c.1, c.2] (100 * (h.now.p.D : Int))) = true then (h, Sq71.says (-1))
      else (h.to ⟨moved h.now.p ((a : Int) - c) ((b : Int) - e), h.now.s⟩, Sq71.says 0)) := by
  have e1 : ((moved h.now.p ((a : Int) - c) ((b : Int) - e)).cs.any fun c => beyond [c.1, c.2] (100 * (h.now.p.D : Int))) =
      (h.now.p.cs.any fun q => decide (100 * h.now.p.D < (q.1 + ((a : Int) - c) * h.now.p.D).natAbs ∨ 100 * h.now.p.D < (q.2 + ((b : Int) - e) * h.now.p.D).natAbs)) := by
    unfold moved
    rw [List.any_map]
    congr 1
    funext q
    show beyond [q.1 + ((a : Int) - c) * h.now.p.D, q.2 + ((b : Int) - e) * h.now.p.D] (100 * (h.now.p.D : Int)) = _
    have : (100 * (h.now.p.D : Int)) = ((100 * h.now.p.D : Nat) : Int) := by omega
    rw [this, beyond_far]
    simp [Sq71.far_]
  rw [e1]
  rfl
end
end Pw
end

section
namespace Pw
open PySem PySem.Spec PyProof.Rows L2
open Pg (Pt Tri GoodP)
open Sq71 (House Now Steps Out)
/-- a method -/
structure Mn (K : PySem.W.Frag) (CD : Addr) (m : Str) (f : Addr) (fd : FuncData) (ps : List Str) : Prop where
  m : Meth K CD m f
  b : Binds K fd ps []
/-- all that the desk's methods call -/
structure Env1 (P : Program) (w : World) (K : PySem.W.Frag) (mg : Str → Option Value) (base : Heap) (CP CD : Addr) : Prop where
  own : Own mg
  cst : Cst mg
  tp : TP K mg CP
  td : TD K CD
  bh : ∃ f fd, Dn K mg "both_have" f fd ["plus", "minus", "count"] ∧ FnOk P w K mg base CX0 1 f fd ["plus", "minus", "count"] (spBh K)
  pr : ∃ f fd, Dn K mg "pairs" f fd ["numbers"] ∧ FnOk P w K mg base CX0 1 f fd ["numbers"] (spPr K)
  df : ∃ f fd, Dn K mg "differences" f fd ["plus", "minus"] ∧ FnOk P w K mg base CX0 1 f fd ["plus", "minus"] (spDf K)
  ab : ∃ f fd, Dn K mg "any_beyond" f fd ["numbers", "bound"] ∧ FnOk P w K mg base CX0 1 f fd ["numbers", "bound"] (spAb K)
  cw : ∃ f fd, Dn K mg "crosswise" f fd ["one", "other"] ∧ FnOk P w K mg base CX0 1 f fd ["one", "other"] (spCw K)
  lt : ∃ f fd, Dn K mg "lowest_terms" f fd ["upper", "lower"] ∧ FnOk P w K mg base CX0 2 f fd ["upper", "lower"] spLt
  pb : ∃ f fd, Dn K mg "polygon_between" f fd ["scale", "places"] ∧ FnOk P w K mg base CX0 5 f fd ["scale", "places"] (spPb K CP)
  pc : ∃ f fd, Dn K mg "polygon_cut" f fd ["polygon", "a", "b", "c"] ∧ FnOk P w K mg base CX0 6 f fd ["polygon", "a", "b", "c"] (spPc K CP)
  pm : ∃ f fd, Dn K mg "polygon_moved" f fd ["polygon", "right", "up"] ∧ FnOk P w K mg base CX0 3 f fd ["polygon", "right", "up"] (spPm K CP)
  rb : ∃ f fd, Dn K mg "reaches_beyond" f fd ["polygon", "bound"] ∧ FnOk P w K mg base CX0 2 f fd ["polygon", "bound"] (spRb K CP)
  keep : ∃ f fd, Mn K CD "keep" f fd ["self"] ∧ FnOk P w K mg base CX0 1 f fd ["self"] (spKeep K CP CD)
section
variable {P : Program} {w : World} {K : PySem.W.Frag} {mg : Str → Option Value} {base : Heap} {CP CD : Addr}
theorem k_no (p : Addr) (s : V) (k : Addr) : (deskF p s k).lookup ("keep" : Str) = none := dF_none p s k (by decide +kernel) (by decide +kernel) (by decide +kernel)
theorem ok_shift (V1 : Env1 P w K mg base CP CD) {f : Addr} {fd : FuncData} (F : Fun K "shift" "Desk.shift" sShift f fd) : FnOk P w K mg base CX0 4 f fd ["self", "plus", "minus"] (spShift K CP CD) := by
  obtain ⟨_, _, nBh, gBh⟩ := V1.bh
  obtain ⟨_, _, nDf, gDf⟩ := V1.df
  obtain ⟨_, _, nAb, gAb⟩ := V1.ab
  obtain ⟨_, _, nPm, gPm⟩ := V1.pm
  obtain ⟨_, _, nRb, gRb⟩ := V1.rb
  obtain ⟨_, _, mK, gK⟩ := V1.keep
  obtain ⟨_, c1⟩ := V1.cst.wl
  obtain ⟨_, c2⟩ := V1.cst.oob
  obtain ⟨_, c3⟩ := V1.cst.fsh
  obtain ⟨_, c4⟩ := V1.cst.fco
  refine F.ok scShift (fun vs H Q E h => ?_) (fun cdv A outer s H vs Q E hr h => ⟨_,
    pss_cons (ps_if (pt_not (pt_val (pe_call gBh (hr.mono (by decide)) rfl nBh.g nBh.kp nBh.b .nil pass0 (pa_cons (pv 1) (pa_cons (pv 2) (pa_cons pe_int pa_nil)))))) (pss_one (ps_ret (pe_lst (pa_cons (pe_num rfl c1) pa_nil)))) pss_nil)
    (pss_cons (ps_set (i := 3) scShift.nd rfl (Or.inl rfl) (pe_call gDf (hr.mono (by decide)) rfl nDf.g nDf.kp nDf.b .nil pass0 (pa_cons (pv 1) (pa_cons (pv 2) pa_nil))))
    (pss_cons (ps_if (pt_val (pe_call gAb (hr.mono (by decide)) rfl nAb.g nAb.kp nAb.b .nil pass0 (pa_cons (pv 3) (pa_cons (pe_num rfl c3) pa_nil)))) (pss_one (ps_ret (pe_lst (pa_cons (pe_num rfl c2) pa_nil)))) pss_nil)
    (pss_cons (ps_set (i := 4) scShift.nd rfl (Or.inl rfl) (pe_call gPm hr rfl nPm.g nPm.kp nPm.b .nil pass0 (pa_cons (pe_fld (pv 0) rfl) (pa_cons (pe_ix ix_list (pv 3) pe_int (fun _ _ => rfl)) (pa_cons (pe_ix ix_list (pv 3) pe_int (fun _ _ => rfl)) pa_nil)))))
    (pss_cons (ps_if (pt_val (pe_call gRb (hr.mono (by decide)) rfl nRb.g nRb.kp nRb.b .nil pass0 (pa_cons (pv 4) (pa_cons (pe_num rfl c4) pa_nil)))) (pss_one (ps_ret (pe_lst (pa_cons (pe_num rfl c2) pa_nil)))) pss_nil)
    (pss_cons (ps_expr (pe_meth0 (pv 0) V1.td.cl mK.m gK (hr.mono (by decide)) mK.b .nil pass0))
    (pss_cons (ps_fld (pv 0) (pv 4) rfl)
    (pss_one (ps_ret (pe_lst (pa_cons pe_int pa_nil)))))))))), ?_⟩)
  · obtain ⟨d, k, h, t, a, b, ns, ms, rfl, _⟩ := h
    rfl
  · obtain ⟨d, k, h, t, a, b, ns, ms, rfl, D, gh, ht, hA, hB, hn, q⟩ := h
    refine ⟨_, rfl, _, rfl, a, b, _, _, 2, rfl, hA, hB, _, rfl, ?_⟩
    have gp := gh.now
    have l1 : ∀ l : List Nat, (nV l).length = l.length := fun l => List.length_map ..
    rw [l1, l1]
    by_cases h2 : ns.length = 2 ∧ ms.length = 2
    · refine if_false_of (by simp; omega) ?_
      obtain ⟨x, y, rfl⟩ := two_of h2.1
      obtain ⟨z, u, rfl⟩ := two_of h2.2
      rw [shift_yes] at q
      refine ⟨_, rfl, _, rfl, a, b, [(x : Int), (y : Int)], [(z : Int), (u : Int)], rfl, hA, hB, (by show 2 ≤ 100000; decide), fun H1 l s1 nl hl => ?_⟩
      have hl' : H1 l = some (.lst [.int ((x : Int) - z), .int ((y : Int) - u)]) := hl
      refine ⟨_, rfl, l, [(x : Int) - z, (y : Int) - u], 20, rfl, .inl (.inl (.inl hl')), (by show 2 ≤ 100000; decide), fun H2 s2 => ?_⟩
      refine ⟨_, rfl, ?_⟩
      have eb : beyond [(x : Int) - z, (y : Int) - u] 20 = Sq71.far_ 20 [(x : Int) - z, (y : Int) - u] := beyond_far _ 20
      rw [eb]
      by_cases hf : Sq71.far_ 20 [(x : Int) - z, (y : Int) - u] = true
      · refine if_true_of hf ?_
        refine ⟨(by show 1 ≤ sizeLine; decide), fun r hr' => ?_⟩
        exact refuse D (s1.trans s2) hr' (if_pos (Or.inl hf)) q
      · refine if_false_of (by simpa using hf) ?_
        have hb : ((x : Int) - z).natAbs ≤ 20 ∧ ((y : Int) - u).natAbs ≤ 20 := by
          have : Sq71.far_ 20 [(x : Int) - z, (y : Int) - u] = false := by simpa using hf
          unfold Sq71.far_ at this
          simp at this
          omega
        have D2 := D.mono (s1.trans s2)
        obtain ⟨dd, F0, p, sv, vs, hd, hk, sF, nd, nk, hpoly, hst, hrel⟩ := D2.ex
        have hl2 : SqL K H2 l [.int ((x : Int) - z), .int ((y : Int) - u)] := .inl (.inl (s2 _ _ hl'))
        refine ⟨_, rfl, d, CD, dd, _, _, rfl, hd, V1.td.cl, V1.td.nP, dF_p _ _ _, _, rfl, l, _, _, _, rfl, rfl, hl2, at0, _, rfl, l, _, _, _, rfl, rfl, hl2, at1,
          p, h.now.p, _, _, rfl, hpoly.mono sF, hb.1, hb.2, (by have := gp.len; omega), fun H3 r s3 hpn => ?_⟩
        refine ⟨_, rfl, r, _, 100, rfl, hpn.at, (by decide), (by unfold moved; rw [List.length_map]; have := gp.len; omega), fun H4 s4 => ?_⟩
        refine ⟨_, rfl, ?_⟩
        have eD : (moved h.now.p ((x : Int) - z) ((y : Int) - u)).D = h.now.p.D := rfl
        rw [eD]
        by_cases hc : ((moved h.now.p ((x : Int) - z) ((y : Int) - u)).cs.any fun c => beyond [c.1, c.2] (100 * (h.now.p.D : Int))) = true
        · refine if_true_of hc ?_
          refine ⟨(by show 1 ≤ sizeLine; decide), fun r' hr' => ?_⟩
          exact refuse D (((s1.trans s2).trans s3).trans s4) hr' (if_pos (Or.inr hc)) q
        · refine if_false_of (by simpa using hc) ?_
          rw [if_neg (by rintro (z | z); exact hf z; exact hc z)] at q
          have D4 := D2.mono (s3.trans s4)
          obtain ⟨dd4, F4, p4, sv4, vs4, hd4, hk4, _⟩ := D4.ex
          refine ⟨_, rfl, d, dd4, _, rfl, hd4, k_no _ _ _, d, k, h, rfl, D4, gh.len, fun H5 k' D5 nk' fr => ?_⟩
          have hq5 : PolyAt K CP (strip d k' H5) r (moved h.now.p ((x : Int) - z) ((y : Int) - u)) := by
            refine poly_thru D2 (H1 := H4) (s3.trans s4) ?_ fr (.inr nk')
            obtain ⟨h0, dx, l', ws, e1, e2, e3, e4⟩ := hpn
            exact ⟨h0, dx, l', ws, s4 _ _ e1, s4 _ _ e2, e3.mono s4, e4⟩
          obtain ⟨dd5, p5, sv5, hd5, D6⟩ := set_poly D5 hq5
          refine ⟨_, rfl, _, rfl, d, CD, dd5, _, rfl, hd5, V1.td.cl, V1.td.nP, (by show 3 < 1000; decide), ?_⟩
          rw [pF_p]
          refine ⟨(by show 1 ≤ sizeLine; decide), fun o ho => ?_⟩
          have sall : Same H H4 := ((s1.trans s2).trans s3).trans s4
          have nkH : H k' = none := sall.free nk'
          have fr5 : Fr d k H H5 := fr_trans (fr_same sall) (.inl rfl) fr
          have fr6 := fr_trans (k' := k') fr5 (.inr nkH) (fr_d (o := .ins CD dd5 (deskF r sv5 k')))
          have hoH := fr6.free ho
          exact q _ k' o (D6.mono (same_new ho)) (.inr nkH) (fr_trans fr6 (.inl rfl) (fr_same (same_new ho))) hoH (D6.d_ne ho).2 upd_same
    · refine if_true_of (by simp; omega) ?_
      refine ⟨(by show 1 ≤ sizeLine; decide), fun r hr' => ?_⟩
      exact refuse D (Same.refl H) hr' (shift_no h2) q
end
end Pw
end

section
namespace Pw
open PySem PySem.Spec PyProof.Rows L2
open Pg (Pt Tri GoodP)
open Sq71 (House Now Steps Out)
section
variable {P : Program} {w : World} {K : PySem.W.Frag} {mg : Str → Option Value} {base : Heap} {CP CD : Addr} {H Hn : Hp} {d k k' : Addr} {h : House} {Q : VK}
/-- a call that answers one number -/
theorem finish {c : Int} {r : House × Out} {o : Addr} (D : DeskAt K CP CD Hn d k' r.1) (hk : k' = k ∨ H k' = none) (fr : Fr d k H Hn) (ho : Hn o = none) (e : r.2 = Sq71.says c) (a : Ans K CP CD H d k r Q) :
    Q (.ref o) (upd Hn o (.lst [.int c])) := by
  refine a _ k' o (D.mono (same_new ho)) hk ?_ (fr.free ho) (D.d_ne ho).2 ?_
  · intro b v q
    obtain ⟨⟨o', e'⟩, g⟩ := fr b v q
    exact ⟨⟨o', same_new ho _ _ e'⟩, fun n1 n2 => same_new ho _ _ (g n1 n2)⟩
  · rw [upd_same, e]
    rfl
/-! ### steps -/
def spSteps (K : PySem.W.Frag) (CP CD : Addr) : Sp := fun vs H Q _ => ∃ (d k : Addr) (h : House) (t : Nat) (a b : Addr) (ns ms : List Nat), vs = [.ref d, .ref a, .ref b] ∧ DeskAt K CP CD H d k h ∧ GoodH h t ∧ t ≤ 40 ∧
  SqL K H a (nV ns) ∧ SqL K H b (nV ms) ∧ ns.length ≤ 1024 ∧ Ans K CP CD H d k (h.step (.steps ns ms)) Q
theorem scSteps : FnScope ["self", "plus", "minus", "numbers", "steps", "determinant"] ["self", "plus", "minus"] (defScope sSteps) := ⟨rfl, rfl, rfl, by decide +kernel, rfl, by decide +kernel, by decide +kernel⟩
theorem four_of {l : List Nat} (h : l.length = 4) : ∃ a b c e, l = [a, b, c, e] := by
  match l, h with
  | [a, b, c, e], _ => exact ⟨a, b, c, e, rfl⟩
theorem steps_no {h : House} {ns ms : List Nat} (hn : ¬ (ns.length = 4 ∧ ms.length = 4)) : h.step (.steps ns ms) = (h, Sq71.says (-3)) := by
  show (match Sq71.given ns ms with
    | some [x, y, z, w] => _
    | _ => (h, Sq71.says (-3))) = _
  by_cases e : ns.length = ms.length
  · rw [subs_given ns ms e]
    have hl : (subs (ns.map fun (n : Nat) => (n : Int)) (ms.map fun (n : Nat) => (n : Int))).length ≠ 4 := by
      rw [subs_length, List.length_map, List.length_map]
      omega
    generalize subs (ns.map fun (n : Nat) => (n : Int)) (ms.map fun (n : Nat) => (n : Int)) = l at hl
    match l, hl with
    | [], _ => rfl
    | [_], _ => rfl
    | [_, _], _ => rfl
    | [_, _, _], _ => rfl
    | [_, _, _, _], hl => exact absurd rfl hl
    | _ :: _ :: _ :: _ :: _ :: _, _ => rfl
  · rw [given_none e]
theorem steps_yes (h : House) (x1 x2 x3 x4 y1 y2 y3 y4 : Nat) : h.step (.steps [x1, x2, x3, x4] [y1, y2, y3, y4]) =
    (if Sq71.far_ 6 [(x1 : Int) - y1, (x2 : Int) - y2, (x3 : Int) - y3, (x4 : Int) - y4] = true then (h, Sq71.says (-1))
      else if ((x1 : Int) - y1) * ((x4 : Int) - y4) - ((x2 : Int) - y2) * ((x3 : Int) - y3) = 0 then (h, Sq71.says (-4))
      else (h.to ⟨h.now.p, ⟨((x1 : Int) - y1, (x2 : Int) - y2), ((x3 : Int) - y3, (x4 : Int) - y4)⟩⟩,
        Sq71.says ((((x1 : Int) - y1) * ((x4 : Int) - y4) - ((x2 : Int) - y2) * ((x3 : Int) - y3)).natAbs : Nat))) := rfl
theorem at4_2 {x y z u : V} : atI [x, y, z, u] (2 : Int) = some z := rfl
theorem at4_3 {x y z u : V} : atI [x, y, z, u] (3 : Int) = some u := rfl
theorem at4_0 {x y z u : V} : atI [x, y, z, u] (0 : Int) = some x := rfl
theorem at4_1 {x y z u : V} : atI [x, y, z, u] (1 : Int) = some y := rfl
theorem abs_nat (z : Int) : (if z < 0 then -z else z) = ((z.natAbs : Nat) : Int) := by split <;> omega
theorem ok_steps (V1 : Env1 P w K mg base CP CD) {f : Addr} {fd : FuncData} (F : Fun K "change_steps" "Desk.change_steps" sSteps f fd) : FnOk P w K mg base CX0 2 f fd ["self", "plus", "minus"] (spSteps K CP CD) := by
  obtain ⟨_, _, nBh, gBh⟩ := V1.bh
  obtain ⟨_, _, nDf, gDf⟩ := V1.df
  obtain ⟨_, _, nAb, gAb⟩ := V1.ab
  obtain ⟨_, _, nCw, gCw⟩ := V1.cw
  obtain ⟨_, _, mK, gK⟩ := V1.keep
  obtain ⟨_, c1⟩ := V1.cst.wl
  obtain ⟨_, c2⟩ := V1.cst.oob
  obtain ⟨_, c3⟩ := V1.cst.fst
  obtain ⟨_, c4⟩ := V1.cst.iol
  refine F.ok scSteps (fun vs H Q E h => ?_) (fun cdv A outer s H vs Q E hr h => ⟨_,
    pss_cons (ps_if (pt_not (pt_val (pe_call gBh hr rfl nBh.g nBh.kp nBh.b .nil pass0 (pa_cons (pv 1) (pa_cons (pv 2) (pa_cons pe_int pa_nil)))))) (pss_one (ps_ret (pe_lst (pa_cons (pe_num rfl c1) pa_nil)))) pss_nil)
    (pss_cons (ps_set (i := 3) scSteps.nd rfl (Or.inl rfl) (pe_call gDf hr rfl nDf.g nDf.kp nDf.b .nil pass0 (pa_cons (pv 1) (pa_cons (pv 2) pa_nil))))
    (pss_cons (ps_if (pt_val (pe_call gAb hr rfl nAb.g nAb.kp nAb.b .nil pass0 (pa_cons (pv 3) (pa_cons (pe_num rfl c3) pa_nil)))) (pss_one (ps_ret (pe_lst (pa_cons (pe_num rfl c2) pa_nil)))) pss_nil)
    (pss_cons (ps_set (i := 4) scSteps.nd rfl (Or.inl rfl) (pe_tup (pa_cons (pe_tup (pa_cons (pe_ix ix_list (pv 3) pe_int (fun _ _ => rfl)) (pa_cons (pe_ix ix_list (pv 3) pe_int (fun _ _ => rfl)) pa_nil)))
      (pa_cons (pe_tup (pa_cons (pe_ix ix_list (pv 3) pe_int (fun _ _ => rfl)) (pa_cons (pe_ix ix_list (pv 3) pe_int (fun _ _ => rfl)) pa_nil))) pa_nil))))
    (pss_cons (ps_set (i := 5) scSteps.nd rfl (Or.inl rfl) (pe_call gCw hr rfl nCw.g nCw.kp nCw.b .nil pass0 (pa_cons (pe_ix ix_tup (pv 4) pe_int (fun _ _ => rfl)) (pa_cons (pe_ix ix_tup (pv 4) pe_int (fun _ _ => rfl)) pa_nil))))
    (pss_cons (ps_if (pt_cmpR op_eq (pv 5) pe_int (nomark _)) (pss_one (ps_ret (pe_lst (pa_cons (pe_num rfl c4) pa_nil)))) pss_nil)
    (pss_cons (ps_expr (pe_meth0 (pv 0) V1.td.cl mK.m gK hr mK.b .nil pass0))
    (pss_cons (ps_fld (pv 0) (pv 4) rfl)
    (pss_one (ps_ret (pe_lst (pa_cons (pe_callB call_abs (by rfl) V1.own.abs boot_abs (pa_cons (pv 5) pa_nil)) pa_nil))))))))))), ?_⟩)
  · obtain ⟨d, k, h, t, a, b, ns, ms, rfl, _⟩ := h
    rfl
  · obtain ⟨d, k, h, t, a, b, ns, ms, rfl, D, gh, ht, hA, hB, hn, q⟩ := h
    refine ⟨_, rfl, _, rfl, a, b, _, _, 4, rfl, hA, hB, _, rfl, ?_⟩
    have l1 : ∀ l : List Nat, (nV l).length = l.length := fun l => List.length_map ..
    rw [l1, l1]
    by_cases h2 : ns.length = 4 ∧ ms.length = 4
    · refine if_false_of (by simp; omega) ?_
      obtain ⟨x1, x2, x3, x4, rfl⟩ := four_of h2.1
      obtain ⟨y1, y2, y3, y4, rfl⟩ := four_of h2.2
      rw [steps_yes] at q
      refine ⟨_, rfl, _, rfl, a, b, [(x1 : Int), (x2 : Int), (x3 : Int), (x4 : Int)], [(y1 : Int), (y2 : Int), (y3 : Int), (y4 : Int)], rfl, hA, hB, (by show 4 ≤ 100000; decide), fun H1 l s1 nl hl => ?_⟩
      generalize ez1 : (x1 : Int) - y1 = z1 at q
      generalize ez2 : (x2 : Int) - y2 = z2 at q
      generalize ez3 : (x3 : Int) - y3 = z3 at q
      generalize ez4 : (x4 : Int) - y4 = z4 at q
      have hl' : H1 l = some (.lst [.int z1, .int z2, .int z3, .int z4]) := by rw [← ez1, ← ez2, ← ez3, ← ez4]; exact hl
      refine ⟨_, rfl, l, [z1, z2, z3, z4], 6, rfl, .inl (.inl (.inl hl')), (by show 4 ≤ 100000; decide), fun H2 s2 => ?_⟩
      refine ⟨_, rfl, ?_⟩
      have eb : beyond [z1, z2, z3, z4] 6 = Sq71.far_ 6 [z1, z2, z3, z4] := beyond_far _ 6
      rw [eb]
      by_cases hf : Sq71.far_ 6 [z1, z2, z3, z4] = true
      · refine if_true_of hf ?_
        refine ⟨(by show 1 ≤ sizeLine; decide), fun r hr' => ?_⟩
        exact refuse D (s1.trans s2) hr' (if_pos hf) q
      · refine if_false_of (by simpa using hf) ?_
        rw [if_neg hf] at q
        have hb : z1.natAbs ≤ 6 ∧ z2.natAbs ≤ 6 ∧ z3.natAbs ≤ 6 ∧ z4.natAbs ≤ 6 := by
          have : Sq71.far_ 6 [z1, z2, z3, z4] = false := by simpa using hf
          unfold Sq71.far_ at this
          simp at this
          omega
        have lm6 : 6 < lim := lim_of (n := 6) (by decide)
        have hl2 : SqL K H2 l [.int z1, .int z2, .int z3, .int z4] := .inl (.inl (s2 _ _ hl'))
        refine ⟨_, rfl, l, _, _, _, rfl, rfl, hl2, at4_0, _, rfl, l, _, _, _, rfl, rfl, hl2, at4_1, (by show 2 ≤ sizeLine; decide), fun t1 ht1 => ?_⟩
        have s4 : Same H2 (upd H2 t1 (.tup [.int z1, .int z2])) := same_new ht1
        refine ⟨_, rfl, l, _, _, _, rfl, rfl, s4.seq hl2, at4_2, _, rfl, l, _, _, _, rfl, rfl, s4.seq hl2, at4_3, (by show 2 ≤ sizeLine; decide), fun t2 ht2 => ?_⟩
        have s5 : Same (upd H2 t1 (.tup [.int z1, .int z2])) (upd (upd H2 t1 (.tup [.int z1, .int z2])) t2 (.tup [.int z3, .int z4])) := same_new ht2
        refine ⟨(by show 2 ≤ sizeLine; decide), fun t3 ht3 => ?_⟩
        have s6 := same_new (o := .tup [.ref t1, .ref t2]) ht3
        have e1 := s6 _ _ (s5 _ _ (upd_same (H := H2) (a := t1) (o := .tup [.int z1, .int z2])))
        have e2 := s6 _ _ (upd_same (H := upd H2 t1 (.tup [.int z1, .int z2])) (a := t2) (o := .tup [.int z3, .int z4]))
        have e3 := upd_same (H := upd (upd H2 t1 (.tup [.int z1, .int z2])) t2 (.tup [.int z3, .int z4])) (a := t3) (o := .tup [.ref t1, .ref t2])
        have sall : Same H2 _ := (s4.trans s5).trans s6
        generalize upd (upd (upd H2 t1 (.tup [.int z1, .int z2])) t2 (.tup [.int z3, .int z4])) t3 (.tup [.ref t1, .ref t2]) = H3 at e1 e2 e3 sall
        refine ⟨_, rfl, t3, _, _, _, rfl, rfl, .inl (.inl e3), at0, _, rfl, t3, _, _, _, rfl, rfl, .inl (.inl e3), at1,
          .ref t1, .ref t2, (z1, z2), (z3, z4), rfl, ⟨t1, rfl, .inl (.inl e1)⟩, ⟨t2, rfl, .inl (.inl e2)⟩, ⟨by show z1.natAbs < lim; omega, by show z2.natAbs < lim; omega⟩, ⟨by show z3.natAbs < lim; omega, by show z4.natAbs < lim; omega⟩, ?_⟩
        refine ⟨_, rfl, rfl, _, rfl, ?_⟩
        have ec : Sq68.cross (z1, z2) (z3, z4) = z1 * z4 - z2 * z3 := rfl
        rw [ec]
        have sH := (s1.trans s2).trans sall
        by_cases h0 : z1 * z4 - z2 * z3 = 0
        · refine if_true_of (by simp [h0]) ?_
          refine ⟨(by show 1 ≤ sizeLine; decide), fun r hr' => ?_⟩
          exact refuse D sH hr' (if_pos h0) q
        · refine if_false_of (by simp [h0]) ?_
          rw [if_neg h0] at q
          have D2 := D.mono sH
          obtain ⟨dd, F0, p, sv, vs, hd, hk, _⟩ := D2.ex
          refine ⟨_, rfl, d, dd, _, rfl, hd, k_no _ _ _, d, k, h, rfl, D2, gh.len, fun H4 k' D4 nk' fr => ?_⟩
          have nkH : H k' = none := sH.free nk'
          have n1 := D.d_ne ((s1.trans s2).free ht1)
          have n2 := D.d_ne (((s1.trans s2).trans s4).free ht2)
          have n3 := D.d_ne ((((s1.trans s2).trans s4).trans s5).free ht3)
          have f1 := (fr _ _ e1).2 n1.1 n1.2
          have f2 := (fr _ _ e2).2 n2.1 n2.2
          have f3 := (fr _ _ e3).2 n3.1 n3.2
          obtain ⟨dd6, _, _, _, _, hd6, hk6, _⟩ := D4.ex
          have hst : StepsAt K (strip d k' H4) (.ref t3) ⟨(z1, z2), (z3, z4)⟩ :=
            ⟨t3, .ref t1, .ref t2, rfl, strip_t hd6 hk6 (.inl (.inl f3)), ⟨t1, rfl, strip_t hd6 hk6 (.inl (.inl f1))⟩, ⟨t2, rfl, strip_t hd6 hk6 (.inl (.inl f2))⟩⟩
          obtain ⟨dd7, p7, sv7, hd7, D7⟩ := set_steps D4 hst
          refine ⟨_, rfl, _, rfl, d, CD, dd7, _, rfl, hd7, V1.td.cl, V1.td.nS, (by show 3 < 1000; decide), ?_⟩
          rw [pF_s]
          refine ⟨_, rfl, _, rfl, (by show 1 ≤ sizeLine; decide), fun o ho => ?_⟩
          rw [abs_nat]
          have fr3 : Fr d k H H4 := fr_trans (fr_same sH) (.inl rfl) fr
          have fr7 := fr_trans (k' := k') fr3 (.inr nkH) (fr_d (o := .ins CD dd7 (deskF p7 (.ref t3) k')))
          exact finish (r := (h.to ⟨h.now.p, ⟨(z1, z2), (z3, z4)⟩⟩, _)) D7 (.inr nkH) fr7 ho rfl q
    · refine if_true_of (by simp; omega) ?_
      refine ⟨(by show 1 ≤ sizeLine; decide), fun r hr' => ?_⟩
      exact refuse D (Same.refl H) hr' (steps_no h2) q
end
end Pw
end

section
namespace Pw
open PySem PySem.Spec PyProof.Rows L2
open Pg (Pt Strt GoodP)
open Sq71 (Steps)
abbrev sShr : Stmt := top 34
abbrev sBc : Stmt := top 35
abbrev sSo : Stmt := top 36
abbrev sPs : Stmt := top 38
abbrev sLed : Stmt := top 39
section
variable {P : Program} {w : World} {K : PySem.W.Frag} {mg : Str → Option Value} {base : Heap} {CP : Addr}
/-! ### shared -/
def spShr (K : PySem.W.Frag) (CP : Addr) : Sp := fun vs H Q _ => ∃ (p : Addr) (g : Sq71.Polygon), vs = [.ref p] ∧ PolyAt K CP H p g ∧ g.D ≤ 1000000 ∧ Q (.int (2 * g.D * g.D : Int)) H
theorem scShr : FnScope ["polygon"] ["polygon"] (defScope sShr) := ⟨rfl, rfl, rfl, by decide +kernel, rfl, by decide +kernel, by decide +kernel⟩
theorem ok_shr (T : TP K mg CP) {f : Addr} {fd : FuncData} (F : Fun K "shared" "shared" sShr f fd) : FnOk P w K mg base CX0 1 f fd ["polygon"] (spShr K CP) := by
  refine F.ok scShr (fun vs H Q E h => ?_) (fun cdv A outer s H vs Q E hr h => ⟨_,
    pss_one (ps_ret (pe_op op_mul (pe_op op_mul pe_int (pe_fld (pv 0) rfl)) (pe_fld (pv 0) rfl))), ?_⟩)
  · obtain ⟨p, g, rfl, _⟩ := h
    rfl
  · obtain ⟨p, g, rfl, ⟨dx, l, cv, hp, hl, hpt⟩, hD, q⟩ := h
    exact ⟨_, rfl, p, CP, dx, _, _, rfl, hp, T.cl, T.nS, polF_scale _ _, _, _, rfl, rfl, cmul_l' (by decide), _, rfl, p, CP, dx, _, _, rfl, hp, T.cl, T.nS, polF_scale _ _, _, _, rfl, rfl, cmul_r (by omega), q⟩
/-! ### b_and_c -/
def spBc (K : PySem.W.Frag) (CP : Addr) : Sp := fun vs H Q _ => ∃ (p : Addr) (g : Sq71.Polygon) (r : Nat), vs = [.ref p, .int (r : Int)] ∧ PolyAt K CP H p g ∧ Tame g ∧ g.D ≤ 36 ∧ r ≤ 36 ∧
  ∀ H' t, Same H H' → H t = none → H' t = some (.tup [.int (Pg.ruleB g r), .int (Pg.ruleC g r)]) → Q (.ref t) H'
theorem scBc : FnScope ["polygon", "rest", "period", "area", "least", "more", "b", "c"] ["polygon", "rest"] (defScope sBc) := ⟨rfl, rfl, rfl, by decide +kernel, rfl, by decide +kernel, by decide +kernel⟩
theorem ok_bc (T : TP K mg CP) {f f1 f2 f3 : Addr} {fd fd1 fd2 fd3 : FuncData} (F : Fun K "b_and_c" "b_and_c" sBc f fd)
    (N1 : Dn K mg "twice_area" f1 fd1 ["polygon"]) (G1 : FnOk P w K mg base CX0 2 f1 fd1 ["polygon"] (spTa K CP))
    (N2 : Dn K mg "points_in" f2 fd2 ["polygon", "size"]) (G2 : FnOk P w K mg base CX0 7 f2 fd2 ["polygon", "size"] (spPin K CP false))
    (N3 : Dn K mg "shared" f3 fd3 ["polygon"]) (G3 : FnOk P w K mg base CX0 1 f3 fd3 ["polygon"] (spShr K CP)) :
    FnOk P w K mg base CX0 8 f fd ["polygon", "rest"] (spBc K CP) := by
  refine F.ok scBc (fun vs H Q E h => ?_) (fun cdv A outer s H vs Q E hr h => ⟨_,
    pss_cons (ps_set (i := 2) scBc.nd rfl (Or.inl rfl) (pe_fld (pv 0) rfl))
    (pss_cons (ps_set (i := 3) scBc.nd rfl (Or.inl rfl) (pe_call G1 (hr.mono (by decide)) rfl N1.g N1.kp N1.b .nil pass0 (pa_cons (pv 0) pa_nil)))
    (pss_cons (ps_set (i := 4) scBc.nd rfl (Or.inl rfl) (pe_call G2 hr rfl N2.g N2.kp N2.b .nil pass0 (pa_cons (pv 0) (pa_cons (pv 1) pa_nil))))
    (pss_cons (ps_set (i := 5) scBc.nd rfl (Or.inl rfl) (pe_op op_sub (pe_call G2 hr rfl N2.g N2.kp N2.b .nil pass0 (pa_cons (pv 0) (pa_cons (pe_op op_add (pv 1) (pv 2)) pa_nil))) (pv 4)))
    (pss_cons (ps_set (i := 6) scBc.nd rfl (Or.inl rfl) (pe_op op_sub (pe_op op_mul (pe_op op_mul pe_int (pv 2)) (pv 5)) (pe_op op_mul (pv 3) (pe_op op_add (pe_op op_mul pe_int (pv 1)) (pv 2)))))
    (pss_cons (ps_set (i := 7) scBc.nd rfl (Or.inl rfl) (pe_op op_sub (pe_op op_sub (pe_op op_mul (pe_call G3 (hr.mono (by decide)) rfl N3.g N3.kp N3.b .nil pass0 (pa_cons (pv 0) pa_nil)) (pv 4)) (pe_op op_mul (pe_op op_mul (pv 3) (pv 1)) (pv 1))) (pe_op op_mul (pv 6) (pv 1))))
    (pss_one (ps_ret (pe_tup (pa_cons (pv 6) (pa_cons (pv 7) pa_nil)))))))))), ?_⟩)
  · obtain ⟨p, g, r, rfl, _⟩ := h
    rfl
  · obtain ⟨p, g, r, rfl, hP, tm, hD, hr36, q⟩ := h
    have hP0 := hP
    obtain ⟨dx, l, cv, hp, hl, hpt⟩ := hP0
    have hlen := tm.len
    refine ⟨_, rfl, p, CP, dx, _, _, rfl, hp, T.cl, T.nS, polF_scale _ _, ?_⟩
    refine ⟨_, rfl, p, g, rfl, hP, tm.near.lm, by omega, fun H1 s1 => ?_⟩
    refine ⟨_, rfl, _, rfl, p, g, r, rfl, hP.mono s1, tm, by omega, by simp, fun H2 s2 => ?_⟩
    refine ⟨_, rfl, _, rfl, _, rfl, _, _, rfl, rfl, p, g, r + g.D, (by rw [Int.natCast_add]; rfl), (hP.mono s1).mono s2, tm, by omega, by simp, fun H3 s3 => ⟨_, rfl, _, _, rfl, rfl, ?_⟩⟩
    refine ⟨_, rfl, _, _, rfl, rfl, cmul_l' (by decide), _, rfl, _, _, rfl, rfl, cmul_l' (by omega), _, rfl, _, rfl, _, _, rfl, rfl, cmul_l' (by decide), _, rfl, _, _, rfl, rfl, _, _, rfl, rfl, cmul_r (by omega), _, _, rfl, rfl, ?_⟩
    have s13 := (s1.trans s2).trans s3
    have sh : (2 * (g.D : Int) * (g.D : Int)).natAbs ≤ 1000000000000000000 := by
      have a1 := mul_bd (x := 2 * (g.D : Int)) (y := (g.D : Int)) (a := 72) (b := 36) (by omega) (by omega)
      omega
    refine ⟨_, rfl, p, g, rfl, hP.mono s13, by omega, _, rfl, _, _, rfl, rfl, cmul_l' sh, _, rfl, _, rfl, _, _, rfl, rfl, cmul_r (by omega), _, rfl, _, _, rfl, rfl, cmul_r (by omega), _, _, rfl, rfl, _, rfl, _, rfl, _, _, rfl, rfl, cmul_r (by omega), _, _, rfl, rfl, ?_⟩
    refine ⟨_, rfl, _, rfl, (by show 2 ≤ sizeLine; decide), fun t ht => ?_⟩
    refine q _ t (s13.trans (same_new ht)) (s13.free ht) ?_
    rw [upd_same]
    have eB : 2 * (g.D : Int) * ((Sq71.count g (r + g.D) false : Nat) - (Sq71.count g r false : Nat) : Int) - Sq68.twice g.cs * (2 * (r : Int) + (g.D : Int)) = Pg.ruleB g r := rfl
    have eC : 2 * (g.D : Int) * (g.D : Int) * (Sq71.count g r false : Nat) - Sq68.twice g.cs * (r : Int) * (r : Int) - Pg.ruleB g r * (r : Int) = Pg.ruleC g r := by
      unfold Pg.ruleC
      rw [Int.mul_assoc 2 (g.D : Int) (g.D : Int), Int.mul_assoc (Sq68.twice g.cs)]
    rw [← eC, ← eB]
/-! ### said_of -/
def spSo (K : PySem.W.Frag) (CP : Addr) : Sp := fun vs H Q _ => ∃ (p : Addr) (g : Sq71.Polygon) (k : Int), vs = [.ref p, .int k] ∧ PolyAt K CP H p g ∧ Tame g ∧ g.D ≤ 36 ∧ k.natAbs ≤ 1000000 ∧
  ∀ H', Same H H' → Q (.int (Sq68.twice g.cs * (k * k) + Pg.ruleB g (k % (g.D : Int)).toNat * k + Pg.ruleC g (k % (g.D : Int)).toNat)) H'
theorem scSo : FnScope ["polygon", "size", "both"] ["polygon", "size"] (defScope sSo) := ⟨rfl, rfl, rfl, by decide +kernel, rfl, by decide +kernel, by decide +kernel⟩
theorem ok_so (T : TP K mg CP) {f f1 f2 : Addr} {fd fd1 fd2 : FuncData} (F : Fun K "said_of" "said_of" sSo f fd)
    (N1 : Dn K mg "twice_area" f1 fd1 ["polygon"]) (G1 : FnOk P w K mg base CX0 2 f1 fd1 ["polygon"] (spTa K CP))
    (N2 : Dn K mg "b_and_c" f2 fd2 ["polygon", "rest"]) (G2 : FnOk P w K mg base CX0 8 f2 fd2 ["polygon", "rest"] (spBc K CP)) :
    FnOk P w K mg base CX0 9 f fd ["polygon", "size"] (spSo K CP) := by
  refine F.ok scSo (fun vs H Q E h => ?_) (fun cdv A outer s H vs Q E hr h => ⟨_,
    pss_cons (ps_set (i := 2) scSo.nd rfl (Or.inl rfl) (pe_call G2 hr rfl N2.g N2.kp N2.b .nil pass0 (pa_cons (pv 0) (pa_cons (pe_op op_mod (pv 1) (pe_fld (pv 0) rfl)) pa_nil))))
    (pss_one (ps_ret (pe_op op_add (pe_op op_add (pe_op op_mul (pe_op op_mul (pe_call G1 (hr.mono (by decide)) rfl N1.g N1.kp N1.b .nil pass0 (pa_cons (pv 0) pa_nil)) (pv 1)) (pv 1)) (pe_op op_mul (pe_ix ix_tup (pv 2) pe_int (fun _ _ => rfl)) (pv 1))) (pe_ix ix_tup (pv 2) pe_int (fun _ _ => rfl))))), ?_⟩)
  · obtain ⟨p, g, k, rfl, _⟩ := h
    rfl
  · obtain ⟨p, g, k, rfl, hP, tm, hD, hk, q⟩ := h
    have hP0 := hP
    obtain ⟨dx, l, cv, hp, hl, hpt⟩ := hP0
    have hlen := tm.len
    have D0 := tm.fine.D0
    have r0 := Int.emod_nonneg k (show (g.D : Int) ≠ 0 by omega)
    have r1 := Int.emod_lt_of_pos k (show (0 : Int) < (g.D : Int) by omega)
    have er : ((k % (g.D : Int)).toNat : Int) = k % (g.D : Int) := by omega
    refine ⟨_, rfl, _, rfl, _, rfl, p, CP, dx, _, _, rfl, hp, T.cl, T.nS, polF_scale _ _, _, _, rfl, rfl, (by show (0 : Int) < (g.D : Int); omega), p, g, (k % (g.D : Int)).toNat, (by rw [er]; rfl), hP, tm, hD, by omega, fun H1 t s1 nt ht => ?_⟩
    refine ⟨_, rfl, p, g, rfl, hP.mono s1, tm.near.lm, by omega, fun H2 s2 => ?_⟩
    have ht2 : SqT K H2 t [.int (Pg.ruleB g (k % (g.D : Int)).toNat), .int (Pg.ruleC g (k % (g.D : Int)).toNat)] := .inl (.inl (s2 _ _ ht))
    refine ⟨_, rfl, _, _, rfl, rfl, cmul_r (by omega), _, rfl, _, _, rfl, rfl, cmul_r (by omega), _, rfl, t, _, _, _, rfl, rfl, ht2, at0, _, rfl, _, _, rfl, rfl, cmul_r (by omega), _, _, rfl, rfl, _, rfl, t, _, _, _, rfl, rfl, ht2, at1, _, _, rfl, rfl, ?_⟩
    have q2 := q H2 (s1.trans s2)
    rw [← Int.mul_assoc] at q2
    exact q2
/-! ### polygon_by_steps -/
def spPs (K : PySem.W.Frag) (CP : Addr) : Sp := fun vs H Q _ => ∃ (p : Addr) (sv : V) (g : Sq71.Polygon) (s : Steps) (t : Nat), vs = [.ref p, sv] ∧ PolyAt K CP H p g ∧ StepsAt K H sv s ∧ GoodP g t ∧ t ≤ 50 ∧ GoodS s ∧
  ∀ H' r, Same H H' → PolyAt K CP H' r (Sq71.told s g) → Q (.ref r) H'
theorem tame_told {g : Sq71.Polygon} {s : Steps} {t : Nat} (hg : GoodP g t) (ht : t ≤ 50) (hs : GoodS s) : Tame (Sq71.told s g) := by
  obtain ⟨b1, b2, b3⟩ := Pg.told_bd hs.d hs.b hg
  exact ⟨Pg.told_fine hs.d hg.D0 hg.cv, (Pg.told_conv hs.d hg.D0 hg.cv).nd, by omega, b1, b2⟩
theorem scPs : FnScope ["polygon", "steps", "determinant", "sign", "places", "corner"] ["polygon", "steps"] (defScope sPs) := ⟨rfl, rfl, rfl, by decide +kernel, rfl, by decide +kernel, by decide +kernel⟩
theorem ok_ps (G : Own mg) (T : TP K mg CP) {f f1 f2 : Addr} {fd fd1 fd2 : FuncData} (F : Fun K "polygon_by_steps" "polygon_by_steps" sPs f fd)
    (N1 : Dn K mg "crosswise" f1 fd1 ["one", "other"]) (G1 : FnOk P w K mg base CX0 1 f1 fd1 ["one", "other"] (spCw K))
    (N2 : Dn K mg "polygon_between" f2 fd2 ["scale", "places"]) (G2 : FnOk P w K mg base CX0 5 f2 fd2 ["scale", "places"] (spPb K CP)) :
    FnOk P w K mg base CX0 6 f fd ["polygon", "steps"] (spPs K CP) := by
  refine F.ok scPs (fun vs H Q E h => ?_) (fun cdv A outer s H vs Q E hr h => ⟨_,
    pss_cons (ps_set (i := 2) scPs.nd rfl (Or.inl rfl) (pe_call G1 (hr.mono (by decide)) rfl N1.g N1.kp N1.b .nil pass0 (pa_cons (pe_ix ix_tup (pv 1) pe_int (fun _ _ => rfl)) (pa_cons (pe_ix ix_tup (pv 1) pe_int (fun _ _ => rfl)) pa_nil))))
    (pss_cons (ps_set (i := 3) scPs.nd rfl (Or.inr rfl) (pe_ifExp (pt_cmpR op_gt (pv 2) pe_int (nomark _)) pe_int (pe_un un_neg pe_int)))
    (pss_cons (ps_setLc (i := 4) (own := [("corner", 5)]) (g := gName 5) (tt := tYes)
        (te := tTup (tCons (tOp (rI CMul fun i j => .int (i * j)) (tVar 3) (tCall (spCw K) [] E0 (tCons (tVar 5) (tCons (tOp (rIxT K) (tVar 1) (tC (.int 1))) tNil))))
          (tCons (tOp (rI CMul fun i j => .int (i * j)) (tVar 3) (tCall (spCw K) [] E0 (tCons (tOp (rIxT K) (tVar 1) (tC (.int 0))) (tCons (tVar 5) tNil)))) tNil)))
        rfl scPs.nd rfl rfl (sw_true rfl rfl rfl (by decide +kernel)) (pi_list (pe_fld (pv 0) rfl))
        (blkOk_by (N := ["polygon", "steps", "determinant", "sign", "places", "corner"]) (sc := defScope sPs) (by decide +kernel))
        (fun _ _ _ _ _ => pg_name (i := 5) scPs.nd rfl (Or.inl rfl)) (fun _ _ _ _ _ => pts_nil)
        (fun _ _ _ _ _ => pe_tup (pa_cons (pe_op op_mul (pv 3) (pe_call G1 (hr.mono (by decide)) rfl N1.g N1.kp N1.b .nil pass0 (pa_cons (pv 5) (pa_cons (pe_ix ix_tup (pv 1) pe_int (fun _ _ => rfl)) pa_nil))))
          (pa_cons (pe_op op_mul (pv 3) (pe_call G1 (hr.mono (by decide)) rfl N1.g N1.kp N1.b .nil pass0 (pa_cons (pe_ix ix_tup (pv 1) pe_int (fun _ _ => rfl)) (pa_cons (pv 5) pa_nil)))) pa_nil))))
    (pss_one (ps_ret (pe_call G2 hr rfl N2.g N2.kp N2.b .nil pass0 (pa_cons (pe_op op_mul (pe_fld (pv 0) rfl) (pe_callB call_abs (by rfl) G.abs boot_abs (pa_cons (pv 2) pa_nil))) (pa_cons (pv 4) pa_nil))))))), ?_⟩)
  · obtain ⟨p, sv, g, s, t, rfl, _⟩ := h
    rfl
  · obtain ⟨p, sv, g, s, t, rfl, hP, ⟨ts, ux, vx, rfl, hts, pu, pv'⟩, hg, ht, hs, q⟩ := h
    have hP0 := hP
    obtain ⟨dx, l, cv, hp, hl, hpt⟩ := hP0
    have b6 := hs.b
    have lmu : Lm s.u := ⟨lim_of (by omega), lim_of (by omega)⟩
    have lmv : Lm s.v := ⟨lim_of (by omega), lim_of (by omega)⟩
    have D1 := hg.D1
    have bd : ∀ c ∈ g.cs, c.1.natAbs ≤ 100000 ∧ c.2.natAbs ≤ 100000 := fun c hc => by
      have := hg.bd c hc
      omega
    have hlen := hg.len
    refine ⟨_, rfl, ts, _, _, _, rfl, rfl, hts, at0, _, rfl, ts, _, _, _, rfl, rfl, hts, at1, ux, vx, s.u, s.v, rfl, pu, pv', lmu, lmv, ?_⟩
    have ed : Sq68.cross s.u s.v = s.det := rfl
    rw [ed]
    refine ⟨_, rfl, _, _, rfl, rfl, _, rfl, ?_⟩
    have hD0 := hg.D0
    have ha : 0 < s.det.natAbs := by have := hs.d; omega
    have hdet : s.det.natAbs ≤ 72 := by
      have a1 := Pg.abs_mul_le b6.1 b6.2.2.2
      have a2 := Pg.abs_mul_le b6.2.1 b6.2.2.1
      show (s.u.1 * s.v.2 - s.u.2 * s.v.1).natAbs ≤ 72
      omega
    have dD : g.D * s.det.natAbs ≤ 72000 := Nat.mul_le_mul D1 hdet
    have big3 : 3 ≤ (Pg.around (Sq68.inOrder (g.cs.map (Pg.stp s)))).length := by
      refine Nat.not_lt.1 fun hlt => ?_
      exact Pg.told_area hs.d hg.cv ((Pg.around_flat _).1 hlt)
    have two : (s.det > 0 ∧ Pg.sg s = 1) ∨ (¬ s.det > 0 ∧ Pg.sg s = -1) := by
      unfold Pg.sg
      by_cases h : 0 < s.det
      · exact .inl ⟨h, if_pos h⟩
      · exact .inr ⟨h, if_neg h⟩
    have sgm : ∀ c : Pt, (Pg.stp s c).1 = Pg.sg s * Sq68.cross c s.v ∧ (Pg.stp s c).2 = Pg.sg s * Sq68.cross s.u c := by
      intro c
      unfold Pg.stp Sq68.cross
      constructor
      · rfl
      · show Pg.sg s * (c.2 * s.u.1 - c.1 * s.u.2) = Pg.sg s * (s.u.1 * c.2 - s.u.2 * c.1)
        rw [Int.mul_comm c.2, Int.mul_comm c.1]
    have te := Pg.told_eq hs.d hg.D0 g.cs
    rcases two with ⟨hd, esg⟩ | ⟨hd, esg⟩
    · refine if_true_of (decide_eq_true hd) ?_
      rw [esg] at sgm
      refine ⟨_, rfl, p, CP, dx, _, _, rfl, hp, T.cl, T.nC, polF_corners _ _, l, rfl, ⟨_, .inl (.inl hl)⟩, fun e he => ?_⟩
      refine lc_all (walk_list (xs := cv)) (fun i H' => Same H H' ∧ ∃ vs, H' e = some (.lst vs) ∧ Pts K H' vs ((g.cs.take i).map (Pg.stp s))) ⟨same_new he, [], upd_same, .nil⟩ (fun i H' _ h => .inl (.inl (h.1 _ _ hl))) ?_ ?_
      · rintro i x H1 H2 hi ⟨s1, vs, hv, pvs⟩ ⟨rfl, ex⟩
        obtain ⟨pt, hpp, px⟩ := hpt.get ex
        have bc := bd pt (List.mem_of_getElem? hpp)
        have lmc : Lm pt := ⟨lim_of (by omega), lim_of (by omega)⟩
        have hts2 := same_t s1 hts
        refine ⟨rfl, ?_⟩
        refine ⟨_, rfl, _, rfl, _, rfl, ts, _, _, _, rfl, rfl, hts2, at1, _, _, pt, s.v, rfl, px.mono s1, pv'.mono s1, lmc, lmv, _, _, rfl, rfl, cmul_l' (by decide), ?_⟩
        refine ⟨_, rfl, _, rfl, ts, _, _, _, rfl, rfl, hts2, at0, _, rfl, _, _, s.u, pt, rfl, pu.mono s1, px.mono s1, lmu, lmc, _, _, rfl, rfl, cmul_l' (by decide), (by show 2 ≤ sizeLine; decide), fun r hr' => ?_⟩
        have ne : e ≠ r := fun z => by rw [← z, hv] at hr'; cases hr'
        refine ⟨vs, by rw [upd_ne ne]; exact hv, ?_, same_mut (s1.trans (same_new hr')) he, _, upd_same, ?_⟩
        · rw [pvs.length, List.length_map, List.length_take]
          exact Nat.lt_of_le_of_lt (show min i g.cs.length ≤ 1000 by omega) (by decide)
        · rw [map_more hpp]
          have hv' : (upd H2 r (.tup [.int (1 * Sq68.cross pt s.v), .int (1 * Sq68.cross s.u pt)])) e = some (.lst vs) := by rw [upd_ne ne]; exact hv
          refine ((pvs.mono (same_new hr')).upd hv').snoc (P2.upd hv' ⟨r, rfl, .inl (.inl ?_)⟩)
          rw [upd_same, (sgm pt).1, (sgm pt).2]
      · rintro H1 ⟨s1, vs, hv, pvs⟩
        rw [hpt.length, List.take_length] at pvs
        have hp1 := s1 _ _ hp
        refine ⟨_, rfl, p, CP, dx, _, _, rfl, hp1, T.cl, T.nS, polF_scale _ _, _, rfl, _, rfl, _, _, rfl, rfl, cmul_l' (by omega), _, rfl, g.D * s.det.natAbs, e, vs, g.cs.map (Pg.stp s), ?_, Nat.mul_pos hD0 ha, lim_of (by omega), .inl (.inl (.inl hv)), pvs, ?_, ?_, fun h3 => absurd h3 (by omega), fun _ H' r s2 hr2 => ?_⟩
        · rw [Int.natCast_mul, ← abs_nat]
          rfl
        · intro c hc
          obtain ⟨d, hd', rfl⟩ := List.mem_map.1 hc
          have := Pg.stp_bd b6 (bd d hd')
          exact ⟨small_of (by omega), small_of (by omega)⟩
        · rw [List.length_map]
          omega
        · refine q H' r (s1.trans s2) ?_
          have e2 : Sq71.told s g = Pg.red (g.D * s.det.natAbs) (Sq68.corners (g.cs.map (Pg.stp s))) := te
          rw [e2]
          exact hr2.at
    · refine if_false_of (decide_eq_false hd) ?_
      rw [esg] at sgm
      refine ⟨_, rfl, ?_⟩
      refine ⟨_, rfl, p, CP, dx, _, _, rfl, hp, T.cl, T.nC, polF_corners _ _, l, rfl, ⟨_, .inl (.inl hl)⟩, fun e he => ?_⟩
      refine lc_all (walk_list (xs := cv)) (fun i H' => Same H H' ∧ ∃ vs, H' e = some (.lst vs) ∧ Pts K H' vs ((g.cs.take i).map (Pg.stp s))) ⟨same_new he, [], upd_same, .nil⟩ (fun i H' _ h => .inl (.inl (h.1 _ _ hl))) ?_ ?_
      · rintro i x H1 H2 hi ⟨s1, vs, hv, pvs⟩ ⟨rfl, ex⟩
        obtain ⟨pt, hpp, px⟩ := hpt.get ex
        have bc := bd pt (List.mem_of_getElem? hpp)
        have lmc : Lm pt := ⟨lim_of (by omega), lim_of (by omega)⟩
        have hts2 := same_t s1 hts
        refine ⟨rfl, ?_⟩
        refine ⟨_, rfl, _, rfl, _, rfl, ts, _, _, _, rfl, rfl, hts2, at1, _, _, pt, s.v, rfl, px.mono s1, pv'.mono s1, lmc, lmv, _, _, rfl, rfl, cmul_l' (by decide), ?_⟩
        refine ⟨_, rfl, _, rfl, ts, _, _, _, rfl, rfl, hts2, at0, _, rfl, _, _, s.u, pt, rfl, pu.mono s1, px.mono s1, lmu, lmc, _, _, rfl, rfl, cmul_l' (by decide), (by show 2 ≤ sizeLine; decide), fun r hr' => ?_⟩
        have ne : e ≠ r := fun z => by rw [← z, hv] at hr'; cases hr'
        refine ⟨vs, by rw [upd_ne ne]; exact hv, ?_, same_mut (s1.trans (same_new hr')) he, _, upd_same, ?_⟩
        · rw [pvs.length, List.length_map, List.length_take]
          exact Nat.lt_of_le_of_lt (show min i g.cs.length ≤ 1000 by omega) (by decide)
        · rw [map_more hpp]
          have hv' : (upd H2 r (.tup [.int (-1 * Sq68.cross pt s.v), .int (-1 * Sq68.cross s.u pt)])) e = some (.lst vs) := by rw [upd_ne ne]; exact hv
          refine ((pvs.mono (same_new hr')).upd hv').snoc (P2.upd hv' ⟨r, rfl, .inl (.inl ?_)⟩)
          rw [upd_same, (sgm pt).1, (sgm pt).2]
      · rintro H1 ⟨s1, vs, hv, pvs⟩
        rw [hpt.length, List.take_length] at pvs
        have hp1 := s1 _ _ hp
        refine ⟨_, rfl, p, CP, dx, _, _, rfl, hp1, T.cl, T.nS, polF_scale _ _, _, rfl, _, rfl, _, _, rfl, rfl, cmul_l' (by omega), _, rfl, g.D * s.det.natAbs, e, vs, g.cs.map (Pg.stp s), ?_, Nat.mul_pos hD0 ha, lim_of (by omega), .inl (.inl (.inl hv)), pvs, ?_, ?_, fun h3 => absurd h3 (by omega), fun _ H' r s2 hr2 => ?_⟩
        · rw [Int.natCast_mul, ← abs_nat]
          rfl
        · intro c hc
          obtain ⟨d, hd', rfl⟩ := List.mem_map.1 hc
          have := Pg.stp_bd b6 (bd d hd')
          exact ⟨small_of (by omega), small_of (by omega)⟩
        · rw [List.length_map]
          omega
        · refine q H' r (s1.trans s2) ?_
          have e2 : Sq71.told s g = Pg.red (g.D * s.det.natAbs) (Sq68.corners (g.cs.map (Pg.stp s))) := te
          rw [e2]
          exact hr2.at
/-! ### led_to -/
def ledTo (s : Steps) (c : Pt) : Pt := (c.1 * s.u.1 + c.2 * s.v.1, c.1 * s.u.2 + c.2 * s.v.2)
def spLed (K : PySem.W.Frag) : Sp := fun vs H Q _ => ∃ (sv pl : V) (s : Steps) (c : Pt), vs = [sv, pl] ∧ StepsAt K H sv s ∧ P2 K H pl c ∧ Pg.Six s ∧
  ∀ H' t, Same H H' → H t = none → H' t = some (.tup [.int (ledTo s c).1, .int (ledTo s c).2]) → Q (.ref t) H'
theorem scLed : FnScope ["steps", "place", "x", "y"] ["steps", "place"] (defScope sLed) := ⟨rfl, rfl, rfl, by decide +kernel, rfl, by decide +kernel, by decide +kernel⟩
theorem ok_led {f : Addr} {fd : FuncData} (F : Fun K "led_to" "led_to" sLed f fd) : FnOk P w K mg base CX0 1 f fd ["steps", "place"] (spLed K) := by
  refine F.ok scLed (fun vs H Q E h => ?_) (fun cdv A outer s H vs Q E hr h => ⟨_,
    pss_cons (ps_set (i := 2) scLed.nd rfl (Or.inl rfl) (pe_op op_add (pe_op op_mul (pe_ix ix_tup (pv 1) pe_int (fun _ _ => rfl)) (pe_ix ix_tup (pe_ix ix_tup (pv 0) pe_int (fun _ _ => rfl)) pe_int (fun _ _ => rfl)))
      (pe_op op_mul (pe_ix ix_tup (pv 1) pe_int (fun _ _ => rfl)) (pe_ix ix_tup (pe_ix ix_tup (pv 0) pe_int (fun _ _ => rfl)) pe_int (fun _ _ => rfl)))))
    (pss_cons (ps_set (i := 3) scLed.nd rfl (Or.inl rfl) (pe_op op_add (pe_op op_mul (pe_ix ix_tup (pv 1) pe_int (fun _ _ => rfl)) (pe_ix ix_tup (pe_ix ix_tup (pv 0) pe_int (fun _ _ => rfl)) pe_int (fun _ _ => rfl)))
      (pe_op op_mul (pe_ix ix_tup (pv 1) pe_int (fun _ _ => rfl)) (pe_ix ix_tup (pe_ix ix_tup (pv 0) pe_int (fun _ _ => rfl)) pe_int (fun _ _ => rfl)))))
    (pss_one (ps_ret (pe_tup (pa_cons (pv 2) (pa_cons (pv 3) pa_nil)))))), ?_⟩)
  · obtain ⟨sv, pl, s, c, rfl, _⟩ := h
    rfl
  · obtain ⟨_, _, s, c, rfl, ⟨ts, _, _, rfl, hts, ⟨tu, rfl, hu⟩, ⟨tv, rfl, hv⟩⟩, ⟨tc, rfl, hc⟩, h6, q⟩ := h
    unfold Pg.Six at h6
    refine ⟨_, rfl, tc, _, _, _, rfl, rfl, hc, at0, _, rfl, ts, _, _, _, rfl, rfl, hts, at0, tu, _, _, _, rfl, rfl, hu, at0, _, _, rfl, rfl, cmul_r (by omega),
      _, rfl, tc, _, _, _, rfl, rfl, hc, at1, _, rfl, ts, _, _, _, rfl, rfl, hts, at1, tv, _, _, _, rfl, rfl, hv, at0, _, _, rfl, rfl, cmul_r (by omega), _, _, rfl, rfl, ?_⟩
    refine ⟨_, rfl, tc, _, _, _, rfl, rfl, hc, at0, _, rfl, ts, _, _, _, rfl, rfl, hts, at0, tu, _, _, _, rfl, rfl, hu, at1, _, _, rfl, rfl, cmul_r (by omega),
      _, rfl, tc, _, _, _, rfl, rfl, hc, at1, _, rfl, ts, _, _, _, rfl, rfl, hts, at1, tv, _, _, _, rfl, rfl, hv, at1, _, _, rfl, rfl, cmul_r (by omega), _, _, rfl, rfl, ?_⟩
    refine ⟨_, rfl, _, rfl, (by show 2 ≤ sizeLine; decide), fun t ht => ?_⟩
    exact q _ t (same_new ht) ht upd_same
end
end Pw
end

section
namespace Pw
open PySem PySem.Spec PyProof.Rows L2
open Pg (Pt Tri GoodP)
open Sq71 (House Now Steps Out)
section
variable {P : Program} {w : World} {K : PySem.W.Frag} {mg : Str → Option Value} {base : Heap} {CP CD : Addr}
/-! ### undo -/
def spUndo (K : PySem.W.Frag) (CP CD : Addr) : Sp := fun vs H Q _ => ∃ (d k : Addr) (h : House), vs = [.ref d] ∧ DeskAt K CP CD H d k h ∧ Ans K CP CD H d k (h.step .undo) Q
theorem scUndo : FnScope ["self", "last"] ["self"] (defScope sUndo) := ⟨rfl, rfl, rfl, by decide +kernel, rfl, by decide +kernel, by decide +kernel⟩
theorem Rel2.unsnoc {α : Type} {R : V → α → Prop} {xs : List α} {x : α} : ∀ {vs : List V}, Rel2 R vs (xs ++ [x]) → ∃ us v, vs = us ++ [v] ∧ Rel2 R us xs ∧ R v x := by
  induction xs with
  | nil =>
    intro vs h
    cases h with
    | cons h0 r =>
      cases r
      exact ⟨[], _, rfl, .nil, h0⟩
  | cons y xs ih =>
    intro vs h
    cases h with
    | cons h0 r =>
      obtain ⟨us, v, rfl, h1, h2⟩ := ih r
      exact ⟨_ :: us, v, rfl, .cons h0 h1, h2⟩
theorem ok_undo (V1 : Env1 P w K mg base CP CD) {f : Addr} {fd : FuncData} (F : Fun K "undo" "Desk.undo" sUndo f fd) : FnOk P w K mg base CX0 1 f fd ["self"] (spUndo K CP CD) := by
  obtain ⟨_, c1⟩ := V1.cst.nk
  refine F.ok scUndo (fun vs H Q E h => ?_) (fun cdv A outer s H vs Q E hr h => ⟨_,
    pss_cons (ps_if (pt_cmpR op_eq (pe_callB call_len_seq (by rfl) V1.own.len PySem.boot_len (pa_cons (pe_fld (pv 0) rfl) pa_nil)) pe_int (nomark _)) (pss_one (ps_ret (pe_lst (pa_cons (pe_num rfl c1) pa_nil)))) pss_nil)
    (pss_cons (ps_set (i := 1) scUndo.nd rfl (Or.inl rfl) (pe_ix ix_list (pe_fld (pv 0) rfl) (pe_un un_neg pe_int) (fun _ _ => rfl)))
    (pss_cons (ps_fld (pv 0) (pe_slice sl_list (pe_fld (pv 0) rfl) po_none (po_some (pe_un un_neg pe_int))) rfl)
    (pss_cons (ps_fld (pv 0) (pe_ix ix_tup (pv 1) pe_int (fun _ _ => rfl)) rfl)
    (pss_cons (ps_fld (pv 0) (pe_ix ix_tup (pv 1) pe_int (fun _ _ => rfl)) rfl)
    (pss_one (ps_ret (pe_lst (pa_cons (pe_callB call_len_seq (by rfl) V1.own.len PySem.boot_len (pa_cons (pe_fld (pv 0) rfl) pa_nil)) pa_nil)))))))), ?_⟩)
  · obtain ⟨d, k, h, rfl, _⟩ := h
    rfl
  · obtain ⟨d, k, h, rfl, D, q⟩ := h
    obtain ⟨dd, F0, p, sv, vs, hd, hk, sF, nd, nk, hpoly, hst, hrel⟩ := D.ex
    have hdk : d ≠ k := fun e => by rw [e, hk] at hd; cases hd
    refine ⟨_, rfl, d, CD, dd, _, _, rfl, hd, V1.td.cl, V1.td.nK, dF_k _ _ _, k, vs, rfl, .inl (.inl (.inl hk)), rfl, _, rfl, ?_⟩
    obtain ⟨nw, past⟩ := h
    cases past with
    | nil =>
      have e0 : vs = [] := by
        cases hrel
        rfl
      subst e0
      refine if_true_of (by decide) ?_
      refine ⟨(by show 1 ≤ sizeLine; decide), fun r hr' => ?_⟩
      exact refuse D (Same.refl H) hr' rfl q
    | cons x l =>
      rw [List.reverse_cons] at hrel
      obtain ⟨us, v, rfl, hrel1, t, p', sv', rfl, ht, hp', hs'⟩ := hrel.unsnoc
      refine if_false_of (by simp; omega) ?_
      have q' : Ans K CP CD H d k (⟨x, l⟩, Sq71.says (l.length : Int)) Q := q
      refine ⟨_, rfl, d, CD, dd, _, _, rfl, hd, V1.td.cl, V1.td.nK, dF_k _ _ _, _, rfl, k, _, _, _, rfl, rfl, .inl (.inl hk), atI_last us _, ?_⟩
      refine ⟨_, rfl, d, CD, dd, _, _, rfl, hd, V1.td.cl, V1.td.nK, dF_k _ _ _, _, rfl, _, rfl, k, _, rfl, .inl (.inl hk), fun k' hk' => ?_⟩
      rw [cut_last, List.dropLast_concat]
      have nk'd : k' ≠ d := fun e => by rw [e, hd] at hk'; cases hk'
      have s1 : Same H (upd H k' (.lst us)) := same_new hk'
      refine ⟨_, rfl, d, CD, dd, _, rfl, s1 _ _ hd, V1.td.cl, V1.td.nK, (by show 3 < 1000; decide), ?_⟩
      rw [pF_k]
      have hF1 : ∀ o : HO, Same F0 (upd (upd H k' (.lst us)) d o) := fun o b u e => by
        have n1 : b ≠ d := fun z => by rw [z, nd] at e; cases e
        rw [upd_ne n1]
        exact s1 _ _ (sF _ _ e)
      refine ⟨_, rfl, t, _, _, _, rfl, rfl, same_t (hF1 _) ht, at0, _, rfl, d, CD, dd, _, rfl, upd_same, V1.td.cl, V1.td.nP, (by show 3 < 1000; decide), ?_⟩
      rw [pF_p]
      have up2 : ∀ (G : Hp) (o o' : HO), upd (upd G d o) d o' = upd G d o' := fun G o o' => by
        funext b
        by_cases e : b = d
        · rw [e, upd_same, upd_same]
        · rw [upd_ne e, upd_ne e, upd_ne e]
      rw [up2]
      refine ⟨_, rfl, t, _, _, _, rfl, rfl, same_t (hF1 _) ht, at1, _, rfl, d, CD, dd, _, rfl, upd_same, V1.td.cl, V1.td.nS, (by show 3 < 1000; decide), ?_⟩
      rw [pF_s, up2]
      have hk2 : (upd (upd H k' (.lst us)) d (.ins CD dd (deskF p' sv' k'))) k' = some (.lst us) := by rw [upd_ne nk'd, upd_same]
      refine ⟨_, rfl, d, CD, dd, _, _, rfl, upd_same, V1.td.cl, V1.td.nK, dF_k _ _ _, k', us, rfl, .inl (.inl (.inl hk2)), (by show 1 ≤ sizeLine; decide), fun o ho => ?_⟩
      have el : us.length = l.length := by rw [hrel1.length, List.length_reverse]
      rw [el]
      have DN : DeskAt K CP CD (upd (upd H k' (.lst us)) d (.ins CD dd (deskF p' sv' k'))) d k' ⟨x, l⟩ :=
        ⟨dd, F0, p', sv', us, upd_same, hk2, hF1 _, nd, sF.free hk', hp', hs', hrel1⟩
      have fr : Fr d k H (upd (upd H k' (.lst us)) d (.ins CD dd (deskF p' sv' k'))) := fr_trans (fr_same s1) (.inl rfl) fr_d
      exact finish (r := (⟨x, l⟩, Sq71.says (l.length : Int))) DN (.inr hk') fr ho rfl q'

/-! ### tell_corners -/
def spTell (K : PySem.W.Frag) (CP CD : Addr) : Sp := fun vs H Q _ => ∃ (d k : Addr) (h : House) (t : Nat), vs = [.ref d] ∧ DeskAt K CP CD H d k h ∧ GoodH h t ∧ t ≤ 40 ∧ Ans K CP CD H d k (h.step .corners) Q
theorem scTell : FnScope ["self", "told", "x", "y"] ["self"] (defScope sTell) := ⟨rfl, rfl, rfl, by decide +kernel, rfl, by decide +kernel, by decide +kernel⟩
def fr2 (n : Int) (D : Nat) : List Int := [(Sq71.frac n D).n, ((Sq71.frac n D).d : Int)]
theorem low_frac (n : Int) {D : Nat} (hD : 0 < D) : [V.int (n / (Int.gcd n (D : Int) : Nat)), V.int ((D : Int) / (Int.gcd n (D : Int) : Nat))] = (fr2 n D).map V.int := by
  unfold fr2 Sq71.frac
  have eg : Int.gcd n (D : Int) = Nat.gcd n.natAbs D := by unfold Int.gcd; rw [Int.natAbs_natCast]
  rw [eg]
  split
  · rename_i h
    subst h
    have : Nat.gcd (0 : Int).natAbs D = D := by show Nat.gcd 0 D = D; exact Nat.gcd_zero_left D
    rw [this]
    have e : (D : Int) / (D : Int) = 1 := Int.ediv_self (by omega)
    rw [e]
    simp
  · have : (D : Int) / ((Nat.gcd n.natAbs D : Nat) : Int) = ((D / Nat.gcd n.natAbs D : Nat) : Int) := by rw [Int.natCast_ediv]
    rw [this]
    rfl
def told (g : Sq71.Polygon) (cs : List Pt) : List Int := cs.flatMap fun c => fr2 c.1 g.D ++ fr2 c.2 g.D
theorem corners_out (h : House) : h.step .corners = (h, ⟨(h.now.p.cs.length : Int), told h.now.p h.now.p.cs⟩) := by
  show (h, (⟨(h.now.p.cs.length : Int), Sq71.fracs (h.now.p.places.flatMap fun p => [p.1, p.2])⟩ : Out)) = _
  congr 2
  unfold Sq71.fracs Sq71.Polygon.places told
  rw [List.flatMap_assoc, List.flatMap_map]
  rfl
theorem told_more {g : Sq71.Polygon} {cs : List Pt} {i : Nat} {c : Pt} (h : cs[i]? = some c) : told g (cs.take (i + 1)) = told g (cs.take i) ++ (fr2 c.1 g.D ++ fr2 c.2 g.D) := flat_more h
theorem told_len (g : Sq71.Polygon) (cs : List Pt) : (told g cs).length = 4 * cs.length := by
  induction cs with
  | nil => rfl
  | cons c cs ih =>
    show (fr2 c.1 g.D ++ fr2 c.2 g.D ++ told g cs).length = _
    rw [List.length_append, ih, List.length_cons]
    show 4 + 4 * cs.length = _
    omega
theorem ok_tell (V1 : Env1 P w K mg base CP CD) {f : Addr} {fd : FuncData} (F : Fun K "tell_corners" "Desk.tell_corners" sTell f fd) : FnOk P w K mg base CX0 3 f fd ["self"] (spTell K CP CD) := by
  obtain ⟨_, _, nLt, gLt⟩ := V1.lt
  refine F.ok scTell (fun vs H Q E h => ?_) (fun cdv A outer s H vs Q E hr h => ⟨_,
    pss_cons (ps_set (i := 1) scTell.nd rfl (Or.inl rfl) (pe_lst (pa_cons (pe_callB call_len_seq (by rfl) V1.own.len PySem.boot_len (pa_cons (pe_fld (pe_fld (pv 0) rfl) rfl) pa_nil)) pa_nil)))
    (pss_cons (ps_for PassesOwn.never rfl (pi_list (pe_fld (pe_fld (pv 0) rfl) rfl)) (pg_tup rfl (pgs_cons (pg_name (i := 2) scTell.nd rfl (Or.inl rfl)) (pgs_cons (pg_name (i := 3) scTell.nd rfl (Or.inl rfl)) pgs_nil)))
      (pss_cons (ps_expr (pe_bm PySem.F.plainAttrs_list PySem.F.slot_list_extend PySem.F.type_list_extend mt_extend (pv 1) (pa_cons (pe_call gLt hr rfl nLt.g nLt.kp nLt.b .nil pass0 (pa_cons (pv 2) (pa_cons (pe_fld (pe_fld (pv 0) rfl) rfl) pa_nil))) pa_nil)))
      (pss_one (ps_expr (pe_bm PySem.F.plainAttrs_list PySem.F.slot_list_extend PySem.F.type_list_extend mt_extend (pv 1) (pa_cons (pe_call gLt hr rfl nLt.g nLt.kp nLt.b .nil pass0 (pa_cons (pv 3) (pa_cons (pe_fld (pe_fld (pv 0) rfl) rfl) pa_nil))) pa_nil))))))
    (pss_one (ps_ret (pv 1)))), ?_⟩)
  · obtain ⟨d, k, h, t, rfl, _⟩ := h
    rfl
  · obtain ⟨d, k, h, t, rfl, D, gh, ht, q⟩ := h
    rw [corners_out] at q
    have gp := gh.now
    obtain ⟨dd, F0, p, sv, vs, hd, hk, sF, nd, nk, hpoly, hst, hrel⟩ := D.ex
    obtain ⟨dx, l, cv, hp, hl, hpt⟩ := hpoly.mono sF
    refine ⟨_, rfl, d, CD, dd, _, _, rfl, hd, V1.td.cl, V1.td.nP, dF_p _ _ _, p, CP, dx, _, _, rfl, hp, V1.tp.cl, V1.tp.nC, polF_corners _ _, l, cv, rfl, .inl (.inl (.inl hl)), (by show 1 ≤ sizeLine; decide), fun m hm => ?_⟩
    have s1 := same_new (o := .lst [.int (cv.length : Int)]) hm
    refine ⟨_, rfl, d, CD, dd, _, _, rfl, s1 _ _ hd, V1.td.cl, V1.td.nP, dF_p _ _ _, p, CP, dx, _, _, rfl, s1 _ _ hp, V1.tp.cl, V1.tp.nC, polF_corners _ _, l, rfl, ⟨_, .inl (.inl (s1 _ _ hl))⟩, ?_⟩
    refine for_list (K := K) (a := l) (xs := cv)
      (fun i σ H' => ∃ (u v : Option V), σ = [some (.ref d), some (.ref m), u, v] ∧ Same H H' ∧ H' m = some (.lst (((h.now.p.cs.length : Int) :: told h.now.p (h.now.p.cs.take i)).map V.int)))
      ⟨none, none, rfl, s1, by rw [upd_same, hpt.length]; rfl⟩ (fun i σ H' _ ⟨_, _, _, s2, _⟩ => .inl (.inl (s2 _ _ hl))) ?_ ?_
    · rintro i x σ H' hi ⟨u, v, rfl, s2, hm2⟩
      obtain ⟨c, hc, t1, rfl, ht1⟩ := hpt.get hi
      have hil : i < h.now.p.cs.length := (List.getElem?_eq_some_iff.1 hc).1
      have hlen := gp.len
      have sz : ∀ n, n ≤ 1000 → n ≤ sizeLine := fun n h => Nat.le_trans h (by decide)
      have hD := gp.D0
      have hDl : ((h.now.p.D : Nat) : Int).natAbs < lim := by
        rw [Int.natAbs_natCast]
        have := gp.D1
        have := lim_1792k
        omega
      refine ⟨t1, _, rfl, same_t s2 ht1, rfl, _, _, rfl, _, _, rfl, rfl, ?_⟩
      refine ⟨_, rfl, .inl ⟨rfl, _, .inl (.inl hm2)⟩, _, rfl, _, rfl, d, CD, dd, _, _, rfl, s2 _ _ hd, V1.td.cl, V1.td.nP, dF_p _ _ _, p, CP, dx, _, _, rfl, s2 _ _ hp, V1.tp.cl, V1.tp.nS, polF_scale _ _,
        c.1, h.now.p.D, rfl, (by omega), hDl, fun H3 r1 s3 n3 e3 => ?_⟩
      rw [low_frac c.1 hD] at e3
      have tl := told_len h.now.p (h.now.p.cs.take i)
      rw [List.length_take] at tl
      refine ⟨m, r1, _, _, rfl, rfl, s3 _ _ hm2, e3, sz _ (by rw [List.length_map, List.length_map, List.length_cons, tl]; show _ + 2 ≤ 1000; omega), ?_⟩
      have hmH : H m = none := hm
      have s4 : Same H (upd H3 m (.lst ((((h.now.p.cs.length : Int) :: told h.now.p (h.now.p.cs.take i)).map V.int) ++ (fr2 c.1 h.now.p.D).map V.int))) := same_mut (s2.trans s3) hmH
      refine ⟨_, rfl, .inl ⟨rfl, _, .inl (.inl upd_same)⟩, _, rfl, _, rfl, d, CD, dd, _, _, rfl, s4 _ _ hd, V1.td.cl, V1.td.nP, dF_p _ _ _, p, CP, dx, _, _, rfl, s4 _ _ hp, V1.tp.cl, V1.tp.nS, polF_scale _ _,
        c.2, h.now.p.D, rfl, (by omega), hDl, fun H5 r2 s5 n5 e5 => ?_⟩
      rw [low_frac c.2 hD] at e5
      refine ⟨m, r2, _, _, rfl, rfl, s5 _ _ upd_same, e5, sz _ (by rw [List.length_append, List.length_map, List.length_map, List.length_map, List.length_cons, tl]; show _ + 2 + 2 ≤ 1000; omega), ?_⟩
      refine ⟨some (.int c.1), some (.int c.2), rfl, same_mut (s4.trans s5) hmH, ?_⟩
      rw [upd_same, told_more hc]
      simp
    · rintro σ H' ⟨u, v, rfl, s2, hm2⟩
      rw [hpt.length, List.take_length] at hm2
      refine ⟨_, rfl, ?_⟩
      exact q H' k m (D.mono s2) (.inl rfl) (fr_same s2) hm (D.d_ne hm).2 hm2
end
end Pw
end

section
namespace Pw
open PySem PySem.Spec PyProof.Rows L2
open Pg (Pt Tri GoodP)
open Sq71 (House Now Steps Out)
section
variable {P : Program} {w : World} {K : PySem.W.Frag} {mg : Str → Option Value} {base : Heap} {CP CD : Addr}
/-! ### cut -/
def spCut (K : PySem.W.Frag) (CP CD : Addr) : Sp := fun vs H Q _ => ∃ (d k : Addr) (h : House) (t : Nat) (cp cm : Nat) (a b : Addr) (ns ms : List Nat), vs = [.ref d, .int cp, .int cm, .ref a, .ref b] ∧ DeskAt K CP CD H d k h ∧ GoodH h t ∧ t ≤ 40 ∧
  SqL K H a (nV ns) ∧ SqL K H b (nV ms) ∧ ns.length ≤ 1024 ∧ Ans K CP CD H d k (h.step (.cut cp cm ns ms)) Q
theorem scCut : FnScope ["self", "c_plus", "c_minus", "plus", "minus", "numbers", "polygon"] ["self", "c_plus", "c_minus", "plus", "minus"] (defScope sCut) := ⟨rfl, rfl, rfl, by decide +kernel, rfl, by decide +kernel, by decide +kernel⟩
theorem cut_no {h : House} {cp cm : Nat} {ns ms : List Nat} (hn : ¬ (ns.length = 2 ∧ ms.length = 2)) : h.step (.cut cp cm ns ms) = (h, Sq71.says (-3)) := by
  show (match Sq71.given ns ms with
    | some [x, y] => _
    | _ => (h, Sq71.says (-3))) = _
  by_cases e : ns.length = ms.length
  · rw [subs_given ns ms e]
    have hl : (subs (ns.map fun (n : Nat) => (n : Int)) (ms.map fun (n : Nat) => (n : Int))).length ≠ 2 := by
      rw [subs_length, List.length_map, List.length_map]
      omega
    generalize subs (ns.map fun (n : Nat) => (n : Int)) (ms.map fun (n : Nat) => (n : Int)) = l at hl
    match l, hl with
    | [], _ => rfl
    | [_], _ => rfl
    | [_, _], hl => exact absurd rfl hl
    | _ :: _ :: _ :: _, _ => rfl
  · rw [given_none e]
abbrev cutL (g : Sq71.Polygon) (a b c : Int) : List Tri := Pg.left g.D a b c g.cs
abbrev cutP (g : Sq71.Polygon) (a b c : Int) : Sq71.Polygon := Pg.red (g.D * Pg.shared (cutL g a b c)) (Sq68.corners (Pg.placesOf (cutL g a b c)))
theorem cut_yes {h : House} (hD : 0 < h.now.p.D) (cp cm x y z u : Nat) : h.step (.cut cp cm [x, y] [z, u]) =
    (if Sq71.far_ 20 [(x : Int) - z, (y : Int) - u, (cp : Int), (cm : Int)] = true then (h, Sq71.says (-1))
      else if (Pg.around (Sq68.inOrder (Pg.placesOf (cutL h.now.p ((x : Int) - z) ((y : Int) - u) ((cp : Int) - cm))))).length < 3 then (h, Sq71.says (-4))
      else if 1000 < (cutP h.now.p ((x : Int) - z) ((y : Int) - u) ((cp : Int) - cm)).D then (h, Sq71.says (-5))
      else (h.to ⟨cutP h.now.p ((x : Int) - z) ((y : Int) - u) ((cp : Int) - cm), h.now.s⟩, Sq71.says ((cutP h.now.p ((x : Int) - z) ((y : Int) - u) ((cp : Int) - cm)).cs.length : Int))) := by
  have e := Pg.polygon_cut hD ((x : Int) - z) ((y : Int) - u) ((cp : Int) - cm) h.now.p.cs
  have hs : 0 < h.now.p.D * Pg.shared (cutL h.now.p ((x : Int) - z) ((y : Int) - u) ((cp : Int) - cm)) := Nat.mul_pos hD (Pg.shared_pos _ 1 (by omega) Pg.left_pos)
  have e2 : (Sq68.twice (cutP h.now.p ((x : Int) - z) ((y : Int) - u) ((cp : Int) - cm)).cs = 0) =
      ((Pg.around (Sq68.inOrder (Pg.placesOf (cutL h.now.p ((x : Int) - z) ((y : Int) - u) ((cp : Int) - cm))))).length < 3) :=
    propext ((Pg.twice_red hs _).trans (Pg.around_flat _).symm)
  show (if Sq71.far_ 20 [(x : Int) - z, (y : Int) - u, (cp : Int), (cm : Int)] = true then (h, Sq71.says (-1))
      else if Sq68.twice (Sq71.polygon (Sq71.cut ((x : Int) - z) ((y : Int) - u) ((cp : Int) - cm) h.now.p)).cs = 0 then (h, Sq71.says (-4))
      else if 1000 < (Sq71.polygon (Sq71.cut ((x : Int) - z) ((y : Int) - u) ((cp : Int) - cm) h.now.p)).D then (h, Sq71.says (-5))
      else (h.to ⟨Sq71.polygon (Sq71.cut ((x : Int) - z) ((y : Int) - u) ((cp : Int) - cm) h.now.p), h.now.s⟩, Sq71.says ((Sq71.polygon (Sq71.cut ((x : Int) - z) ((y : Int) - u) ((cp : Int) - cm) h.now.p)).cs.length : Int))) = _
  have e' : Sq71.polygon (Sq71.cut ((x : Int) - z) ((y : Int) - u) ((cp : Int) - cm) h.now.p) = cutP h.now.p ((x : Int) - z) ((y : Int) - u) ((cp : Int) - cm) := e
  rw [e']
  simp only [e2]
theorem ok_cut (V1 : Env1 P w K mg base CP CD) {f : Addr} {fd : FuncData} (F : Fun K "cut" "Desk.cut" sCut f fd) : FnOk P w K mg base CX0 7 f fd ["self", "c_plus", "c_minus", "plus", "minus"] (spCut K CP CD) := by
  obtain ⟨_, _, nBh, gBh⟩ := V1.bh
  obtain ⟨_, _, nDf, gDf⟩ := V1.df
  obtain ⟨_, _, nAb, gAb⟩ := V1.ab
  obtain ⟨_, _, nPc, gPc⟩ := V1.pc
  obtain ⟨_, _, mK, gK⟩ := V1.keep
  obtain ⟨_, c1⟩ := V1.cst.wl
  obtain ⟨_, c2⟩ := V1.cst.oob
  obtain ⟨_, c3⟩ := V1.cst.fc
  obtain ⟨_, c4⟩ := V1.cst.iol
  obtain ⟨_, c5⟩ := V1.cst.fine
  obtain ⟨_, c6⟩ := V1.cst.tf
  refine F.ok scCut (fun vs H Q E h => ?_) (fun cdv A outer s H vs Q E hr h => ⟨_,
    pss_cons (ps_if (pt_not (pt_val (pe_call gBh (hr.mono (by decide)) rfl nBh.g nBh.kp nBh.b .nil pass0 (pa_cons (pv 3) (pa_cons (pv 4) (pa_cons pe_int pa_nil)))))) (pss_one (ps_ret (pe_lst (pa_cons (pe_num rfl c1) pa_nil)))) pss_nil)
    (pss_cons (ps_set (i := 5) scCut.nd rfl (Or.inl rfl) (pe_call gDf (hr.mono (by decide)) rfl nDf.g nDf.kp nDf.b .nil pass0 (pa_cons (pv 3) (pa_cons (pv 4) pa_nil))))
    (pss_cons (ps_if (pt_val (pe_call gAb (hr.mono (by decide)) rfl nAb.g nAb.kp nAb.b .nil pass0 (pa_cons (pe_op op_cat (pv 5) (pe_lst (pa_cons (pv 1) (pa_cons (pv 2) pa_nil)))) (pa_cons (pe_num rfl c3) pa_nil)))) (pss_one (ps_ret (pe_lst (pa_cons (pe_num rfl c2) pa_nil)))) pss_nil)
    (pss_cons (ps_set (i := 6) scCut.nd rfl (Or.inl rfl) (pe_call gPc hr rfl nPc.g nPc.kp nPc.b .nil pass0 (pa_cons (pe_fld (pv 0) rfl) (pa_cons (pe_ix ix_list (pv 5) pe_int (fun _ _ => rfl)) (pa_cons (pe_ix ix_list (pv 5) pe_int (fun _ _ => rfl)) (pa_cons (pe_op op_sub (pv 1) (pv 2)) pa_nil))))))
    (pss_cons (ps_if (pt_cmpR op_isN (pv 6) pe_non (nomark _)) (pss_one (ps_ret (pe_lst (pa_cons (pe_num rfl c4) pa_nil)))) pss_nil)
    (pss_cons (ps_if (pt_cmpR op_gt (pe_fld (pv 6) rfl) (pe_num rfl c5) (nomark _)) (pss_one (ps_ret (pe_lst (pa_cons (pe_num rfl c6) pa_nil)))) pss_nil)
    (pss_cons (ps_expr (pe_meth0 (pv 0) V1.td.cl mK.m gK (hr.mono (by decide)) mK.b .nil pass0))
    (pss_cons (ps_fld (pv 0) (pv 6) rfl)
    (pss_one (ps_ret (pe_lst (pa_cons (pe_callB call_len_seq (by rfl) V1.own.len PySem.boot_len (pa_cons (pe_fld (pv 6) rfl) pa_nil)) pa_nil))))))))))), ?_⟩)
  · obtain ⟨d, k, h, t, cp, cm, a, b, ns, ms, rfl, _⟩ := h
    rfl
  · obtain ⟨d, k, h, t, cp, cm, a, b, ns, ms, rfl, D, gh, ht, hA, hB, hn, q⟩ := h
    have gp := gh.now
    refine ⟨_, rfl, _, rfl, a, b, _, _, 2, rfl, hA, hB, _, rfl, ?_⟩
    have l1 : ∀ l : List Nat, (nV l).length = l.length := fun l => List.length_map ..
    rw [l1, l1]
    by_cases h2 : ns.length = 2 ∧ ms.length = 2
    · refine if_false_of (by simp; omega) ?_
      obtain ⟨x, y, rfl⟩ := two_of h2.1
      obtain ⟨z, u, rfl⟩ := two_of h2.2
      rw [cut_yes gp.D0] at q
      refine ⟨_, rfl, _, rfl, a, b, [(x : Int), (y : Int)], [(z : Int), (u : Int)], rfl, hA, hB, (by show 2 ≤ 100000; decide), fun H1 l s1 nl hl => ?_⟩
      generalize e1 : (x : Int) - z = va at q
      generalize e2 : (y : Int) - u = vb at q
      have hl' : H1 l = some (.lst [.int va, .int vb]) := by rw [← e1, ← e2]; exact hl
      refine ⟨_, rfl, _, rfl, _, rfl, (by show 2 ≤ sizeLine; decide), fun m hm => ?_⟩
      have s2 := same_new (o := .lst [.int (cp : Int), .int (cm : Int)]) hm
      refine ⟨l, m, _, _, rfl, rfl, s2 _ _ hl', upd_same, (by show 4 ≤ sizeLine; decide), fun m2 hm2 => ?_⟩
      have s3 := same_new (o := .lst ([.int va, .int vb] ++ [.int (cp : Int), .int (cm : Int)])) hm2
      refine ⟨m2, [va, vb, (cp : Int), (cm : Int)], 20, rfl, .inl (.inl (.inl upd_same)), (by show 4 ≤ 100000; decide), fun H2 s4 => ?_⟩
      refine ⟨_, rfl, ?_⟩
      have eb : beyond [va, vb, (cp : Int), (cm : Int)] 20 = Sq71.far_ 20 [va, vb, (cp : Int), (cm : Int)] := beyond_far _ 20
      rw [eb]
      have sall : Same H H2 := ((s1.trans s2).trans s3).trans s4
      by_cases hf : Sq71.far_ 20 [va, vb, (cp : Int), (cm : Int)] = true
      · refine if_true_of hf ?_
        refine ⟨(by show 1 ≤ sizeLine; decide), fun r hr' => ?_⟩
        exact refuse D sall hr' (if_pos hf) q
      · refine if_false_of (by simpa using hf) ?_
        rw [if_neg hf] at q
        have hb : va.natAbs ≤ 20 ∧ vb.natAbs ≤ 20 ∧ cp ≤ 20 ∧ cm ≤ 20 := by
          have : Sq71.far_ 20 [va, vb, (cp : Int), (cm : Int)] = false := by simpa using hf
          unfold Sq71.far_ at this
          simp at this
          omega
        have D2 := D.mono sall
        obtain ⟨dd, F0, p, sv, vs, hd, hk, sF, nd, nk, hpoly, hst, hrel⟩ := D2.ex
        have hl2 : SqL K H2 l [.int va, .int vb] := .inl (.inl (s4 _ _ (s3 _ _ (s2 _ _ hl'))))
        have hcl := Pg.left_len gp.cv h.now.p.D va vb ((cp : Int) - cm)
        refine ⟨_, rfl, d, CD, dd, _, _, rfl, hd, V1.td.cl, V1.td.nP, dF_p _ _ _, _, rfl, l, _, _, _, rfl, rfl, hl2, at0, _, rfl, l, _, _, _, rfl, rfl, hl2, at1, _, rfl, _, rfl, _, _, rfl, rfl,
          p, h.now.p, va, vb, (cp : Int) - cm, rfl, hpoly.mono sF, hb.1, hb.2.1, (by omega), gp.D0, gp.D1, good_md gp, (by have := gp.len; omega), (by have := gp.len; omega), fun h3 H3 s5 => ?_, fun h3 H3 r s5 hpn => ?_⟩
        · -- nothing is left
          refine ⟨_, rfl, rfl, _, rfl, ?_⟩
          refine if_true_of (by decide) ?_
          refine ⟨(by show 1 ≤ sizeLine; decide), fun r' hr' => ?_⟩
          exact refuse D (sall.trans s5) hr' (if_pos h3) q
        · rw [if_neg (Nat.not_lt.2 h3)] at q
          refine ⟨_, rfl, rfl, _, rfl, ?_⟩
          refine if_false_of (by simp) ?_
          obtain ⟨dx, lc, cv, hp, hlc, hpt⟩ := hpn.at
          refine ⟨_, rfl, r, CP, dx, _, _, rfl, hp, V1.tp.cl, V1.tp.nS, polF_scale _ _, _, _, rfl, rfl, _, rfl, ?_⟩
          by_cases hfine : 1000 < (cutP h.now.p va vb ((cp : Int) - cm)).D
          · refine if_true_of (decide_eq_true (Int.ofNat_lt.2 hfine)) ?_
            refine ⟨(by show 1 ≤ sizeLine; decide), fun r' hr' => ?_⟩
            exact refuse D (sall.trans s5) hr' (if_pos hfine) q
          · refine if_false_of (decide_eq_false fun z => hfine (Int.ofNat_lt.1 z)) ?_
            rw [if_neg hfine] at q
            have D3 := D2.mono s5
            obtain ⟨dd3, F3, p3, sv3, vs3, hd3, hk3, _⟩ := D3.ex
            refine ⟨_, rfl, d, dd3, _, rfl, hd3, k_no _ _ _, d, k, h, rfl, D3, gh.len, fun H5 k' D5 nk' fr => ?_⟩
            have hq5 : PolyAt K CP (strip d k' H5) r (cutP h.now.p va vb ((cp : Int) - cm)) := poly_thru D2 (H1 := H3) s5 hpn fr (.inr nk')
            obtain ⟨dd5, p5, sv5, hd5, D6⟩ := set_poly D5 hq5
            refine ⟨_, rfl, _, rfl, d, CD, dd5, _, rfl, hd5, V1.td.cl, V1.td.nP, (by show 3 < 1000; decide), ?_⟩
            rw [pF_p]
            have nkH : H k' = none := (sall.trans s5).free nk'
            have fr5 : Fr d k H H5 := fr_trans (fr_same (sall.trans s5)) (.inl rfl) fr
            have fr6 := fr_trans (k' := k') fr5 (.inr nkH) (fr_d (o := .ins CD dd5 (deskF r sv5 k')))
            -- the polygon is still there
            obtain ⟨dx6, lc6, cv6, hp6, hlc6, hpt6⟩ := hq5
            have s6 : Same (strip d k' H5) (upd H5 d (.ins CD dd5 (deskF r sv5 k'))) := fun b o e => by
              have : b ≠ d := fun z => by rw [z, strip_d] at e; cases e
              rw [upd_ne this]
              exact strip_same _ _ _ _ _ e
            refine ⟨_, rfl, r, CP, dx6, _, _, rfl, s6 _ _ hp6, V1.tp.cl, V1.tp.nC, polF_corners _ _, lc6, cv6, rfl, .inl (.inl (.inl (s6 _ _ hlc6))), (by show 1 ≤ sizeLine; decide), fun o ho => ?_⟩
            rw [hpt6.length]
            exact finish (r := (h.to ⟨cutP h.now.p va vb ((cp : Int) - cm), h.now.s⟩, _)) D6 (.inr nkH) fr6 ho rfl q
    · refine if_true_of (by simp; omega) ?_
      refine ⟨(by show 1 ≤ sizeLine; decide), fun r hr' => ?_⟩
      exact refuse D (Same.refl H) hr' (cut_no h2) q
end
end Pw
end

section
namespace Pw
open PySem PySem.Spec PyProof.Rows L2
open Pg (Pt Tri GoodP)
open Sq71 (House Now Steps Out)
structure Cst2 (K : PySem.W.Frag) (mg : Str → Option Value) : Prop where
  fs : ∃ a, mg "FIRST_STEPS" = some (.ref a) ∧ ∀ H, StepsAt K H (.ref a) ⟨(1, 0), (0, 1)⟩
  fp : ∃ a, mg "FIRST_PLACES" = some (.ref a) ∧ ∀ H, ∃ vs, SqT K H a vs ∧ Pts K H vs [(0, 0), (1, 0), (1, 1), (0, 1)]
section
variable {P : Program} {w : World} {K : PySem.W.Frag} {mg : Str → Option Value} {base : Heap} {CP CD : Addr}
/-! ### begin -/
def spBegin (K : PySem.W.Frag) (CP CD : Addr) : Sp := fun vs H Q _ => ∃ (d k : Addr) (h : House) (qq : Nat) (a b : Addr) (ns ms : List Nat), vs = [.ref d, .int qq, .ref a, .ref b] ∧ DeskAt K CP CD H d k h ∧
  SqL K H a (nV ns) ∧ SqL K H b (nV ms) ∧ ns.length ≤ 1024 ∧ ms.length ≤ 1024 ∧ Ans K CP CD H d k (h.step (.begin_ qq ns ms)) Q
theorem scBegin : FnScope ["self", "q", "plus", "minus", "places", "polygon", "place"] ["self", "q", "plus", "minus"] (defScope sBegin) := ⟨rfl, rfl, rfl, by decide +kernel, rfl, by decide +kernel, by decide +kernel⟩
theorem begin_q {h : House} {q : Nat} {ns ms : List Nat} (hq : q < 1 ∨ 6 < q) : h.step (.begin_ q ns ms) = (h, Sq71.says (-1)) := by
  show (if q = 0 ∨ 6 < q then (h, Sq71.says (-1)) else _) = _
  rw [if_pos (by omega)]
theorem begin_lists {h : House} {q : Nat} {ns ms : List Nat} (hq : ¬ (q < 1 ∨ 6 < q)) (hl : ns.length ≠ ms.length ∨ ns.length % 2 ≠ 0) : h.step (.begin_ q ns ms) = (h, Sq71.says (-3)) := by
  have e : (Sq71.given ns ms).bind Sq68.pairs = none := by
    by_cases e : ns.length = ms.length
    · rw [subs_given ns ms e]
      exact prs_odd _ (by rw [subs_length, List.length_map, List.length_map]; omega)
    · rw [given_none e]; rfl
  show (if q = 0 ∨ 6 < q then (h, Sq71.says (-1)) else match (Sq71.given ns ms).bind Sq68.pairs with
    | none => (h, Sq71.says (-3))
    | some l => _) = _
  rw [if_neg (by omega), e]
abbrev pls (ns ms : List Nat) : List Pt := prs (subs (ns.map fun (n : Nat) => (n : Int)) (ms.map fun (n : Nat) => (n : Int)))
theorem begin_yes {h : House} {q : Nat} {ns ms : List Nat} (hq : ¬ (q < 1 ∨ 6 < q)) (h1 : ns.length = ms.length) (h2 : ns.length % 2 = 0) : h.step (.begin_ q ns ms) =
    (if (pls ns ms).length < 3 ∨ 8 < (pls ns ms).length ∨ ((pls ns ms).any fun p => beyond [p.1, p.2] (12 * (q : Int))) = true then (h, Sq71.says (-1))
      else if (Pg.around (Sq68.inOrder (pls ns ms))).length < 3 then (h, Sq71.says (-4))
      else (⟨⟨Pg.red q (Sq68.corners (pls ns ms)), ⟨(1, 0), (0, 1)⟩⟩, []⟩, Sq71.says ((Pg.red q (Sq68.corners (pls ns ms))).cs.length : Int))) := by
  have e : (Sq71.given ns ms).bind Sq68.pairs = some (pls ns ms) := by
    rw [subs_given ns ms h1]
    exact prs_spec _ (by rw [subs_length, List.length_map, List.length_map]; omega)
  have e1 : ((pls ns ms).any fun p => decide (12 * q < p.1.natAbs ∨ 12 * q < p.2.natAbs)) = ((pls ns ms).any fun p => beyond [p.1, p.2] (12 * (q : Int))) := by
    congr 1
    funext p
    have : (12 * (q : Int)) = ((12 * q : Nat) : Int) := by omega
    rw [this, beyond_far]
    simp [Sq71.far_]
  have hq0 : 0 < q := by omega
  have e2 : (Sq68.twice (Pg.red q (Sq68.corners (pls ns ms))).cs = 0) = ((Pg.around (Sq68.inOrder (pls ns ms))).length < 3) := propext ((Pg.twice_red hq0 _).trans (Pg.around_flat _).symm)
  show (if q = 0 ∨ 6 < q then (h, Sq71.says (-1)) else match (Sq71.given ns ms).bind Sq68.pairs with
    | none => (h, Sq71.says (-3))
    | some l => if l.length < 3 ∨ 8 < l.length ∨ (l.any fun p => decide (12 * q < p.1.natAbs ∨ 12 * q < p.2.natAbs)) = true then (h, Sq71.says (-1)) else
      if Sq68.twice (Sq71.polygon (l.map fun c => (Sq71.frac c.1 q, Sq71.frac c.2 q))).cs = 0 then (h, Sq71.says (-4)) else
        (⟨⟨Sq71.polygon (l.map fun c => (Sq71.frac c.1 q, Sq71.frac c.2 q)), ⟨(1, 0), (0, 1)⟩⟩, []⟩, Sq71.says ((Sq71.polygon (l.map fun c => (Sq71.frac c.1 q, Sq71.frac c.2 q))).cs.length : Int))) = _
  rw [if_neg (by omega), e]
  simp only
  rw [Pg.polygon_begin hq0, e1]
  simp only [e2]
theorem dec_ne_int {i j : Int} : (!decide (V.int i = V.int j)) = decide (i ≠ j) := by
  by_cases e : i = j <;> simp [e]
theorem ok_begin (V1 : Env1 P w K mg base CP CD) (C2 : Cst2 K mg) {f : Addr} {fd : FuncData} (F : Fun K "begin" "Desk.begin" sBegin f fd) : FnOk P w K mg base CX0 6 f fd ["self", "q", "plus", "minus"] (spBegin K CP CD) := by
  obtain ⟨_, _, nPr, gPr⟩ := V1.pr
  obtain ⟨_, _, nDf, gDf⟩ := V1.df
  obtain ⟨_, _, nAb, gAb⟩ := V1.ab
  obtain ⟨_, _, nPb, gPb⟩ := V1.pb
  obtain ⟨_, c1⟩ := V1.cst.wl
  obtain ⟨_, c2⟩ := V1.cst.oob
  obtain ⟨_, c3⟩ := V1.cst.q
  obtain ⟨_, c4⟩ := V1.cst.iol
  obtain ⟨_, c5⟩ := V1.cst.lp
  obtain ⟨_, c6⟩ := V1.cst.mp
  obtain ⟨_, c7⟩ := V1.cst.fp
  obtain ⟨aS, gS, hS⟩ := C2.fs
  refine F.ok scBegin (fun vs H Q E h => ?_) (fun cdv A outer s H vs Q E hr h => ⟨_,
    pss_cons (ps_if (PW.pt (pw_or (pt_cmpR op_lt (pv 1) pe_int (nomark _)) (pw_or1 (pt_cmpR op_gt (pv 1) (pe_num rfl c3) (nomark _))))) (pss_one (ps_ret (pe_lst (pa_cons (pe_num rfl c2) pa_nil)))) pss_nil)
    (pss_cons (ps_if (PW.pt (pw_or (pt_cmpR op_ne (pe_callB call_len_seq (by rfl) V1.own.len PySem.boot_len (pa_cons (pv 2) pa_nil)) (pe_callB call_len_seq (by rfl) V1.own.len PySem.boot_len (pa_cons (pv 3) pa_nil)) (nomark _))
        (pw_or1 (pt_cmpR op_ne (pe_op op_mod (pe_callB call_len_seq (by rfl) V1.own.len PySem.boot_len (pa_cons (pv 2) pa_nil)) pe_int) pe_int (nomark _))))) (pss_one (ps_ret (pe_lst (pa_cons (pe_num rfl c1) pa_nil)))) pss_nil)
    (pss_cons (ps_set (i := 4) scBegin.nd rfl (Or.inl rfl) (pe_call gPr (hr.mono (by decide)) rfl nPr.g nPr.kp nPr.b .nil pass0 (pa_cons (pe_call gDf (hr.mono (by decide)) rfl nDf.g nDf.kp nDf.b .nil pass0 (pa_cons (pv 2) (pa_cons (pv 3) pa_nil))) pa_nil)))
    (pss_cons (ps_if (PW.pt (pw_or (pt_cmpR op_lt (pe_callB call_len_seq (by rfl) V1.own.len PySem.boot_len (pa_cons (pv 4) pa_nil)) (pe_num rfl c5) (nomark _))
        (pw_or1 (pt_cmpR op_gt (pe_callB call_len_seq (by rfl) V1.own.len PySem.boot_len (pa_cons (pv 4) pa_nil)) (pe_num rfl c6) (nomark _))))) (pss_one (ps_ret (pe_lst (pa_cons (pe_num rfl c2) pa_nil)))) pss_nil)
    (pss_cons (ps_if (pt_val (pe_callB (cr_any rfl) (by rfl) V1.own.any boot_any (pa_cons
        (pe_lc (own := [("place", 6)]) (g := gName 6) (tt := tYes) rfl scBegin.nd (pi_list (pv 4)) (blkOk_by (N := ["self", "q", "plus", "minus", "places", "polygon", "place"]) (sc := defScope sBegin) (by decide +kernel))
          (fun _ _ _ _ _ => pg_name (i := 6) scBegin.nd rfl (Or.inl rfl)) (fun _ _ _ _ _ => pts_nil)
          (fun _ _ _ _ _ => pe_call gAb (hr.mono (by decide)) rfl nAb.g nAb.kp nAb.b .nil pass0 (pa_cons (pv 6) (pa_cons (pe_op op_mul (pe_num rfl c7) (pv 1)) pa_nil)))) pa_nil))) (pss_one (ps_ret (pe_lst (pa_cons (pe_num rfl c2) pa_nil)))) pss_nil)
    (pss_cons (ps_set (i := 5) scBegin.nd rfl (Or.inl rfl) (pe_call gPb hr rfl nPb.g nPb.kp nPb.b .nil pass0 (pa_cons (pv 1) (pa_cons (pv 4) pa_nil))))
    (pss_cons (ps_if (pt_cmpR op_isN (pv 5) pe_non (nomark _)) (pss_one (ps_ret (pe_lst (pa_cons (pe_num rfl c4) pa_nil)))) pss_nil)
    (pss_cons (ps_fld (pv 0) (pv 5) rfl)
    (pss_cons (ps_fld (pv 0) (pe_glob (v := .ref aS) rfl gS rfl) rfl)
    (pss_cons (ps_fld (pv 0) (pe_lst pa_nil) rfl)
    (pss_one (ps_ret (pe_lst (pa_cons (pe_callB call_len_seq (by rfl) V1.own.len PySem.boot_len (pa_cons (pe_fld (pv 5) rfl) pa_nil)) pa_nil))))))))))))), ?_⟩)
  · obtain ⟨d, k, h, qq, a, b, ns, ms, rfl, _⟩ := h
    rfl
  · obtain ⟨d, k, h, qq, a, b, ns, ms, rfl, D, hA, hB, hn, hm, q⟩ := h
    have l1 : ∀ l : List Nat, (nV l).length = l.length := fun l => List.length_map ..
    have one : ∀ (c : Int), h.step (.begin_ qq ns ms) = (h, Sq71.says c) → ∀ {H1 : Hp}, Same H H1 → tLst (tCons (tC (.int c)) tNil) [] H1 Q := fun c e H1 s1 =>
      ⟨(by show 1 ≤ sizeLine; decide), fun r hr' => refuse D s1 hr' e q⟩
    refine ⟨_, rfl, _, _, rfl, rfl, _, rfl, ?_⟩
    by_cases hq1 : qq < 1
    · refine if_true_of (decide_eq_true (by omega)) ?_
      exact if_true_of rfl (one (-1) (begin_q (.inl hq1)) (Same.refl H))
    · refine if_false_of (decide_eq_false (by omega)) ?_
      refine ⟨_, rfl, _, _, rfl, rfl, _, rfl, ?_⟩
      by_cases hq2 : 6 < qq
      · exact if_true_of (decide_eq_true (by omega)) (one (-1) (begin_q (.inr hq2)) (Same.refl H))
      · refine if_false_of (decide_eq_false (by omega)) ?_
        have hq : ¬ (qq < 1 ∨ 6 < qq) := by omega
        refine ⟨_, rfl, a, _, rfl, .inl hA, _, rfl, b, _, rfl, .inl hB, rfl, _, rfl, ?_⟩
        rw [l1, l1, dec_ne_int]
        by_cases hl1 : ns.length = ms.length
        · refine if_false_of (decide_eq_false (by omega)) ?_
          refine ⟨_, rfl, a, _, rfl, .inl hA, _, _, rfl, rfl, (by show (0 : Int) < 2; decide), rfl, _, rfl, ?_⟩
          rw [l1, dec_ne_int]
          by_cases hl2 : ns.length % 2 = 0
          · refine if_false_of (decide_eq_false (by omega)) ?_
            rw [begin_yes hq hl1 hl2] at q
            refine ⟨_, rfl, _, rfl, a, b, ns.map (fun (n : Nat) => (n : Int)), ms.map (fun (n : Nat) => (n : Int)), rfl, by rw [← nV_int]; exact hA, by rw [← nV_int]; exact hB, (by rw [List.length_map]; omega), fun H1 l s1 nl hl => ?_⟩
            refine ⟨l, _, rfl, .inl (.inl hl), (by rw [subs_length, List.length_map, List.length_map]; omega), (by rw [subs_length, List.length_map, List.length_map]; omega), fun H2 l2 vs2 s2 nl2 hl2' hpt2 => ?_⟩
            have s12 : Same H H2 := s1.trans s2
            have hpl : vs2.length = (pls ns ms).length := hpt2.length
            have refu : ∀ (c : Int), (if (pls ns ms).length < 3 ∨ 8 < (pls ns ms).length ∨ ((pls ns ms).any fun p => beyond [p.1, p.2] (12 * (qq : Int))) = true then (h, Sq71.says (-1))
                else if (Pg.around (Sq68.inOrder (pls ns ms))).length < 3 then (h, Sq71.says (-4))
                else (⟨⟨Pg.red qq (Sq68.corners (pls ns ms)), ⟨(1, 0), (0, 1)⟩⟩, []⟩, Sq71.says ((Pg.red qq (Sq68.corners (pls ns ms))).cs.length : Int))) = (h, Sq71.says c) → ∀ {H1 : Hp}, Same H H1 → tLst (tCons (tC (.int c)) tNil) [] H1 Q := fun c e H1 s1 =>
              ⟨(by show 1 ≤ sizeLine; decide), fun r hr' => refuse D s1 hr' e q⟩
            refine ⟨_, rfl, l2, vs2, rfl, .inl (.inl (.inl hl2')), _, _, rfl, rfl, _, rfl, ?_⟩
            rw [hpl]
            by_cases h3 : (pls ns ms).length < 3
            · refine if_true_of (decide_eq_true (by omega)) ?_
              exact if_true_of rfl (refu (-1) (if_pos (.inl h3)) s12)
            · refine if_false_of (decide_eq_false (by omega)) ?_
              refine ⟨_, rfl, l2, vs2, rfl, .inl (.inl (.inl hl2')), _, _, rfl, rfl, _, rfl, ?_⟩
              rw [hpl]
              by_cases h8 : 8 < (pls ns ms).length
              · exact if_true_of (decide_eq_true (by omega)) (refu (-1) (if_pos (.inr (.inl h8))) s12)
              · refine if_false_of (decide_eq_false (by omega)) ?_
                refine ⟨_, rfl, l2, rfl, ⟨_, .inl (.inl hl2')⟩, fun e he => ?_⟩
                refine lc_all (walk_list (xs := vs2)) (fun i H3 => Same H2 H3 ∧ H3 e = some (.lst ((((pls ns ms).take i).map fun c => beyond [c.1, c.2] (12 * (qq : Int))).map V.bl)))
                  ⟨same_new he, upd_same⟩ (fun i H3 _ h => .inl (.inl (h.1 _ _ hl2'))) ?_ ?_
                · rintro i x H3 H4 hi ⟨s3, hv⟩ ⟨rfl, ex⟩
                  obtain ⟨pt, hpp, t, rfl, ht⟩ := hpt2.get ex
                  refine ⟨rfl, _, rfl, _, rfl, _, _, rfl, rfl, cmul_l (by decide), ?_⟩
                  refine ⟨t, [pt.1, pt.2], 12 * (qq : Int), rfl, .inr (same_t s3 ht), (by show 2 ≤ 100000; decide), fun H5 s5 => ?_⟩
                  refine ⟨_, s5 _ _ hv, ?_, same_mut (s3.trans s5) he, ?_⟩
                  · rw [List.length_map, List.length_map, List.length_take]
                    exact Nat.lt_of_le_of_lt (show _ ≤ 100 by omega) (by decide)
                  · rw [upd_same, map_more hpp, List.map_append]
                    rfl
                · rintro H3 ⟨s3, hv⟩
                  rw [hpl, List.take_length] at hv
                  have s13 : Same H H3 := s12.trans s3
                  refine ⟨e, _, rfl, .inl (.inl hv), _, rfl, ?_⟩
                  rw [List.any_map]
                  have eany : ((pls ns ms).any (id ∘ fun c => beyond [c.1, c.2] (12 * (qq : Int)))) = ((pls ns ms).any fun c => beyond [c.1, c.2] (12 * (qq : Int))) := rfl
                  rw [eany]
                  by_cases hb : ((pls ns ms).any fun c => beyond [c.1, c.2] (12 * (qq : Int))) = true
                  · refine if_true_of hb ?_
                    exact refu (-1) (if_pos (.inr (.inr hb))) s13
                  · refine if_false_of (by simpa using hb) ?_
                    rw [if_neg (by rintro (z | z | z); exact h3 z; exact h8 z; exact hb z)] at q
                    have hSm : ∀ p ∈ pls ns ms, Sm p := by
                      intro p hp
                      have hb' : ((pls ns ms).any fun c => beyond [c.1, c.2] (12 * (qq : Int))) = false := by simpa using hb
                      have := List.any_eq_false.1 hb' p hp
                      have e12 : (12 * (qq : Int)) = ((12 * qq : Nat) : Int) := by omega
                      rw [e12, beyond_far] at this
                      simp [Sq71.far_] at this
                      have hs := small_1792
                      have h0 : 0 < 2 ^ 1792 := Nat.two_pow_pos _
                      have h1 : 1000000000000000 * 1 ≤ 1000000000000000 * 2 ^ 1792 := Nat.mul_le_mul_left _ h0
                      exact ⟨by omega, by omega⟩
                    have hlm : qq < lim := by
                      have := lim_1792k
                      have h0 : 0 < 2 ^ 1792 := Nat.two_pow_pos _
                      have h1 : 1000 * 1 ≤ 1000 * 2 ^ 1792 := Nat.mul_le_mul_left _ h0
                      omega
                    refine ⟨_, rfl, _, rfl, qq, l2, vs2, pls ns ms, rfl, (by omega), hlm, .inl (.inl (.inl (s3 _ _ hl2'))), hpt2.mono s3, hSm, (by omega), fun h4 H4 s4 => ?_, fun h4 H4 r s4 hpn => ?_⟩
                    · refine ⟨_, rfl, rfl, _, rfl, ?_⟩
                      refine if_true_of (by decide) ?_
                      exact ⟨(by show 1 ≤ sizeLine; decide), fun r hr' => refuse D (s13.trans s4) hr' (if_pos h4) q⟩
                    · rw [if_neg (Nat.not_lt.2 h4)] at q
                      refine ⟨_, rfl, rfl, _, rfl, ?_⟩
                      refine if_false_of (by simp) ?_
                      have D3 := D.mono s13
                      have D4 := D3.mono s4
                      have hq5 : PolyAt K CP (strip d k H4) r (Pg.red qq (Sq68.corners (pls ns ms))) := poly_thru D3 s4 hpn (fr_same (Same.refl H4)) (.inl rfl)
                      obtain ⟨dd, F0, p, sv, vs, hd, hk, sF, nd, nk, hpoly, hst, hrel⟩ := D4.ex
                      have hdk : k ≠ d := fun z => by rw [← z, hk] at hd; cases hd
                      refine ⟨_, rfl, _, rfl, d, CD, dd, _, rfl, hd, V1.td.cl, V1.td.nP, (by show 3 < 1000; decide), ?_⟩
                      rw [pF_p]
                      refine ⟨_, rfl, d, CD, dd, _, rfl, upd_same, V1.td.cl, V1.td.nS, (by show 3 < 1000; decide), ?_⟩
                      rw [pF_s]
                      have up2 : ∀ (G : Hp) (o o' : HO), upd (upd G d o) d o' = upd G d o' := fun G o o' => by
                        funext b
                        by_cases e : b = d
                        · rw [e, upd_same, upd_same]
                        · rw [upd_ne e, upd_ne e, upd_ne e]
                      rw [up2]
                      refine ⟨(by show 0 ≤ sizeLine; omega), fun k' hk' => ?_⟩
                      have nk'd : k' ≠ d := fun z => by rw [z, upd_same] at hk'; cases hk'
                      have nk'4 : H4 k' = none := by rw [upd_ne nk'd] at hk'; exact hk'
                      refine ⟨_, rfl, d, CD, dd, _, rfl, (by rw [upd_ne nk'd.symm]; exact upd_same), V1.td.cl, V1.td.nK, (by show 3 < 1000; decide), ?_⟩
                      rw [pF_k]
                      have swap : upd (upd (upd H4 d (.ins CD dd (deskF r (.ref aS) k))) k' (.lst [])) d (.ins CD dd (deskF r (.ref aS) k')) = upd (upd H4 k' (.lst [])) d (.ins CD dd (deskF r (.ref aS) k')) := by
                        funext b
                        by_cases e1 : b = d
                        · rw [e1, upd_same, upd_same]
                        · rw [upd_ne e1, upd_ne e1]
                          by_cases e2 : b = k'
                          · rw [e2, upd_same, upd_same]
                          · rw [upd_ne e2, upd_ne e2, upd_ne e1]
                      rw [swap]
                      have s6 : Same (strip d k' H4) (upd (upd H4 k' (.lst [])) d (.ins CD dd (deskF r (.ref aS) k'))) := fun b o e => by
                        have n1 : b ≠ d := fun z => by rw [z, strip_d] at e; cases e
                        have n2 : b ≠ k' := fun z => by rw [z, strip_k] at e; cases e
                        rw [upd_ne n1, upd_ne n2]
                        exact strip_same _ _ _ _ _ e
                      have hq6 : PolyAt K CP (strip d k' H4) r (Pg.red qq (Sq68.corners (pls ns ms))) := poly_thru D3 s4 hpn (fr_same (Same.refl H4)) (.inr nk'4)
                      obtain ⟨dx6, lc6, cv6, hp6, hlc6, hpt6⟩ := id hq6
                      refine ⟨_, rfl, r, CP, dx6, _, _, rfl, s6 _ _ hp6, V1.tp.cl, V1.tp.nC, polF_corners _ _, lc6, cv6, rfl, .inl (.inl (.inl (s6 _ _ hlc6))), (by show 1 ≤ sizeLine; decide), fun o ho => ?_⟩
                      rw [hpt6.length]
                      have DN : DeskAt K CP CD (upd (upd H4 k' (.lst [])) d (.ins CD dd (deskF r (.ref aS) k'))) d k' ⟨⟨Pg.red qq (Sq68.corners (pls ns ms)), ⟨(1, 0), (0, 1)⟩⟩, []⟩ :=
                        ⟨dd, strip d k' H4, r, .ref aS, [], upd_same, by rw [upd_ne nk'd, upd_same], s6, strip_d, strip_k, hq6, hS _, .nil⟩
                      have fr : Fr d k H (upd (upd H4 k' (.lst [])) d (.ins CD dd (deskF r (.ref aS) k'))) := fr_trans (fr_same ((s13.trans s4).trans (same_new nk'4))) (.inl rfl) fr_d
                      exact finish (r := (⟨⟨Pg.red qq (Sq68.corners (pls ns ms)), ⟨(1, 0), (0, 1)⟩⟩, []⟩, _)) DN (.inr ((s13.trans s4).free nk'4)) fr ho rfl q
          · refine if_true_of (decide_eq_true (by omega)) ?_
            exact one (-3) (begin_lists hq (.inr hl2)) (Same.refl H)
        · refine if_true_of (decide_eq_true (by omega)) ?_
          exact if_true_of rfl (one (-3) (begin_lists hq (.inl hl1)) (Same.refl H))
end
end Pw
end

section
namespace Pw
open PySem PySem.Spec PyProof.Rows L2
open Pg (Pt Tri GoodP)
open Sq71 (House Now Steps Out)
section
variable {P : Program} {w : World} {K : PySem.W.Frag} {mg : Str → Option Value} {base : Heap} {CP CD : Addr}
/-! ### Desk.__init__ -/
def spDi (K : PySem.W.Frag) (CP CD : Addr) : Sp := fun vs H Q _ => ∃ (d dd : Addr), vs = [.ref d] ∧ H d = some (.ins CD dd []) ∧
  ∀ H' k, DeskAt K CP CD H' d k Sq71.fresh → H k = none → (∀ b o, H b = some o → b ≠ d → H' b = some o) → Q .non H'
theorem scDi : FnScope ["self"] ["self"] (defScope sDinit) := ⟨rfl, rfl, rfl, by decide +kernel, rfl, by decide +kernel, by decide +kernel⟩
theorem first_four : 3 ≤ (Pg.around (Sq68.inOrder [(0, 0), (1, 0), (1, 1), (0, 1)])).length := by decide +kernel
theorem first_square : Pg.red 1 (Sq68.corners [(0, 0), (1, 0), (1, 1), (0, 1)]) = Sq71.square := by decide +kernel
theorem first_sm : ∀ p ∈ ([(0, 0), (1, 0), (1, 1), (0, 1)] : List Pt), Sm p := by
  have h0 : 1000000000000000 * 2 ^ 1792 < small := small_1792
  have h1 : 1000000000000000 * 1 ≤ 1000000000000000 * 2 ^ 1792 := Nat.mul_le_mul_left _ (Nat.two_pow_pos _)
  intro p hp
  have hh : p.1.natAbs ≤ 1 ∧ p.2.natAbs ≤ 1 := by
    simp only [List.mem_cons, List.not_mem_nil, or_false] at hp
    rcases hp with rfl | rfl | rfl | rfl <;> decide
  exact ⟨by omega, by omega⟩
theorem putF_one (x : V) : putF "polygon" x [] = ([("polygon", x)] : List (Str × V)) := rfl
theorem putF_two (x y : V) : putF "steps" y ([("polygon", x)] : List (Str × V)) = ([("polygon", x), ("steps", y)] : List (Str × V)) := (put_past (by decide +kernel)).trans rfl
theorem putF_three (x y z : V) : putF "kept" z ([("polygon", x), ("steps", y)] : List (Str × V)) = ([("polygon", x), ("steps", y), ("kept", z)] : List (Str × V)) :=
  (put_past (by decide +kernel)).trans (congrArg _ ((put_past (by decide +kernel)).trans rfl))
theorem ok_di (V1 : Env1 P w K mg base CP CD) (C2 : Cst2 K mg) {f : Addr} {fd : FuncData} (F : Fun K "__init__" "Desk.__init__" sDinit f fd) : FnOk P w K mg base CX0 6 f fd ["self"] (spDi K CP CD) := by
  obtain ⟨_, _, nPb, gPb⟩ := V1.pb
  obtain ⟨aS, gS, hS⟩ := C2.fs
  obtain ⟨aP, gP, hP⟩ := C2.fp
  refine F.ok scDi (fun vs H Q E h => ?_) (fun cdv A outer s H vs Q E hr h => ⟨_,
    pss_cons (ps_fld (pv 0) (pe_call gPb hr rfl nPb.g nPb.kp nPb.b .nil pass0 (pa_cons pe_int (pa_cons (pe_glob (v := .ref aP) rfl gP rfl) pa_nil))) rfl)
    (pss_cons (ps_fld (pv 0) (pe_glob (v := .ref aS) rfl gS rfl) rfl)
    (pss_one (ps_fld (pv 0) (pe_lst pa_nil) rfl))), ?_⟩)
  · obtain ⟨d, dd, rfl, _⟩ := h
    rfl
  · obtain ⟨d, dd, rfl, hd, q⟩ := h
    obtain ⟨vs, hv, hpt⟩ := hP H
    have hlm : 1 < lim := by
      have := lim_1792k
      have h1 : 1000 * 1 ≤ 1000 * 2 ^ 1792 := Nat.mul_le_mul_left _ (Nat.two_pow_pos _)
      omega
    refine ⟨1, aP, vs, _, rfl, Nat.one_pos, hlm, .inr hv, hpt, first_sm, (by decide), fun h3 => absurd first_four (Nat.not_le.2 h3), fun _ H1 p s1 hpn => ?_⟩
    rw [first_square] at hpn
    have ndp : p ≠ d := fun z => by rw [z] at hpn; rw [hpn.1] at hd; cases hd
    refine ⟨_, rfl, d, CD, dd, _, rfl, s1 _ _ hd, V1.td.cl, V1.td.nP, (by show 0 < 1000; decide), ?_⟩
    rw [putF_one]
    refine ⟨_, rfl, d, CD, dd, _, rfl, upd_same, V1.td.cl, V1.td.nS, (by show 1 < 1000; decide), ?_⟩
    rw [putF_two]
    refine ⟨(by show 0 ≤ sizeLine; omega), fun k hk => ?_⟩
    have nkd : k ≠ d := fun z => by rw [z, upd_same] at hk; cases hk
    have nk1 : H1 k = none := by rw [upd_ne nkd, upd_ne nkd] at hk; exact hk
    refine ⟨_, rfl, d, CD, dd, _, rfl, (by rw [upd_ne nkd.symm]; exact upd_same), V1.td.cl, V1.td.nK, (by show 2 < 1000; decide), ?_⟩
    rw [putF_three]
    have e : upd (upd (upd (upd H1 d (.ins CD dd [("polygon", V.ref p)])) d (.ins CD dd [("polygon", V.ref p), ("steps", V.ref aS)])) k (.lst [])) d (.ins CD dd (deskF p (.ref aS) k)) =
        upd (upd H1 k (.lst [])) d (.ins CD dd (deskF p (.ref aS) k)) := by
      funext b
      by_cases e1 : b = d
      · rw [e1, upd_same, upd_same]
      · rw [upd_ne e1, upd_ne e1]
        by_cases e2 : b = k
        · rw [e2, upd_same, upd_same]
        · rw [upd_ne e2, upd_ne e2, upd_ne e1, upd_ne e1]
    refine q _ k ?_ (s1.free nk1) ?_
    · show DeskAt K CP CD (upd (upd (upd (upd H1 d (.ins CD dd [("polygon", V.ref p)])) d (.ins CD dd [("polygon", V.ref p), ("steps", V.ref aS)])) k (.lst [])) d (.ins CD dd (deskF p (.ref aS) k))) d k Sq71.fresh
      rw [e]
      have s6 : Same (strip d k H1) (upd (upd H1 k (.lst [])) d (.ins CD dd (deskF p (.ref aS) k))) := fun b o z => by
        have n1 : b ≠ d := fun y => by rw [y, strip_d] at z; cases z
        have n2 : b ≠ k := fun y => by rw [y, strip_k] at z; cases z
        rw [upd_ne n1, upd_ne n2]
        exact strip_same _ _ _ _ _ z
      have hpoly : PolyAt K CP (strip d k H1) p Sq71.square := by
        obtain ⟨h0, dx, l, ws, h1, h2, h3, h4⟩ := hpn
        have nl : l ≠ d := fun z => by rw [z, hd] at h4; cases h4
        have nlk : l ≠ k := fun z => by rw [z, nk1] at h2; cases h2
        have npk : p ≠ k := fun z => by rw [z, nk1] at h1; cases h1
        have hd1 := s1 _ _ hd
        have tt : ∀ {t : Addr} {xs : List V}, SqT K H1 t xs → SqT K (strip d k H1) t xs := by
          intro t xs z
          rcases z with (z | ⟨o, z⟩) | z
          · refine .inl (.inl ?_)
            rw [strip_at (fun y => by rw [y, hd1] at z; cases z) (fun y => by rw [y, nk1] at z; cases z)]
            exact z
          · refine .inl (.inr ⟨o, ?_⟩)
            rw [strip_at (fun y => by rw [y, hd1] at z; cases z) (fun y => by rw [y, nk1] at z; cases z)]
            exact z
          · exact .inr z
        have pp : ∀ {vs : List V} {ps : List Pt}, Pts K H1 vs ps → Pts K (strip d k H1) vs ps := by
          intro vs ps z
          induction z with
          | nil => exact .nil
          | cons a _ ih =>
            obtain ⟨t, e, r⟩ := a
            exact .cons ⟨t, e, tt r⟩ ih
        exact ⟨dx, l, ws, by rw [strip_at ndp npk]; exact h1, by rw [strip_at nl nlk]; exact h2, pp h3⟩
      exact ⟨dd, strip d k H1, p, .ref aS, [], upd_same, by rw [upd_ne nkd, upd_same], s6, strip_d, strip_k, hpoly, hS _, .nil⟩
    · intro b o hb hbd
      have hbk : b ≠ k := fun z => by rw [z] at hb; rw [s1 _ _ hb] at nk1; cases nk1
      show (upd (upd (upd (upd H1 d (.ins CD dd [("polygon", V.ref p)])) d (.ins CD dd [("polygon", V.ref p), ("steps", V.ref aS)])) k (.lst [])) d (.ins CD dd (deskF p (.ref aS) k))) b = some o
      rw [e, upd_ne hbd, upd_ne hbk]
      exact s1 _ _ hb
end
end Pw
end

section
namespace Pw
open PySem PySem.Spec PyProof.Rows L2
open Pg (Pt GoodP)
open Sq71 (House Now Steps Out)
abbrev sTar : Stmt := inClass (top 63) 8
abbrev sBst : Stmt := inClass (top 63) 9
abbrev sTc : Stmt := inClass (top 63) 10
abbrev sTi : Stmt := inClass (top 63) 11
abbrev sTru : Stmt := inClass (top 63) 12
abbrev sTf : Stmt := inClass (top 63) 13
abbrev sTh : Stmt := inClass (top 63) 14
/-- what the calls that only tell something lean on -/
structure Env3 (P : Program) (w : World) (K : PySem.W.Frag) (mg : Str → Option Value) (base : Heap) (CP : Addr) : Prop where
  own2 : Own2 mg
  mc : ∃ t, mg "MOST_COUNTED" = some (.int 60 t)
  mf : ∃ t, mg "MOST_FAR" = some (.int 1000000 t)
  lr : ∃ t, mg "LONGEST_RULE" = some (.int 36 t)
  ta : ∃ f fd, Dn K mg "twice_area" f fd ["polygon"] ∧ FnOk P w K mg base CX0 2 f fd ["polygon"] (spTa K CP)
  cb : ∃ f fd, Dn K mg "corners_between" f fd ["places"] ∧ FnOk P w K mg base CX0 4 f fd ["places"] (spCb K)
  pin : ∃ f fd, Dn K mg "points_in" f fd ["polygon", "size"] ∧ FnOk P w K mg base CX0 7 f fd ["polygon", "size"] (spPin K CP false)
  pwi : ∃ f fd, Dn K mg "points_within" f fd ["polygon", "size"] ∧ FnOk P w K mg base CX0 7 f fd ["polygon", "size"] (spPin K CP true)
  shr : ∃ f fd, Dn K mg "shared" f fd ["polygon"] ∧ FnOk P w K mg base CX0 1 f fd ["polygon"] (spShr K CP)
  bc : ∃ f fd, Dn K mg "b_and_c" f fd ["polygon", "rest"] ∧ FnOk P w K mg base CX0 8 f fd ["polygon", "rest"] (spBc K CP)
  so : ∃ f fd, Dn K mg "said_of" f fd ["polygon", "size"] ∧ FnOk P w K mg base CX0 9 f fd ["polygon", "size"] (spSo K CP)
  ce : ∃ f fd, Dn K mg "column_ends" f fd ["polygon"] ∧ FnOk P w K mg base CX0 6 f fd ["polygon"] (spCe K CP)
  ps : ∃ f fd, Dn K mg "polygon_by_steps" f fd ["polygon", "steps"] ∧ FnOk P w K mg base CX0 6 f fd ["polygon", "steps"] (spPs K CP)
  led : ∃ f fd, Dn K mg "led_to" f fd ["steps", "place"] ∧ FnOk P w K mg base CX0 1 f fd ["steps", "place"] (spLed K)
section
variable {P : Program} {w : World} {K : PySem.W.Frag} {mg : Str → Option Value} {base : Heap} {CP CD : Addr}
/-- a call that changes nothing -/
theorem tellend {H H' : Hp} {d k m : Addr} {h : House} {r : Out} {Q : VK} (D : DeskAt K CP CD H d k h) (s : Same H H') (hm : H m = none) (e : H' m = some (.lst ((r.value :: r.out).map V.int))) (a : Ans K CP CD H d k (h, r) Q) : Q (.ref m) H' :=
  a H' k m (D.mono s) (.inl rfl) (fr_same s) hm (D.d_ne hm).2 e
theorem shared_nat (D : Nat) : 2 * (D : Int) * (D : Int) = ((2 * (D * D) : Nat) : Int) := by
  rw [Int.natCast_mul, Int.natCast_mul, Int.mul_assoc]
  rfl
theorem shared_lim {D : Nat} (h : D ≤ 72000) : (2 * (D : Int) * (D : Int)).natAbs < lim := by
  refine lim_of ?_
  have := mul_bd (x := 2 * (D : Int)) (y := (D : Int)) (a := 144000) (b := 72000) (by omega) (by omega)
  omega
theorem shared_pos {D : Nat} (h : 0 < D) : 0 < 2 * (D * D) := Nat.mul_pos (by decide) (Nat.mul_pos h h)
/-- lowest terms over 2 D D -/
theorem low_shared (n : Int) {D : Nat} (hD : 0 < D) : [V.int (n / (Int.gcd n (2 * (D : Int) * (D : Int)) : Nat)), V.int (2 * (D : Int) * (D : Int) / (Int.gcd n (2 * (D : Int) * (D : Int)) : Nat))] = (fr2 n (2 * (D * D))).map V.int := by
  rw [shared_nat]
  exact low_frac n (shared_pos hD)
/-! ### tell_area -/
def spTar (K : PySem.W.Frag) (CP CD : Addr) : Sp := fun vs H Q _ => ∃ (d k : Addr) (h : House) (t : Nat), vs = [.ref d] ∧ DeskAt K CP CD H d k h ∧ GoodH h t ∧ t ≤ 40 ∧ Ans K CP CD H d k (h.step .area) Q
theorem scTar : FnScope ["self", "scale"] ["self"] (defScope sTar) := ⟨rfl, rfl, rfl, by decide +kernel, rfl, by decide +kernel, by decide +kernel⟩
theorem good_lm {g : Sq71.Polygon} {t : Nat} (hg : GoodP g t) : ∀ q ∈ g.cs, Lm q := fun q hq => by
  have b := hg.bd q hq
  have D1 := hg.D1
  exact ⟨lim_of (by omega), lim_of (by omega)⟩
theorem ok_tar (V1 : Env1 P w K mg base CP CD) (V3 : Env3 P w K mg base CP) {f : Addr} {fd : FuncData} (F : Fun K "tell_area" "Desk.tell_area" sTar f fd) : FnOk P w K mg base CX0 3 f fd ["self"] (spTar K CP CD) := by
  obtain ⟨_, _, nLt, gLt⟩ := V1.lt
  obtain ⟨_, _, nTa, gTa⟩ := V3.ta
  refine F.ok scTar (fun vs H Q E h => ?_) (fun cdv A outer s H vs Q E hr h => ⟨_,
    pss_cons (ps_set (i := 1) scTar.nd rfl (Or.inl rfl) (pe_fld (pe_fld (pv 0) rfl) rfl))
    (pss_one (ps_ret (pe_op op_cat (pe_lst (pa_cons pe_int pa_nil)) (pe_call gLt hr rfl nLt.g nLt.kp nLt.b .nil pass0 (pa_cons (pe_call gTa hr rfl nTa.g nTa.kp nTa.b .nil pass0 (pa_cons (pe_fld (pv 0) rfl) pa_nil))
      (pa_cons (pe_op op_mul (pe_op op_mul pe_int (pv 1)) (pv 1)) pa_nil)))))), ?_⟩)
  · obtain ⟨d, k, h, t, rfl, _⟩ := h
    rfl
  · obtain ⟨d, k, h, t, rfl, D, gh, ht, q⟩ := h
    have gp := gh.now
    have D0 := gp.D0
    have D1 := gp.D1
    have hlen := gp.len
    obtain ⟨dd, F0, p, sv, vs, hd, hk, sF, nd, nk, hpoly, hst, hrel⟩ := D.ex
    have hP := hpoly.mono sF
    obtain ⟨dx, l, cv, hp, hl, hpt⟩ := hP
    refine ⟨_, rfl, d, CD, dd, _, _, rfl, hd, V1.td.cl, V1.td.nP, dF_p _ _ _, p, CP, dx, _, _, rfl, hp, V1.tp.cl, V1.tp.nS, polF_scale _ _, ?_⟩
    refine ⟨(by show 1 ≤ sizeLine; decide), fun z hz => ?_⟩
    have s1 : Same H (upd H z (.lst [.int 0])) := same_new hz
    refine ⟨_, rfl, d, CD, dd, _, _, rfl, s1 _ _ hd, V1.td.cl, V1.td.nP, dF_p _ _ _, p, h.now.p, rfl, (hpoly.mono sF).mono s1, good_lm gp, by omega, fun H2 s2 => ?_⟩
    refine ⟨_, rfl, _, _, rfl, rfl, cmul_l' (by decide), _, rfl, _, _, rfl, rfl, cmul_r (by omega), _, _, rfl, (by show 0 < 2 * (h.now.p.D : Int) * (h.now.p.D : Int); exact Int.mul_pos (by omega) (by omega)), shared_lim (by omega), fun H3 r s3 nr hr3 => ?_⟩
    rw [low_shared _ D0] at hr3
    refine ⟨z, r, _, _, rfl, rfl, s3 _ _ (s2 _ _ upd_same), hr3, (by show 3 ≤ sizeLine; decide), fun o ho => ?_⟩
    have s13 := (s1.trans s2).trans s3
    exact tellend (r := ⟨0, fr2 (Sq68.twice h.now.p.cs) (2 * (h.now.p.D * h.now.p.D))⟩) D (s13.trans (same_new ho)) (s13.free ho) upd_same q
/-! ### by_steps -/
def spBst (K : PySem.W.Frag) (CP CD : Addr) : Sp := fun vs H Q _ => ∃ (d k : Addr) (h : House) (t : Nat), vs = [.ref d] ∧ DeskAt K CP CD H d k h ∧ GoodH h t ∧ t ≤ 40 ∧ ∀ H' r, Same H H' → PolyAt K CP H' r h.told → Tame h.told → Q (.ref r) H'
theorem scBst : FnScope ["self"] ["self"] (defScope sBst) := ⟨rfl, rfl, rfl, by decide +kernel, rfl, by decide +kernel, by decide +kernel⟩
theorem GoodH.st {h : House} {t : Nat} (g : GoodH h t) : GoodS h.now.s := (g.all _ List.mem_cons_self).2
theorem ok_bst (V1 : Env1 P w K mg base CP CD) (V3 : Env3 P w K mg base CP) {f : Addr} {fd : FuncData} (F : Fun K "by_steps" "Desk.by_steps" sBst f fd) : FnOk P w K mg base CX0 7 f fd ["self"] (spBst K CP CD) := by
  obtain ⟨_, _, nPs, gPs⟩ := V3.ps
  refine F.ok scBst (fun vs H Q E h => ?_) (fun cdv A outer s H vs Q E hr h => ⟨_,
    pss_one (ps_ret (pe_call gPs hr rfl nPs.g nPs.kp nPs.b .nil pass0 (pa_cons (pe_fld (pv 0) rfl) (pa_cons (pe_fld (pv 0) rfl) pa_nil)))), ?_⟩)
  · obtain ⟨d, k, h, t, rfl, _⟩ := h
    rfl
  · obtain ⟨d, k, h, t, rfl, D, gh, ht, q⟩ := h
    obtain ⟨dd, F0, p, sv, vs, hd, hk, sF, nd, nk, hpoly, hst, hrel⟩ := D.ex
    exact ⟨_, rfl, d, CD, dd, _, _, rfl, hd, V1.td.cl, V1.td.nP, dF_p _ _ _, _, rfl, d, CD, dd, _, _, rfl, hd, V1.td.cl, V1.td.nS, dF_s _ _ _, p, sv, h.now.p, h.now.s, t, rfl, hpoly.mono sF, hst.mono sF, gh.now, by omega, gh.st,
      fun H' r s1 hr1 => q H' r s1 hr1 (tame_told gh.now (by omega) gh.st)⟩
/-- the method by_steps -/
structure Bst (P : Program) (w : World) (K : PySem.W.Frag) (mg : Str → Option Value) (base : Heap) (CP CD : Addr) : Prop where
  m : ∃ f fd, Mn K CD "by_steps" f fd ["self"] ∧ FnOk P w K mg base CX0 7 f fd ["self"] (spBst K CP CD)
theorem b_no (p : Addr) (s : V) (k : Addr) : (deskF p s k).lookup ("by_steps" : Str) = none := dF_none p s k (by decide +kernel) (by decide +kernel) (by decide +kernel)
/-! ### tell_count -/
def spTc (K : PySem.W.Frag) (CP CD : Addr) : Sp := fun vs H Q _ => ∃ (d k : Addr) (h : House) (t n : Nat), vs = [.ref d, .int (n : Int)] ∧ DeskAt K CP CD H d k h ∧ GoodH h t ∧ t ≤ 40 ∧ Ans K CP CD H d k (h.step (.count n)) Q
theorem scTc : FnScope ["self", "k"] ["self", "k"] (defScope sTc) := ⟨rfl, rfl, rfl, by decide +kernel, rfl, by decide +kernel, by decide +kernel⟩
theorem count_out (h : House) (n : Nat) : h.step (.count n) = if 60 < n then (h, Sq71.says (-1)) else (h, Sq71.says (Sq71.count h.told n false)) := rfl
theorem ok_tc (V1 : Env1 P w K mg base CP CD) (V3 : Env3 P w K mg base CP) (VB : Bst P w K mg base CP CD) {f : Addr} {fd : FuncData} (F : Fun K "tell_count" "Desk.tell_count" sTc f fd) : FnOk P w K mg base CX0 8 f fd ["self", "k"] (spTc K CP CD) := by
  obtain ⟨_, _, nPi, gPi⟩ := V3.pin
  obtain ⟨_, _, mB, gB⟩ := VB.m
  obtain ⟨_, c1⟩ := V1.cst.oob
  obtain ⟨_, c2⟩ := V3.mc
  refine F.ok scTc (fun vs H Q E h => ?_) (fun cdv A outer s H vs Q E hr h => ⟨_,
    pss_cons (ps_if (pt_cmpR op_gt (pv 1) (pe_num rfl c2) (nomark _)) (pss_one (ps_ret (pe_lst (pa_cons (pe_num rfl c1) pa_nil)))) pss_nil)
    (pss_one (ps_ret (pe_lst (pa_cons (pe_call gPi hr rfl nPi.g nPi.kp nPi.b .nil pass0 (pa_cons (pe_meth0 (pv 0) V1.td.cl mB.m gB hr mB.b .nil pass0) (pa_cons (pv 1) pa_nil))) pa_nil)))), ?_⟩)
  · obtain ⟨d, k, h, t, n, rfl, _⟩ := h
    rfl
  · obtain ⟨d, k, h, t, n, rfl, D, gh, ht, q⟩ := h
    rw [count_out] at q
    refine ⟨_, rfl, _, _, rfl, rfl, _, rfl, ?_⟩
    by_cases hn : 60 < n
    · refine if_true_of (decide_eq_true (by omega)) ?_
      refine ⟨(by show 1 ≤ sizeLine; decide), fun r hr' => ?_⟩
      exact refuse D (Same.refl H) hr' (if_pos hn) q
    · refine if_false_of (decide_eq_false (by omega)) ?_
      rw [if_neg hn] at q
      obtain ⟨dd, F0, p, sv, vs, hd, hk, _⟩ := D.ex
      refine ⟨_, rfl, d, dd, _, rfl, hd, b_no _ _ _, d, k, h, t, rfl, D, gh, ht, fun H1 r s1 hr1 tm => ?_⟩
      refine ⟨_, rfl, r, h.told, n, rfl, hr1, tm, by omega, by simp, fun H2 s2 => ?_⟩
      refine ⟨(by show 1 ≤ sizeLine; decide), fun o ho => ?_⟩
      have s12 := s1.trans s2
      exact tellend (r := Sq71.says (Sq71.count h.told n false)) D (s12.trans (same_new ho)) (s12.free ho) upd_same q
/-! ### tell_inside -/
def spTi (K : PySem.W.Frag) (CP CD : Addr) : Sp := fun vs H Q _ => ∃ (d k : Addr) (h : House) (t n : Nat), vs = [.ref d, .int (n : Int)] ∧ DeskAt K CP CD H d k h ∧ GoodH h t ∧ t ≤ 40 ∧ Ans K CP CD H d k (h.step (.inside n)) Q
theorem scTi : FnScope ["self", "k"] ["self", "k"] (defScope sTi) := ⟨rfl, rfl, rfl, by decide +kernel, rfl, by decide +kernel, by decide +kernel⟩
theorem inside_out (h : House) (n : Nat) : h.step (.inside n) = if n = 0 ∨ 60 < n then (h, Sq71.says (-1)) else (h, Sq71.says (Sq71.count h.told n true)) := rfl
theorem ok_ti (V1 : Env1 P w K mg base CP CD) (V3 : Env3 P w K mg base CP) (VB : Bst P w K mg base CP CD) {f : Addr} {fd : FuncData} (F : Fun K "tell_inside" "Desk.tell_inside" sTi f fd) : FnOk P w K mg base CX0 8 f fd ["self", "k"] (spTi K CP CD) := by
  obtain ⟨_, _, nPi, gPi⟩ := V3.pwi
  obtain ⟨_, _, mB, gB⟩ := VB.m
  obtain ⟨_, c1⟩ := V1.cst.oob
  obtain ⟨_, c2⟩ := V3.mc
  refine F.ok scTi (fun vs H Q E h => ?_) (fun cdv A outer s H vs Q E hr h => ⟨_,
    pss_cons (ps_if (PW.pt (pw_or (pt_cmpR op_lt (pv 1) pe_int (nomark _)) (pw_or1 (pt_cmpR op_gt (pv 1) (pe_num rfl c2) (nomark _))))) (pss_one (ps_ret (pe_lst (pa_cons (pe_num rfl c1) pa_nil)))) pss_nil)
    (pss_one (ps_ret (pe_lst (pa_cons (pe_call gPi hr rfl nPi.g nPi.kp nPi.b .nil pass0 (pa_cons (pe_meth0 (pv 0) V1.td.cl mB.m gB hr mB.b .nil pass0) (pa_cons (pv 1) pa_nil))) pa_nil)))), ?_⟩)
  · obtain ⟨d, k, h, t, n, rfl, _⟩ := h
    rfl
  · obtain ⟨d, k, h, t, n, rfl, D, gh, ht, q⟩ := h
    rw [inside_out] at q
    have one : ∀ {H1 : Hp}, Same H H1 → n = 0 ∨ 60 < n → tLst (tCons (tC (.int (-1))) tNil) [] H1 Q := fun s1 hn => ⟨(by show 1 ≤ sizeLine; decide), fun r hr' => refuse D s1 hr' (if_pos hn) q⟩
    refine ⟨_, rfl, _, _, rfl, rfl, _, rfl, ?_⟩
    by_cases h1 : n < 1
    · refine if_true_of (decide_eq_true (by omega)) ?_
      exact if_true_of rfl (one (Same.refl H) (.inl (by omega)))
    · refine if_false_of (decide_eq_false (by omega)) ?_
      refine ⟨_, rfl, _, _, rfl, rfl, _, rfl, ?_⟩
      by_cases h2 : 60 < n
      · exact if_true_of (decide_eq_true (by omega)) (one (Same.refl H) (.inr h2))
      · refine if_false_of (decide_eq_false (by omega)) ?_
        rw [if_neg (show ¬ (n = 0 ∨ 60 < n) by omega)] at q
        obtain ⟨dd, F0, p, sv, vs, hd, hk, _⟩ := D.ex
        refine ⟨_, rfl, d, dd, _, rfl, hd, b_no _ _ _, d, k, h, t, rfl, D, gh, ht, fun H1 r s1 hr1 tm => ?_⟩
        refine ⟨_, rfl, r, h.told, n, rfl, hr1, tm, by omega, fun _ => by omega, fun H2 s2 => ?_⟩
        refine ⟨(by show 1 ≤ sizeLine; decide), fun o ho => ?_⟩
        have s12 := s1.trans s2
        exact tellend (r := Sq71.says (Sq71.count h.told n true)) D (s12.trans (same_new ho)) (s12.free ho) upd_same q
end
end Pw
end

section
namespace Pw
open PySem PySem.Spec PyProof.Rows L2
open Pg (Pt GoodP)
open Sq71 (House Now Steps Out)
section
variable {P : Program} {w : World} {K : PySem.W.Frag} {mg : Str → Option Value} {base : Heap} {CP CD : Addr}
/-! ### tell_rule -/
def sh2 (g : Sq71.Polygon) : Nat := 2 * (g.D * g.D)
def ruleOut (g : Sq71.Polygon) (n : Nat) : List Int := (List.range n).flatMap fun r => fr2 (Pg.ruleB g r) (sh2 g) ++ fr2 (Pg.ruleC g r) (sh2 g)
theorem ruleOut_more (g : Sq71.Polygon) (n : Nat) : ruleOut g (n + 1) = ruleOut g n ++ (fr2 (Pg.ruleB g n) (sh2 g) ++ fr2 (Pg.ruleC g n) (sh2 g)) := by
  unfold ruleOut
  rw [List.range_succ, List.flatMap_append, List.flatMap_singleton]
theorem ruleOut_len (g : Sq71.Polygon) : ∀ n : Nat, (ruleOut g n).length = 4 * n
  | 0 => rfl
  | n + 1 => by
    rw [ruleOut_more, List.length_append, ruleOut_len g n]
    show 4 * n + 4 = 4 * (n + 1)
    omega
theorem rule_out {h : House} {t : Nat} (gh : GoodH h t) : h.step .rule = if 36 < h.told.D then (h, Sq71.says (-5)) else (h, ⟨(h.told.D : Int), fr2 (Sq68.twice h.told.cs) (sh2 h.told) ++ ruleOut h.told h.told.D⟩) := by
  have tm := Pg.told_mono gh.st.d gh.now.D0 gh.now.cv
  obtain ⟨D0, a, L, z, U, m⟩ := tm
  show (if 36 < h.told.D then (h, Sq71.says (-5)) else (h, (⟨h.told.D, Sq71.fracs (h.told.area :: (Sq71.rule h.told).flatMap fun x => [x.1, x.2])⟩ : Out))) = _
  congr 3
  rw [Pg.rule_eq (p := h.told) D0 m]
  show fr2 _ _ ++ Sq71.fracs _ = _
  congr 1
  unfold Sq71.fracs ruleOut
  rw [List.flatMap_map, List.flatMap_assoc]
  rfl
def spTru (K : PySem.W.Frag) (CP CD : Addr) : Sp := fun vs H Q _ => ∃ (d k : Addr) (h : House) (t : Nat), vs = [.ref d] ∧ DeskAt K CP CD H d k h ∧ GoodH h t ∧ t ≤ 40 ∧ Ans K CP CD H d k (h.step .rule) Q
theorem scTru : FnScope ["self", "polygon", "told", "rest", "number"] ["self"] (defScope sTru) := ⟨rfl, rfl, rfl, by decide +kernel, rfl, by decide +kernel, by decide +kernel⟩
theorem ok_tru (V1 : Env1 P w K mg base CP CD) (V3 : Env3 P w K mg base CP) (VB : Bst P w K mg base CP CD) {f : Addr} {fd : FuncData} (F : Fun K "tell_rule" "Desk.tell_rule" sTru f fd) : FnOk P w K mg base CX0 9 f fd ["self"] (spTru K CP CD) := by
  obtain ⟨_, _, nLt, gLt⟩ := V1.lt
  obtain ⟨_, _, nTa, gTa⟩ := V3.ta
  obtain ⟨_, _, nSh, gSh⟩ := V3.shr
  obtain ⟨_, _, nBc, gBc⟩ := V3.bc
  obtain ⟨_, _, mB, gB⟩ := VB.m
  obtain ⟨_, c1⟩ := V1.cst.tf
  obtain ⟨_, c2⟩ := V3.lr
  refine F.ok scTru (fun vs H Q E h => ?_) (fun cdv A outer s H vs Q E hr h => ⟨_,
    pss_cons (ps_set (i := 1) scTru.nd rfl (Or.inl rfl) (pe_meth0 (pv 0) V1.td.cl mB.m gB (hr.mono (by decide)) mB.b .nil pass0))
    (pss_cons (ps_if (pt_cmpR op_gt (pe_fld (pv 1) rfl) (pe_num rfl c2) (nomark _)) (pss_one (ps_ret (pe_lst (pa_cons (pe_num rfl c1) pa_nil)))) pss_nil)
    (pss_cons (ps_set (i := 2) scTru.nd rfl (Or.inl rfl) (pe_op op_cat (pe_lst (pa_cons (pe_fld (pv 1) rfl) pa_nil)) (pe_call gLt (hr.mono (by decide)) rfl nLt.g nLt.kp nLt.b .nil pass0 (pa_cons (pe_call gTa (hr.mono (by decide)) rfl nTa.g nTa.kp nTa.b .nil pass0 (pa_cons (pv 1) pa_nil))
      (pa_cons (pe_call gSh (hr.mono (by decide)) rfl nSh.g nSh.kp nSh.b .nil pass0 (pa_cons (pv 1) pa_nil)) pa_nil)))))
    (pss_cons (ps_for PassesOwn.never rfl (pi_range1 rfl V1.own.range (pa_cons (pe_fld (pv 1) rfl) pa_nil)) (pg_name (i := 3) scTru.nd rfl (Or.inl rfl))
      (pss_one (ps_for PassesOwn.never rfl (pi_tup (pe_call gBc hr rfl nBc.g nBc.kp nBc.b .nil pass0 (pa_cons (pv 1) (pa_cons (pv 3) pa_nil)))) (pg_name (i := 4) scTru.nd rfl (Or.inl rfl))
        (pss_one (ps_expr (pe_bm PySem.F.plainAttrs_list PySem.F.slot_list_extend PySem.F.type_list_extend mt_extend (pv 2) (pa_cons (pe_call gLt (hr.mono (by decide)) rfl nLt.g nLt.kp nLt.b .nil pass0 (pa_cons (pv 4)
          (pa_cons (pe_call gSh (hr.mono (by decide)) rfl nSh.g nSh.kp nSh.b .nil pass0 (pa_cons (pv 1) pa_nil)) pa_nil))) pa_nil)))))))
    (pss_one (ps_ret (pv 2)))))), ?_⟩)
  · obtain ⟨d, k, h, t, rfl, _⟩ := h
    rfl
  · obtain ⟨d, k, h, t, rfl, D, gh, ht, q⟩ := h
    rw [rule_out gh] at q
    obtain ⟨dd, F0, p0, sv, vs, hd, hk, _⟩ := D.ex
    refine ⟨_, rfl, d, dd, _, rfl, hd, b_no _ _ _, d, k, h, t, rfl, D, gh, ht, fun H1 p s1 hP tm => ?_⟩
    generalize h.told = g at hP tm q
    have D0 := tm.fine.D0
    have D1 := tm.D1
    have hlen := tm.len
    have hP0 := hP
    obtain ⟨dx, l, cv, hp, hl, hpt⟩ := hP0
    refine ⟨_, rfl, p, CP, dx, _, _, rfl, hp, V1.tp.cl, V1.tp.nS, polF_scale _ _, _, _, rfl, rfl, _, rfl, ?_⟩
    by_cases h36 : 36 < g.D
    · refine if_true_of (decide_eq_true (by omega)) ?_
      refine ⟨(by show 1 ≤ sizeLine; decide), fun r hr' => ?_⟩
      exact refuse D s1 hr' (if_pos h36) q
    · refine if_false_of (decide_eq_false (by omega)) ?_
      rw [if_neg h36] at q
      have shp : 0 < 2 * (g.D : Int) * (g.D : Int) := Int.mul_pos (by omega) (by omega)
      have shl : (2 * (g.D : Int) * (g.D : Int)).natAbs < lim := shared_lim (by omega)
      refine ⟨_, rfl, p, CP, dx, _, _, rfl, hp, V1.tp.cl, V1.tp.nS, polF_scale _ _, (by show 1 ≤ sizeLine; decide), fun z hz => ?_⟩
      have s2 : Same H1 (upd H1 z (.lst [.int (g.D : Int)])) := same_new hz
      refine ⟨_, rfl, p, g, rfl, hP.mono s2, tm.near.lm, by omega, fun H3 s3 => ?_⟩
      have s23 := s2.trans s3
      refine ⟨_, rfl, p, g, rfl, hP.mono s23, by omega, _, _, rfl, shp, shl, fun H4 r s4 nr hr4 => ?_⟩
      rw [low_shared _ D0] at hr4
      refine ⟨z, r, _, _, rfl, rfl, s4 _ _ (s3 _ _ upd_same), hr4, (by show 3 ≤ sizeLine; decide), fun m hm => ?_⟩
      have s24 := s23.trans s4
      have hP4 := hP.mono s24
      have s5 := same_new (o := .lst ([V.int (g.D : Int)] ++ (fr2 (Sq68.twice g.cs) (2 * (g.D * g.D))).map V.int)) hm
      have hp5 := s5 _ _ (s24 _ _ hp)
      refine ⟨_, rfl, p, CP, dx, _, _, rfl, hp5, V1.tp.cl, V1.tp.nS, polF_scale _ _, (g.D : Int), rfl, by omega, by omega, ?_⟩
      refine for_range (lo := 0) (n := ((g.D : Int)).toNat)
        (fun i σ H' => ∃ (v u : Option V), σ = [some (.ref d), some (.ref p), some (.ref m), v, u] ∧ Same H4 H' ∧ H' m = some (.lst (((g.D : Int) :: (fr2 (Sq68.twice g.cs) (sh2 g) ++ ruleOut g i)).map V.int)))
        ⟨none, none, rfl, s5, by rw [upd_same, show ruleOut g 0 = [] from rfl, List.append_nil]; rfl⟩ ?_ ?_
      · rintro i σ H' hi ⟨v, u, rfl, s6, hm6⟩
        have e0 : (0 : Int) + (i : Int) = (i : Int) := by omega
        rw [e0]
        refine ⟨_, rfl, _, rfl, p, g, i, rfl, hP4.mono s6, tm, by omega, by omega, fun H7 tb s7 ntb htb => ?_⟩
        have htb' : SqT K H7 tb [.int (Pg.ruleB g i), .int (Pg.ruleC g i)] := .inl (.inl htb)
        have hm7 := s7 _ _ hm6
        have s67 := s6.trans s7
        refine ⟨tb, rfl, ⟨_, htb'⟩, for_tup (K := K) (a := tb) (xs := [.int (Pg.ruleB g i), .int (Pg.ruleC g i)])
          (fun j σ H' => ∃ (u : Option V), σ = [some (.ref d), some (.ref p), some (.ref m), some (.int (i : Int)), u] ∧ Same H4 H' ∧ H' tb = some (.tup [.int (Pg.ruleB g i), .int (Pg.ruleC g i)]) ∧ H' m = some (.lst (((g.D : Int) :: (fr2 (Sq68.twice g.cs) (sh2 g) ++ ruleOut g i ++ (([Pg.ruleB g i, Pg.ruleC g i].take j).flatMap fun z => fr2 z (sh2 g)))).map V.int)))
          ⟨_, rfl, s67, htb, by simpa using hm7⟩ (fun j σ H' _ ⟨_, _, _, h1, _⟩ => .inl (.inl h1)) ?_ ?_⟩
        · rintro j x σ H8 hj ⟨u, rfl, s8, htb8, hm8⟩
          obtain ⟨zz, hzz, rfl⟩ := map_get (f := V.int) (xs := [Pg.ruleB g i, Pg.ruleC g i]) hj
          have jl : j < 2 := (List.getElem?_eq_some_iff.1 hzz).1
          refine ⟨_, rfl, .inl ⟨rfl, _, .inl (.inl hm8)⟩, _, rfl, _, rfl, p, g, rfl, hP4.mono s8, by omega, _, _, rfl, shp, shl, fun H9 r9 s9 nr9 hr9 => ?_⟩
          rw [low_shared _ D0] at hr9
          have rl := ruleOut_len g i
          refine ⟨m, r9, _, _, rfl, rfl, s9 _ _ hm8, hr9, ?_, ?_⟩
          · rw [List.length_map, List.length_map, List.length_cons, List.length_append, List.length_append, rl]
            have tl : ((([Pg.ruleB g i, Pg.ruleC g i].take j).flatMap fun z => fr2 z (sh2 g))).length ≤ 4 := by
              match j, jl with
              | 0, _ => exact Nat.zero_le _
              | 1, _ => show 2 ≤ 4; decide
            exact Nat.le_trans (show 2 + 4 * i + _ + 1 + 2 ≤ 1000 by omega) (by decide)
          · refine ⟨_, rfl, same_mut (s8.trans s9) hm, ?_, ?_⟩
            · have ne : tb ≠ m := fun e => by rw [e, hm8] at htb8; cases htb8
              rw [upd_ne ne]
              exact s9 _ _ htb8
            · rw [upd_same, flat_more hzz]
              unfold sh2
              simp
        · rintro σ H8 ⟨u, rfl, s8, htb8, hm8⟩
          refine ⟨_, _, rfl, s8, ?_⟩
          rw [hm8, ruleOut_more]
          simp
      · rintro σ H' ⟨v, u, rfl, s6, hm6⟩
        refine ⟨_, rfl, ?_⟩
        have en : ((g.D : Int)).toNat = g.D := by omega
        rw [en] at hm6
        have sall := (s1.trans s24).trans s6
        exact tellend (r := ⟨(g.D : Int), fr2 (Sq68.twice g.cs) (sh2 g) ++ ruleOut g g.D⟩) D sall ((s1.trans s24).free hm) hm6 q
/-! ### tell_far -/
def sayN (g : Sq71.Polygon) (k : Int) : Int := Sq68.twice g.cs * (k * k) + Pg.ruleB g (k % (g.D : Int)).toNat * k + Pg.ruleC g (k % (g.D : Int)).toNat
theorem far_out {h : House} {t : Nat} (gh : GoodH h t) (n : Nat) : h.step (.far n) = if 1000000 < n then (h, Sq71.says (-1)) else if 36 < h.told.D then (h, Sq71.says (-5)) else (h, ⟨0, fr2 (sayN h.told n) (sh2 h.told) ++ fr2 (sayN h.told (-(n : Int))) (sh2 h.told)⟩) := by
  have tm := Pg.told_mono gh.st.d gh.now.D0 gh.now.cv
  obtain ⟨D0, a, L, z, U, m⟩ := tm
  show (if 10 ^ 6 < n then (h, Sq71.says (-1)) else if 36 < h.told.D then (h, Sq71.says (-5)) else (h, (⟨0, Sq71.fracs [Sq71.says_ h.told (Sq71.rule h.told) n, Sq71.says_ h.told (Sq71.rule h.told) (-(n : Int))]⟩ : Out))) = _
  rw [Pg.says_eq (p := h.told) D0 m, Pg.says_eq (p := h.told) D0 m]
  rfl
def spTf (K : PySem.W.Frag) (CP CD : Addr) : Sp := fun vs H Q _ => ∃ (d k : Addr) (h : House) (t n : Nat), vs = [.ref d, .int (n : Int)] ∧ DeskAt K CP CD H d k h ∧ GoodH h t ∧ t ≤ 40 ∧ Ans K CP CD H d k (h.step (.far n)) Q
theorem scTf : FnScope ["self", "k", "polygon", "upward"] ["self", "k"] (defScope sTf) := ⟨rfl, rfl, rfl, by decide +kernel, rfl, by decide +kernel, by decide +kernel⟩
theorem ok_tf (V1 : Env1 P w K mg base CP CD) (V3 : Env3 P w K mg base CP) (VB : Bst P w K mg base CP CD) {f : Addr} {fd : FuncData} (F : Fun K "tell_far" "Desk.tell_far" sTf f fd) : FnOk P w K mg base CX0 10 f fd ["self", "k"] (spTf K CP CD) := by
  obtain ⟨_, _, nLt, gLt⟩ := V1.lt
  obtain ⟨_, _, nSh, gSh⟩ := V3.shr
  obtain ⟨_, _, nSo, gSo⟩ := V3.so
  obtain ⟨_, _, mB, gB⟩ := VB.m
  obtain ⟨_, c1⟩ := V1.cst.tf
  obtain ⟨_, c2⟩ := V3.lr
  obtain ⟨_, c3⟩ := V3.mf
  obtain ⟨_, c4⟩ := V1.cst.oob
  refine F.ok scTf (fun vs H Q E h => ?_) (fun cdv A outer s H vs Q E hr h => ⟨_,
    pss_cons (ps_if (pt_cmpR op_gt (pv 1) (pe_num rfl c3) (nomark _)) (pss_one (ps_ret (pe_lst (pa_cons (pe_num rfl c4) pa_nil)))) pss_nil)
    (pss_cons (ps_set (i := 2) scTf.nd rfl (Or.inl rfl) (pe_meth0 (pv 0) V1.td.cl mB.m gB (hr.mono (by decide)) mB.b .nil pass0))
    (pss_cons (ps_if (pt_cmpR op_gt (pe_fld (pv 2) rfl) (pe_num rfl c2) (nomark _)) (pss_one (ps_ret (pe_lst (pa_cons (pe_num rfl c1) pa_nil)))) pss_nil)
    (pss_cons (ps_set (i := 3) scTf.nd rfl (Or.inl rfl) (pe_call gLt (hr.mono (by decide)) rfl nLt.g nLt.kp nLt.b .nil pass0 (pa_cons (pe_call gSo hr rfl nSo.g nSo.kp nSo.b .nil pass0 (pa_cons (pv 2) (pa_cons (pv 1) pa_nil)))
      (pa_cons (pe_call gSh (hr.mono (by decide)) rfl nSh.g nSh.kp nSh.b .nil pass0 (pa_cons (pv 2) pa_nil)) pa_nil))))
    (pss_one (ps_ret (pe_op op_cat (pe_op op_cat (pe_lst (pa_cons pe_int pa_nil)) (pv 3)) (pe_call gLt (hr.mono (by decide)) rfl nLt.g nLt.kp nLt.b .nil pass0 (pa_cons (pe_call gSo hr rfl nSo.g nSo.kp nSo.b .nil pass0 (pa_cons (pv 2) (pa_cons (pe_un un_neg (pv 1)) pa_nil)))
      (pa_cons (pe_call gSh (hr.mono (by decide)) rfl nSh.g nSh.kp nSh.b .nil pass0 (pa_cons (pv 2) pa_nil)) pa_nil))))))))), ?_⟩)
  · obtain ⟨d, k, h, t, n, rfl, _⟩ := h
    rfl
  · obtain ⟨d, k, h, t, n, rfl, D, gh, ht, q⟩ := h
    rw [far_out gh] at q
    refine ⟨_, rfl, _, _, rfl, rfl, _, rfl, ?_⟩
    by_cases hn : 1000000 < n
    · refine if_true_of (decide_eq_true (by omega)) ?_
      refine ⟨(by show 1 ≤ sizeLine; decide), fun r hr' => ?_⟩
      exact refuse D (Same.refl H) hr' (if_pos hn) q
    · refine if_false_of (decide_eq_false (by omega)) ?_
      rw [if_neg hn] at q
      obtain ⟨dd, F0, p0, sv, vs, hd, hk, _⟩ := D.ex
      refine ⟨_, rfl, d, dd, _, rfl, hd, b_no _ _ _, d, k, h, t, rfl, D, gh, ht, fun H1 p s1 hP tm => ?_⟩
      generalize h.told = g at hP tm q
      have D0 := tm.fine.D0
      have D1 := tm.D1
      have hP0 := hP
      obtain ⟨dx, l, cv, hp, hl, hpt⟩ := hP0
      refine ⟨_, rfl, p, CP, dx, _, _, rfl, hp, V1.tp.cl, V1.tp.nS, polF_scale _ _, _, _, rfl, rfl, _, rfl, ?_⟩
      by_cases h36 : 36 < g.D
      · refine if_true_of (decide_eq_true (by omega)) ?_
        refine ⟨(by show 1 ≤ sizeLine; decide), fun r hr' => ?_⟩
        exact refuse D s1 hr' (if_pos h36) q
      · refine if_false_of (decide_eq_false (by omega)) ?_
        rw [if_neg h36] at q
        have shp : 0 < 2 * (g.D : Int) * (g.D : Int) := Int.mul_pos (by omega) (by omega)
        have shl : (2 * (g.D : Int) * (g.D : Int)).natAbs < lim := shared_lim (by omega)
        refine ⟨_, rfl, _, rfl, p, g, (n : Int), rfl, hP, tm, by omega, by omega, fun H2 s2 => ?_⟩
        refine ⟨_, rfl, p, g, rfl, hP.mono s2, by omega, _, _, rfl, shp, shl, fun H3 r s3 nr hr3 => ?_⟩
        rw [low_shared _ D0] at hr3
        have s23 := s2.trans s3
        refine ⟨(by show 1 ≤ sizeLine; decide), fun z hz => ?_⟩
        have s4 : Same H3 (upd H3 z (.lst [.int 0])) := same_new hz
        refine ⟨_, rfl, z, r, _, _, rfl, rfl, upd_same, s4 _ _ hr3, (by show 3 ≤ sizeLine; decide), fun y hy => ?_⟩
        have s5 := same_new (o := .lst ([V.int 0] ++ (fr2 (sayN g n) (2 * (g.D * g.D))).map V.int)) hy
        have s25 := (s23.trans s4).trans s5
        refine ⟨_, rfl, _, rfl, _, rfl, p, g, (-(n : Int)), rfl, hP.mono s25, tm, by omega, by omega, fun H6 s6 => ?_⟩
        refine ⟨_, rfl, p, g, rfl, (hP.mono s25).mono s6, by omega, _, _, rfl, shp, shl, fun H7 r7 s7 nr7 hr7 => ?_⟩
        rw [low_shared _ D0] at hr7
        refine ⟨y, r7, _, _, rfl, rfl, s7 _ _ (s6 _ _ upd_same), hr7, (by show 5 ≤ sizeLine; decide), fun o ho => ?_⟩
        have s17 := (s1.trans s25).trans (s6.trans s7)
        exact tellend (r := ⟨0, fr2 (sayN g n) (sh2 g) ++ fr2 (sayN g (-(n : Int))) (sh2 g)⟩) D (s17.trans (same_new ho)) (s17.free ho) (by rw [upd_same]; simp [sayN, sh2]) q
end
end Pw
end

section
namespace Pw
open PySem PySem.Spec PyProof.Rows L2
open Pg (Pt GoodP)
open Sq71 (House Now Steps Out)
section
variable {P : Program} {w : World} {K : PySem.W.Frag} {mg : Str → Option Value} {base : Heap} {CP CD : Addr}
/-! ### tell_hull -/
def endsOf (g : Sq71.Polygon) : List Pt := Pg.endsN (Pg.colA g.D 1 0 (Pg.sumMin g.cs)) (Pg.RB g 1 false) (Pg.RA g 1 false) (Pg.wide g 1 false).toNat
def ptsOut (l : List Pt) : List Int := l.flatMap fun p => [p.1, p.2]
theorem ptsOut_more {l : List Pt} {i : Nat} {c : Pt} (h : l[i]? = some c) : ptsOut (l.take (i + 1)) = ptsOut (l.take i) ++ [c.1, c.2] := flat_more h
theorem ptsOut_len : ∀ l : List Pt, (ptsOut l).length = 2 * l.length
  | [] => rfl
  | c :: l => by
    have e : (ptsOut (c :: l)).length = 2 + (ptsOut l).length := by
      show ([c.1, c.2] ++ ptsOut l).length = _
      rw [List.length_append]
      rfl
    rw [e, ptsOut_len l, List.length_cons]
    omega
theorem hull_out {h : House} {t : Nat} (gh : GoodH h t) : h.step .hull = (h, ⟨((Sq68.corners ((endsOf h.told).map (ledTo h.now.s))).length : Int), ptsOut (Sq68.corners ((endsOf h.told).map (ledTo h.now.s)))⟩) := by
  have fn := Pg.told_fine gh.st.d gh.now.D0 gh.now.cv
  have e := Pg.hull_eq fn
  show (h, (⟨((Sq71.hull h.now.s h.now.p).length : Int), (Sq71.hull h.now.s h.now.p).flatMap fun p => [p.1, p.2]⟩ : Out)) = _
  rw [e]
  rfl
theorem ends_facts {h : House} {t : Nat} (gh : GoodH h t) (ht : t ≤ 40) : Pg.wide h.told 1 false ≤ 289 ∧ (endsOf h.told).length ≤ 578 ∧ ∀ q ∈ endsOf h.told, q.1.natAbs ≤ 100000000000000000000000 ∧ q.2.natAbs ≤ 100000000000000000000000 := by
  have fn := Pg.told_fine gh.st.d gh.now.D0 gh.now.cv
  have tm : Tame h.told := tame_told gh.now (by omega) gh.st
  have w1 : Pg.wide h.told 1 false ≤ 289 := Pg.fine_wide fn (M := 288) (Pg.told_wide gh.st.d gh.st.b gh.now)
  have cb : (Pg.colA h.told.D 1 0 (Pg.sumMin h.told.cs)).natAbs ≤ 200000000 := (col_bd tm (k := 1) (by decide) false).1
  refine ⟨w1, ?_, ?_⟩
  · have := Pg.endsN_len (Pg.colA h.told.D 1 0 (Pg.sumMin h.told.cs)) (Pg.RB h.told 1 false) (Pg.RA h.told 1 false) (Pg.wide h.told 1 false).toNat
    unfold endsOf
    omega
  · have eb := Pg.ends_bd fn (M := 1200000) (X := 300000000) (Dm := 72000) tm.bd tm.D1 fun i hi => by
      have hi : i < (Pg.wide h.told 1 false).toNat := hi
      show (Pg.colA h.told.D 1 0 (Pg.sumMin h.told.cs) + (i : Int)).natAbs ≤ 300000000
      omega
    intro q hq
    have := eb q hq
    omega
def spTh (K : PySem.W.Frag) (CP CD : Addr) : Sp := fun vs H Q _ => ∃ (d k : Addr) (h : House) (t : Nat), vs = [.ref d] ∧ DeskAt K CP CD H d k h ∧ GoodH h t ∧ t ≤ 40 ∧ Ans K CP CD H d k (h.step .hull) Q
theorem scTh : FnScope ["self", "ends", "corners", "told", "corner", "place"] ["self"] (defScope sTh) := ⟨rfl, rfl, rfl, by decide +kernel, rfl, by decide +kernel, by decide +kernel⟩
theorem ok_th (V1 : Env1 P w K mg base CP CD) (V3 : Env3 P w K mg base CP) (VB : Bst P w K mg base CP CD) {f : Addr} {fd : FuncData} (F : Fun K "tell_hull" "Desk.tell_hull" sTh f fd) : FnOk P w K mg base CX0 8 f fd ["self"] (spTh K CP CD) := by
  obtain ⟨_, _, nCe, gCe⟩ := V3.ce
  obtain ⟨_, _, nCb, gCb⟩ := V3.cb
  obtain ⟨_, _, nLe, gLe⟩ := V3.led
  obtain ⟨_, _, mB, gB⟩ := VB.m
  refine F.ok scTh (fun vs H Q E h => ?_) (fun cdv A outer s H vs Q E hr h => ⟨_,
    pss_cons (ps_set (i := 1) scTh.nd rfl (Or.inl rfl) (pe_call gCe (hr.mono (by decide)) rfl nCe.g nCe.kp nCe.b .nil pass0 (pa_cons (pe_meth0 (pv 0) V1.td.cl mB.m gB hr mB.b .nil pass0) pa_nil)))
    (pss_cons (ps_set (i := 2) scTh.nd rfl (Or.inl rfl) (pe_call gCb (hr.mono (by decide)) rfl nCb.g nCb.kp nCb.b .nil pass0 (pa_cons
      (pe_lc (own := [("place", 5)]) (g := gName 5) (tt := tYes) (te := tCall (spLed K) [] E0 (tCons (tFld K (tVar 0) "steps") (tCons (tVar 5) tNil))) rfl scTh.nd (pi_list (pv 1))
        (blkOk_by (N := ["self", "ends", "corners", "told", "corner", "place"]) (sc := defScope sTh) (by decide +kernel))
        (fun _ _ _ _ _ => pg_name (i := 5) scTh.nd rfl (Or.inl rfl)) (fun _ _ _ _ _ => pts_nil)
        (fun _ _ _ _ _ => pe_call gLe (hr.mono (by decide)) rfl nLe.g nLe.kp nLe.b .nil pass0 (pa_cons (pe_fld (pv 0) rfl) (pa_cons (pv 5) pa_nil)))) pa_nil)))
    (pss_cons (ps_set (i := 3) scTh.nd rfl (Or.inl rfl) (pe_lst (pa_cons (pe_callB call_len_seq (by rfl) V1.own.len PySem.boot_len (pa_cons (pv 2) pa_nil)) pa_nil)))
    (pss_cons (ps_for PassesOwn.never rfl (pi_list (pv 2)) (pg_name (i := 4) scTh.nd rfl (Or.inl rfl))
      (pss_one (ps_expr (pe_bm PySem.F.plainAttrs_list PySem.F.slot_list_extend PySem.F.type_list_extend mt_extT (pv 3) (pa_cons (pv 4) pa_nil)))))
    (pss_one (ps_ret (pv 3)))))), ?_⟩)
  · obtain ⟨d, k, h, t, rfl, _⟩ := h
    rfl
  · obtain ⟨d, k, h, t, rfl, D, gh, ht, q⟩ := h
    rw [hull_out gh] at q
    obtain ⟨w1, el, eb⟩ := ends_facts gh ht
    have b6 := gh.st.b
    obtain ⟨dd, F0, p0, sv, vs, hd, hk, sF, nd, nk, hpoly, hst, hrel⟩ := D.ex
    have hst := hst.mono sF
    refine ⟨_, rfl, d, dd, _, rfl, hd, b_no _ _ _, d, k, h, t, rfl, D, gh, ht, fun H1 p s1 hP tm => ?_⟩
    refine ⟨p, h.told, rfl, hP, tm, by omega, fun H2 e ev s2 ne hev pev => ?_⟩
    have pev : Pts K H2 ev (endsOf h.told) := pev
    generalize endsOf h.told = es at pev q el eb
    have s12 := s1.trans s2
    refine ⟨_, rfl, e, rfl, ⟨_, .inl (.inl hev)⟩, fun m hm => ?_⟩
    refine lc_all (walk_list (xs := ev)) (fun i H' => Same H2 H' ∧ ∃ vs, H' m = some (.lst vs) ∧ Pts K H' vs ((es.take i).map (ledTo h.now.s))) ⟨same_new hm, [], upd_same, .nil⟩
      (fun i H' _ h => .inl (.inl (h.1 _ _ hev))) ?_ ?_
    · rintro i x H3 H4 hi ⟨s3, vs', hv, pvs⟩ ⟨rfl, ex⟩
      obtain ⟨c, hc, pc⟩ := pev.get ex
      refine ⟨rfl, ?_⟩
      have s13 := s12.trans s3
      refine ⟨_, rfl, d, CD, dd, _, _, rfl, s13 _ _ hd, V1.td.cl, V1.td.nS, dF_s _ _ _, _, rfl, sv, x, h.now.s, c, rfl, hst.mono s13, pc.mono s3, b6, fun H5 t5 s5 n5 ht5 => ?_⟩
      have hv5 := s5 _ _ hv
      refine ⟨vs', hv5, ?_, same_mut (s3.trans s5) hm, _, upd_same, ?_⟩
      · rw [pvs.length, List.length_map, List.length_take]
        exact Nat.lt_of_le_of_lt (show min i es.length ≤ 1000 by omega) (by decide)
      · rw [map_more hc]
        exact ((pvs.mono s5).upd hv5).snoc (P2.upd hv5 ⟨t5, rfl, .inl (.inl ht5)⟩)
    · rintro H3 ⟨s3, lv, hv, pvs⟩
      rw [pev.length, List.take_length] at pvs
      have sm : ∀ q ∈ es.map (ledTo h.now.s), Sm q := by
        intro q hq
        obtain ⟨c, hc, rfl⟩ := List.mem_map.1 hq
        have bc := eb c hc
        have a1 := Pg.abs_mul_le bc.1 b6.1
        have a2 := Pg.abs_mul_le bc.2 b6.2.2.1
        have a3 := Pg.abs_mul_le bc.1 b6.2.1
        have a4 := Pg.abs_mul_le bc.2 b6.2.2.2
        refine ⟨small_of ?_, small_of ?_⟩
        · show (c.1 * h.now.s.u.1 + c.2 * h.now.s.v.1).natAbs < _
          omega
        · show (c.1 * h.now.s.u.2 + c.2 * h.now.s.v.2).natAbs < _
          omega
      refine ⟨m, lv, es.map (ledTo h.now.s), rfl, .inl ⟨.inl (.inl hv), by rw [List.length_map]; omega⟩, pvs, sm, fun H4 cc cv s4 ncc hcc pcc => ?_⟩
      have clen := Pg.corners_len (es.map (ledTo h.now.s))
      rw [List.length_map] at clen
      generalize Sq68.corners (es.map (ledTo h.now.s)) = cs at pcc q clen
      have s14 := (s12.trans s3).trans s4
      refine ⟨_, rfl, cc, cv, rfl, .inl (.inl (.inl hcc)), (by show 1 ≤ sizeLine; decide), fun o ho => ?_⟩
      have s5 := same_new (o := .lst [.int (cv.length : Int)]) ho
      refine ⟨_, rfl, cc, rfl, ⟨_, .inl (.inl (s5 _ _ hcc))⟩, ?_⟩
      refine for_list (K := K) (a := cc) (xs := cv)
        (fun i σ H' => ∃ (u : Option V), σ = [some (.ref d), some (.ref e), some (.ref cc), some (.ref o), u, none] ∧ Same H4 H' ∧ H' o = some (.lst (((cs.length : Int) :: ptsOut (cs.take i)).map V.int)))
        ⟨none, rfl, s5, by rw [upd_same, pcc.length]; rfl⟩ (fun i σ H' _ ⟨_, _, s6, _⟩ => .inl (.inl (s6 _ _ hcc))) ?_ ?_
      · rintro i x σ H' hi ⟨u, rfl, s6, ho6⟩
        obtain ⟨c, hc, tc, rfl, htc⟩ := pcc.get hi
        have pl := ptsOut_len (cs.take i)
        rw [List.length_take] at pl
        refine ⟨_, rfl, .inl ⟨rfl, _, .inl (.inl ho6)⟩, _, rfl, o, tc, _, _, rfl, rfl, ho6, same_t s6 htc, ?_, ?_⟩
        · rw [List.length_map, List.length_cons, pl]
          exact Nat.le_trans (show 2 * min i cs.length + 1 + 2 ≤ 3000 by omega) (by decide)
        · refine ⟨_, rfl, same_mut s6 ho, ?_⟩
          rw [upd_same, ptsOut_more hc]
          simp
      · rintro σ H' ⟨u, rfl, s6, ho6⟩
        rw [pcc.length, List.take_length] at ho6
        refine ⟨_, rfl, ?_⟩
        exact tellend (r := ⟨(cs.length : Int), ptsOut cs⟩) D (s14.trans s6) (s14.free ho) ho6 q
end
end Pw
end

section
namespace Pw
open Pg (Pt Tri GoodP Conv Bdd)
open Sq71 (House Now Steps Out)
theorem GoodH.more {h : House} {t u : Nat} (g : GoodH h t) (hu : t ≤ u) : GoodH h u := ⟨fun n hn => ⟨(g.all n hn).1.more hu, (g.all n hn).2⟩, g.len⟩
theorem good_to {h : House} {t : Nat} {n : Now} (g : GoodH h t) (hn : GoodP n.p (t + 1)) (hs : GoodS n.s) : GoodH (h.to n) (t + 1) := by
  refine ⟨fun m hm => ?_, ?_⟩
  · rcases List.mem_cons.1 hm with e | hm
    · rw [e]; exact ⟨hn, hs⟩
    · have := g.all m (List.mem_of_mem_take hm)
      exact ⟨this.1.more (by omega), this.2⟩
  · show ((h.now :: h.past).take 20).length ≤ 20
    rw [List.length_take]
    omega
theorem first_good : GoodS ⟨(1, 0), (0, 1)⟩ := ⟨by decide, by decide⟩
theorem far_false {k : Nat} {l : List Int} (h : ¬ Sq71.far_ k l = true) : ∀ z ∈ l, z.natAbs ≤ k := by
  intro z hz
  have : Sq71.far_ k l = false := by simpa using h
  have := List.any_eq_false.1 this z hz
  simp at this
  omega
theorem moved_good {g : Sq71.Polygon} {t : Nat} {r u : Int} (hg : GoodP g t) (h : ¬ ((moved g r u).cs.any fun c => beyond [c.1, c.2] (100 * (g.D : Int))) = true) : GoodP (moved g r u) t := by
  refine ⟨hg.D0, hg.D1, ?_, ?_, ?_, ?_⟩
  · exact Pg.conv_mv hg.cv (r * g.D) (u * g.D)
  · intro c hc
    have hb : ((moved g r u).cs.any fun c => beyond [c.1, c.2] (100 * (g.D : Int))) = false := by simpa using h
    have := List.any_eq_false.1 hb c hc
    have e : (100 * (g.D : Int)) = ((100 * g.D : Nat) : Int) := by omega
    rw [e, beyond_far] at this
    simp [Sq71.far_] at this
    exact this
  · show (g.cs.map _).length ≤ _
    rw [List.length_map]
    exact hg.len
  · obtain ⟨mx, my, hbx⟩ := hg.bx
    refine ⟨mx + r, my + u, fun c hc => ?_⟩
    obtain ⟨d, hd, rfl⟩ := List.mem_map.1 hc
    have := hbx d hd
    show (d.1 + r * (g.D : Int) - (mx + r) * (g.D : Int)).natAbs ≤ 12 * g.D ∧ (d.2 + u * (g.D : Int) - (my + u) * (g.D : Int)).natAbs ≤ 12 * g.D
    rw [Int.add_mul, Int.add_mul]
    omega
theorem good_step {h : House} {t : Nat} (g : GoodH h t) (c : Sq71.Call) : GoodH (h.step c).1 (t + 1) := by
  have same : GoodH h (t + 1) := g.more (by omega)
  cases c with
  | begin_ q ns ms =>
    by_cases hq : q < 1 ∨ 6 < q
    · rw [begin_q hq]; exact same
    · by_cases hl : ns.length ≠ ms.length ∨ ns.length % 2 ≠ 0
      · rw [begin_lists hq hl]; exact same
      · have h1 : ns.length = ms.length := by omega
        rw [begin_yes hq h1 (by omega)]
        split
        · exact same
        · rename_i hb
          split
          · exact same
          · rename_i h3
            have hb' : ¬ ((pls ns ms).any fun p => beyond [p.1, p.2] (12 * (q : Int))) = true := fun z => hb (.inr (.inr z))
            have hbd : ∀ p ∈ pls ns ms, p.1.natAbs ≤ 12 * q ∧ p.2.natAbs ≤ 12 * q := by
              intro p hp
              have hb2 : ((pls ns ms).any fun p => beyond [p.1, p.2] (12 * (q : Int))) = false := by simpa using hb'
              have := List.any_eq_false.1 hb2 p hp
              have e : (12 * (q : Int)) = ((12 * q : Nat) : Int) := by omega
              rw [e, beyond_far] at this
              simp [Sq71.far_] at this
              exact this
            have ht : Sq68.twice (Sq68.corners (pls ns ms)) ≠ 0 := fun z => h3 ((Pg.around_flat _).2 z)
            have gp := Pg.good_begin (q := q) (l := pls ns ms) (by omega) (by omega) (by omega) hbd ht
            refine ⟨fun n hn => ?_, by simp⟩
            have : n = _ := List.mem_singleton.1 hn
            rw [this]
            exact ⟨gp.more (by omega), first_good⟩
  | steps ns ms =>
    by_cases hl : ns.length = 4 ∧ ms.length = 4
    · obtain ⟨x1, x2, x3, x4, rfl⟩ := four_of hl.1
      obtain ⟨y1, y2, y3, y4, rfl⟩ := four_of hl.2
      rw [steps_yes]
      split
      · exact same
      · rename_i hf
        split
        · exact same
        · rename_i h0
          have := far_false hf
          refine good_to g (g.now.more (by omega)) ⟨⟨?_, ?_, ?_, ?_⟩, h0⟩
          · exact this _ (by simp)
          · exact this _ (by simp)
          · exact this _ (by simp)
          · exact this _ (by simp)
    · rw [steps_no hl]; exact same
  | cut cp cm ns ms =>
    by_cases hl : ns.length = 2 ∧ ms.length = 2
    · obtain ⟨x, y, rfl⟩ := two_of hl.1
      obtain ⟨z, u, rfl⟩ := two_of hl.2
      rw [cut_yes g.now.D0]
      split
      · exact same
      · split
        · exact same
        · rename_i h3
          split
          · exact same
          · rename_i hD
            have ht : Sq68.twice (Sq68.corners (Pg.placesOf (cutL h.now.p ((x : Int) - z) ((y : Int) - u) ((cp : Int) - cm)))) ≠ 0 := fun z => h3 ((Pg.around_flat _).2 z)
            exact good_to g (Pg.good_cut g.now ht (Nat.not_lt.1 hD)) (g.all _ List.mem_cons_self).2
    · rw [cut_no hl]; exact same
  | shift ns ms =>
    by_cases hl : ns.length = 2 ∧ ms.length = 2
    · obtain ⟨x, y, rfl⟩ := two_of hl.1
      obtain ⟨z, u, rfl⟩ := two_of hl.2
      rw [shift_yes]
      split
      · exact same
      · rename_i hf
        exact good_to g ((moved_good g.now fun z => hf (.inr z)).more (by omega)) (g.all _ List.mem_cons_self).2
    · rw [shift_no hl]; exact same
  | undo =>
    obtain ⟨nw, past⟩ := h
    cases past with
    | nil => exact same
    | cons x l =>
      refine ⟨fun n hn => ?_, ?_⟩
      · exact same.all n (List.mem_cons_of_mem _ hn)
      · have : (x :: l).length ≤ 20 := g.len
        simp at this
        show l.length ≤ 20
        omega
  | corners => exact same
  | area => exact same
  | count k =>
    show GoodH (if 60 < k then (h, Sq71.says (-1)) else (h, Sq71.says (Sq71.count h.told k false))).1 (t + 1)
    split <;> exact same
  | inside k =>
    show GoodH (if k = 0 ∨ 60 < k then (h, Sq71.says (-1)) else (h, Sq71.says (Sq71.count h.told k true))).1 (t + 1)
    split <;> exact same
  | rule =>
    show GoodH (if Sq71.ROUND < h.told.D then (h, Sq71.says (-5)) else (h, (⟨h.told.D, Sq71.fracs (h.told.area :: (Sq71.rule h.told).flatMap fun x => [x.1, x.2])⟩ : Out))).1 (t + 1)
    split <;> exact same
  | far k =>
    show GoodH (if 10 ^ 6 < k then (h, Sq71.says (-1)) else if Sq71.ROUND < h.told.D then (h, Sq71.says (-5)) else (h, (⟨0, Sq71.fracs [Sq71.says_ h.told (Sq71.rule h.told) k, Sq71.says_ h.told (Sq71.rule h.told) (-(k : Int))]⟩ : Out))).1 (t + 1)
    split
    · exact same
    · split <;> exact same
  | hull => exact same
theorem fresh_good : GoodH Sq71.fresh 0 := by
  refine ⟨fun n hn => ?_, by decide⟩
  have : n = _ := List.mem_singleton.1 hn
  rw [this]
  refine ⟨?_, first_good⟩
  show GoodP Sq71.square 0
  have e : Sq71.square = Pg.red 1 (Sq68.corners [(0, 0), (1, 0), (1, 1), (0, 1)]) := first_square.symm
  rw [e]
  refine Pg.good_begin (by decide) (by decide) (by decide) (by decide) (by decide +kernel)
end Pw
end

section
namespace Pw
open PySem PySem.Spec PyProof.Rows L2
/-- a written dict whose keys are whole numbers -/
def KDi (K : PySem.W.Frag) (a : Addr) (i : Int) (v : V) : Prop :=
  ∃ es n u, K.lookup a = some ⟨.type "dict", none, .dict es n, #[]⟩ ∧ (∀ e ∈ es.toList, ∃ j t, e.key = .int j t ∧ e.hash = hashInt j) ∧ findBy Value.isInt es i = some u ∧ RelV v u
def rIxDi (K : PySem.W.Frag) : R2 := fun x y H Q => ∃ p i v, x = .ref p ∧ y = .int i ∧ KDi K p i v ∧ Q v H
section
variable {X : Cx}
theorem ix_kint : IxR X (rIxDi X.K) := by
  intro value slice pins s σ H x y v u Q I rx ry h hs
  obtain ⟨p, i, r, rfl, rfl, ⟨es, n, u0, hl, hk, e, ru⟩, q⟩ := h
  obtain rfl : v = Value.ref p := rx
  obtain ⟨t, rfl⟩ := ry
  have hm : s.heap.MapOf (intKind X.prog X.w) p (fun k => findBy Value.isInt es k) :=
    ⟨_, es, n, I.kIn _ _ hl, ⟨rfl, rfl, rfl⟩, rfl, fun e he => by
      obtain ⟨j, t, e1, e2⟩ := hk e (Array.mem_toList_iff.mpr he)
      exact ⟨j, by rw [e1]; exact intKind_is X.prog X.w j t, e2⟩, fun _ => rfl⟩
  exact tail_any hm.typeIs slot_dict_getitem.lookup (wpAny_getItem_of (intKind_is X.prog X.w i t) hm e ⟨r, H, I.tok _, ru, q⟩) hs
end

theorem cut_mid (xs : List V) (i j : Nat) (h : i ≤ j) (hj : j ≤ xs.length) : cutV xs (some (i : Int)) (some (j : Int)) = (xs.drop i).take (j - i) := by
  unfold cutV
  rw [HT.sIx_nat, HT.sIx_nat, Nat.min_eq_left hj, Nat.min_eq_left (Nat.le_trans h hj)]
abbrev sRead : Stmt := top 77
/-- a list of whole numbers at an address -/
def IntsAt (H : Hp) (v : V) (ns : List Int) : Prop := ∃ l, v = .ref l ∧ H l = some (.lst (ns.map V.int))
theorem IntsAt.mono {H H' : Hp} {v : V} {ns : List Int} (e : Same H H') (h : IntsAt H v ns) : IntsAt H' v ns := by
  obtain ⟨l, rfl, h⟩ := h
  exact ⟨l, rfl, e _ _ h⟩
theorem Rel2.mono_mem {α : Type} {R S : V → α → Prop} : ∀ {vs : List V} {xs : List α}, (∀ v x, v ∈ vs → R v x → S v x) → Rel2 R vs xs → Rel2 S vs xs
  | _, _, _, .nil => .nil
  | _, _, h, .cons a r => .cons (h _ _ List.mem_cons_self a) (r.mono_mem fun v x hv => h v x (List.mem_cons_of_mem _ hv))
theorem shape_le {p : Int} {n k : Nat} (h : PySq71.shape p = some (n, k)) : n ≤ 2 ∧ k ≤ 2 := by
  unfold PySq71.shape at h
  repeat' split at h
  all_goals first
    | (have := Option.some.inj h; have e1 := congrArg Prod.fst this; have e2 := congrArg Prod.snd this; dsimp only at e1 e2; omega)
    | cases h
/-- what FORMS says of a call -/
def Forms (K : PySem.W.Frag) (a : Addr) : Prop := ∀ (p : Int) (n k : Nat), PySq71.shape p = some (n, k) → p ≤ 12 → ∃ t, KDi K a p (.ref t) ∧ ∀ H, SqT K H t [.int (n : Int), .int (k : Int)]
def spRead (K : PySem.W.Frag) : Sp := fun vs H Q _ => ∃ (a : Addr) (l : List Int) (s : Nat) (p : Int) (ws : List Int) (rows : List (List Int)) (rest : List Int), vs = [.ref a, .int (s : Int)] ∧ SqL K H a (l.map V.int) ∧ l.length ≤ 16000 ∧ p ≤ 12 ∧
  PyFlat.call PySq71.shape (l.drop s) = some ((p :: ws) :: rows, rest) ∧
  ∀ H' t wl rl rvs (e : Nat), Same H H' → H' t = some (.tup [.ref wl, .ref rl, .int (e : Int)]) → H' wl = some (.lst (ws.map V.int)) → H' rl = some (.lst rvs) → Rel2 (IntsAt H') rvs rows →
    l.drop e = rest → s < e → e ≤ l.length → H t = none → H wl = none → H rl = none → (∀ v ∈ rvs, ∃ q, v = .ref q ∧ H q = none) → Q (.ref t) H'
theorem scRead : FnScope ["numbers", "start", "form", "at", "wholes", "rows", "end"] ["numbers", "start"] (defScope sRead) := ⟨rfl, rfl, rfl, by decide +kernel, rfl, by decide +kernel, by decide +kernel⟩
theorem row_some {l x s : List Int} (h : PyFlat.row l = some (x, s)) : ∃ n r, l = n :: r ∧ 0 ≤ n ∧ n.toNat ≤ r.length ∧ x = r.take n.toNat ∧ s = r.drop n.toNat := by
  match l, h with
  | [], h => cases h
  | n :: r, h =>
    have h : (if 0 ≤ n ∧ n.toNat ≤ r.length then some (r.take n.toNat, r.drop n.toNat) else none) = some (x, s) := h
    by_cases hc : 0 ≤ n ∧ n.toNat ≤ r.length
    · rw [if_pos hc] at h
      have := Option.some.inj h
      exact ⟨n, r, rfl, hc.1, hc.2, (congrArg Prod.fst this).symm, (congrArg Prod.snd this).symm⟩
    · rw [if_neg hc] at h
      cases h
theorem rows_some {k : Nat} {l t : List Int} {xs : List (List Int)} (h : PyFlat.rows (k + 1) l = some (xs, t)) : ∃ x s ys, PyFlat.row l = some (x, s) ∧ PyFlat.rows k s = some (ys, t) ∧ xs = x :: ys := by
  unfold PyFlat.rows at h
  cases e : PyFlat.row l with
  | none => rw [e] at h; cases h
  | some y =>
    obtain ⟨x, s⟩ := y
    rw [e] at h
    simp only at h
    cases e2 : PyFlat.rows k s with
    | none => rw [e2] at h; cases h
    | some z =>
      obtain ⟨ys, u⟩ := z
      rw [e2] at h
      simp only at h
      have := Option.some.inj h
      have e3 : u = t := congrArg Prod.snd this
      have e4 : x :: ys = xs := congrArg Prod.fst this
      subst e3
      exact ⟨x, s, ys, rfl, e2, e4.symm⟩
theorem rows_len : ∀ {k : Nat} {l t : List Int} {xs : List (List Int)}, PyFlat.rows k l = some (xs, t) → xs.length = k
  | 0, _, _, _, h => by
    have e := congrArg Prod.fst (Option.some.inj h)
    dsimp only at e
    rw [← e]
    rfl
  | k + 1, _, _, _, h => by
    obtain ⟨x, s, ys, _, h2, rfl⟩ := rows_some h
    rw [List.length_cons, rows_len h2]
theorem call_some {l : List Int} {p : Int} {ws : List Int} {rows : List (List Int)} {rest : List Int} (h : PyFlat.call PySq71.shape l = some ((p :: ws) :: rows, rest)) :
    ∃ r n k, l = p :: r ∧ PySq71.shape p = some (n, k) ∧ n ≤ r.length ∧ ws = r.take n ∧ PyFlat.rows k (r.drop n) = some (rows, rest) := by
  match l, h with
  | [], h => cases h
  | p' :: r, h =>
    dsimp only [PyFlat.call] at h
    cases e : PySq71.shape p' with
    | none => rw [e] at h; cases h
    | some nk =>
      obtain ⟨n, k⟩ := nk
      rw [e] at h
      simp only at h
      split at h
      · cases h
      · rename_i hn
        cases e2 : PyFlat.rows k (r.drop n) with
        | none => rw [e2] at h; cases h
        | some z =>
          obtain ⟨xs, t⟩ := z
          rw [e2] at h
          simp only at h
          have := Option.some.inj h
          have e3 : (p' :: r.take n) :: xs = (p :: ws) :: rows := congrArg Prod.fst this
          have e4 : t = rest := congrArg Prod.snd this
          have e5 := List.cons.inj e3
          have e6 := List.cons.inj e5.1
          obtain ⟨e7, e8⟩ := e6
          subst e7 e4
          exact ⟨r, n, k, rfl, e, by omega, e8.symm, by rw [e2, e5.2]⟩
section
variable {P : Program} {w : World} {K : PySem.W.Frag} {mg : Str → Option Value} {base : Heap}
theorem ok_read (G : Own mg) {aF : Addr} (gF : mg "FORMS" = some (.ref aF)) (hF : Forms K aF) {f : Addr} {fd : FuncData} (F : Fun K "read_call" "read_call" sRead f fd) : FnOk P w K mg base CX0 1 f fd ["numbers", "start"] (spRead K) := by
  refine F.ok scRead (fun vs H Q E h => ?_) (fun cdv A outer s H vs Q E hr h => ⟨_,
    pss_cons (ps_set (i := 2) scRead.nd rfl (Or.inl rfl) (pe_ix ix_kint (pe_glob (v := .ref aF) rfl gF rfl) (pe_ix ix_list (pv 0) (pv 1) (fun _ _ => rfl)) (fun _ _ => rfl)))
    (pss_cons (ps_set (i := 3) scRead.nd rfl (Or.inl rfl) (pe_op op_add (pe_op op_add (pv 1) pe_int) (pe_ix ix_tup (pv 2) pe_int (fun _ _ => rfl))))
    (pss_cons (ps_set (i := 4) scRead.nd rfl (Or.inl rfl) (pe_slice sl_list (pv 0) (po_some (pe_op op_add (pv 1) pe_int)) (po_some (pv 3))))
    (pss_cons (ps_set (i := 5) scRead.nd rfl (Or.inl rfl) (pe_lst pa_nil))
    (pss_cons (ps_while PassesOwn.never (pt_cmpR op_lt (pe_callB call_len_seq (by rfl) G.len PySem.boot_len (pa_cons (pv 5) pa_nil)) (pe_ix ix_tup (pv 2) pe_int (fun _ _ => rfl)) (nomark _))
      (pss_cons (ps_set (i := 6) scRead.nd rfl (Or.inl rfl) (pe_op op_add (pe_op op_add (pv 3) pe_int) (pe_ix ix_list (pv 0) (pv 3) (fun _ _ => rfl))))
      (pss_cons (ps_expr (pe_bm PySem.F.plainAttrs_list PySem.F.slot_list_append PySem.F.type_list_append mt_append (pv 5) (pa_cons (pe_slice sl_list (pv 0) (po_some (pe_op op_add (pv 3) pe_int)) (po_some (pv 6))) pa_nil)))
      (pss_one (ps_set (i := 3) scRead.nd rfl (Or.inl rfl) (pv 6))))))
    (pss_one (ps_ret (pe_tup (pa_cons (pv 4) (pa_cons (pv 5) (pa_cons (pv 3) pa_nil)))))))))), ?_⟩)
  · obtain ⟨a, l, s, p, ws, rows, rest, rfl, _⟩ := h
    rfl
  · obtain ⟨a, l, st, p, ws, rows, rest, rfl, hA, hl, hp, hcall, q⟩ := h
    obtain ⟨r, n, k, hd, hsh, hn, hws, hrows⟩ := call_some hcall
    obtain ⟨tf, hKD, htf⟩ := hF p n k hsh hp
    have hst : st < l.length := Nat.lt_of_not_le fun hle => by rw [List.drop_eq_nil_of_le hle] at hd; cases hd
    have hgs : l[st]? = some p := by
      have : (l.drop st)[0]? = some p := by rw [hd]; rfl
      rw [List.getElem?_drop] at this
      simpa using this
    have hr' : r = l.drop (st + 1) := by
      have := congrArg (List.drop 1) hd
      rw [List.drop_drop] at this
      simpa using this.symm
    have hrl : r.length = l.length - (st + 1) := by rw [hr', List.length_drop]
    refine ⟨_, rfl, _, rfl, a, _, _, _, rfl, rfl, hA, atI_map (atI_nat hgs), aF, p, _, rfl, rfl, hKD, ?_⟩
    refine ⟨_, rfl, _, _, rfl, rfl, _, rfl, tf, _, _, _, rfl, rfl, htf _, at0, _, _, rfl, rfl, ?_⟩
    have e1 : ((st : Int) + 1) = ((st + 1 : Nat) : Int) := by omega
    have e2 : ((st : Int) + 1 + (n : Int)) = ((st + 1 + n : Nat) : Int) := by omega
    refine ⟨_, rfl, _, rfl, _, _, rfl, rfl, _, rfl, _, rfl, _, rfl, a, _, rfl, hA, fun wl hwl => ?_⟩
    have hcut : cutV (l.map V.int) (some ((st : Int) + 1)) (some ((st : Int) + 1 + (n : Int))) = ws.map V.int := by
      rw [e2, e1, cut_mid _ _ _ (by omega) (by rw [List.length_map]; omega), hws, hr', ← List.map_drop, ← List.map_take]
      congr 2
      omega
    rw [hcut]
    refine ⟨(by show 0 ≤ sizeLine; omega), fun rl hrl2 => ?_⟩
    have nwr : wl ≠ rl := fun e => by rw [← e, upd_same] at hrl2; cases hrl2
    have s1 : Same H (upd H wl (.lst (ws.map V.int))) := same_new hwl
    have s2 : Same (upd H wl (.lst (ws.map V.int))) (upd (upd H wl (.lst (ws.map V.int))) rl (.lst [])) := same_new hrl2
    have nrlH : H rl = none := s1.free hrl2
    have hwl2 : (upd (upd H wl (.lst (ws.map V.int))) rl (.lst [])) wl = some (.lst (ws.map V.int)) := s2 _ _ upd_same
    generalize hH2 : upd (upd H wl (.lst (ws.map V.int))) rl (.lst []) = H2 at *
    have hrl3 : H2 rl = some (.lst []) := by rw [← hH2]; exact upd_same
    have sH2 : Same H H2 := s1.trans s2
    have hk3 := rows_len hrows
    have hdrop : r.drop n = l.drop (st + 1 + n) := by rw [hr', List.drop_drop]
    rw [hdrop] at hrows
    refine ⟨fun m σ H3 => ∃ (at' : Nat) (v : Option V) (rvs : List V) (done todo : List (List Int)), m = todo.length ∧ σ = [some (.ref a), some (.int (st : Int)), some (.ref tf), some (.int (at' : Int)), some (.ref wl), some (.ref rl), v] ∧
        Same H H3 ∧ H3 wl = some (.lst (ws.map V.int)) ∧ H3 rl = some (.lst rvs) ∧ Rel2 (IntsAt H3) rvs done ∧ rows = done ++ todo ∧ PyFlat.rows todo.length (l.drop at') = some (todo, rest) ∧ at' ≤ l.length ∧ st < at' ∧
        (∀ v ∈ rvs, ∃ q, v = .ref q ∧ H q = none), ⟨_, st + 1 + n, none, [], [], rows, rfl, by rw [← e2]; rfl, sH2, hwl2, hrl3, .nil, rfl, by rw [hk3]; exact hrows, by omega, by omega, by simp⟩, ?_⟩
    rintro m σ H3 ⟨at', v, rvs, done, todo, rfl, rfl, s3, hw3, hr3, hrel, hdt, hro, hat, hsat, hfr⟩
    have hlen : rvs.length = done.length := hrel.length
    have hkd : done.length + todo.length = k := by rw [← hk3, hdt, List.length_append]
    refine ⟨_, rfl, rl, rvs, rfl, .inl (.inl (.inl hr3)), _, rfl, tf, _, _, _, rfl, rfl, htf _, at1, _, _, rfl, rfl, _, rfl, ?_⟩
    cases todo with
    | nil =>
      refine if_false_of (decide_eq_false (by simp at hkd; omega)) ?_
      have hrest : l.drop at' = rest := by
        have := Option.some.inj hro
        exact congrArg Prod.snd this
      refine ⟨_, rfl, _, rfl, _, rfl, (by show 3 ≤ sizeLine; decide), fun t ht => ?_⟩
      have s4 := same_new (o := .tup [.ref wl, .ref rl, .int (at' : Int)]) ht
      rw [List.append_nil] at hdt
      rw [← hdt] at hrel
      exact q _ t wl rl rvs at' (s3.trans s4) upd_same (s4 _ _ hw3) (s4 _ _ hr3) (hrel.mono fun _ _ z => z.mono s4) hrest hsat hat (s3.free ht) hwl nrlH hfr
    | cons x todo =>
      refine if_true_of (decide_eq_true (by simp at hkd; omega)) ?_
      obtain ⟨x', s', ys, hrow, hys, hxx⟩ := rows_some hro
      have exx := List.cons.inj hxx
      obtain ⟨ex1, ex2⟩ := exx
      subst ex1 ex2
      obtain ⟨z, r2, hz, hz0, hzl, hx, hs'⟩ := row_some hrow
      have hat2 : at' < l.length := Nat.lt_of_not_le fun hle => by rw [List.drop_eq_nil_of_le hle] at hz; cases hz
      have hga : l[at']? = some z := by
        have : (l.drop at')[0]? = some z := by rw [hz]; rfl
        rw [List.getElem?_drop] at this
        simpa using this
      have hr2 : r2 = l.drop (at' + 1) := by
        have := congrArg (List.drop 1) hz
        rw [List.drop_drop] at this
        simpa using this.symm
      have hr2l : r2.length = l.length - (at' + 1) := by rw [hr2, List.length_drop]
      have hA3 : SqL K H3 a (l.map V.int) := s3.seq hA
      refine ⟨_, fun σ' H' hh => hh, ?_⟩
      refine ⟨_, rfl, _, _, rfl, rfl, _, rfl, _, rfl, a, _, _, _, rfl, rfl, hA3, atI_map (atI_nat hga), _, _, rfl, rfl, ?_⟩
      have f1 : ((at' : Int) + 1) = ((at' + 1 : Nat) : Int) := by omega
      have f2 : ((at' : Int) + 1 + z) = ((at' + 1 + z.toNat : Nat) : Int) := by omega
      refine ⟨_, rfl, .inl ⟨rfl, _, .inl (.inl hr3)⟩, _, rfl, _, rfl, _, _, rfl, rfl, _, rfl, _, rfl, _, rfl, a, _, rfl, hA3, fun q1 hq1 => ?_⟩
      have hcut2 : cutV (l.map V.int) (some ((at' : Int) + 1)) (some ((at' : Int) + 1 + z)) = x.map V.int := by
        rw [f2, f1, cut_mid _ _ _ (by omega) (by rw [List.length_map]; omega), hx, hr2, ← List.map_drop, ← List.map_take]
        congr 2
        omega
      rw [hcut2]
      have nq : rl ≠ q1 := fun e => by rw [← e, hr3] at hq1; cases hq1
      have nw : wl ≠ q1 := fun e => by rw [← e, hw3] at hq1; cases hq1
      have hr4 : (upd H3 q1 (.lst (x.map V.int))) rl = some (.lst rvs) := by rw [upd_ne nq]; exact hr3
      refine ⟨rl, rvs, _, rfl, rfl, hr4, ?_, ?_⟩
      · have hkb : k ≤ 2 := (shape_le hsh).2
        exact Nat.lt_of_le_of_lt (show rvs.length ≤ 10 by omega) (by decide)
      · refine ⟨_, rfl, _, (by simp), at' + 1 + z.toNat, some (.int ((at' : Int) + 1 + z)), rvs ++ [.ref q1], done ++ [x], todo, rfl, by rw [← f2]; rfl, same_mut (s3.trans (same_new hq1)) nrlH, ?_, upd_same, ?_, ?_, ?_, by omega, by omega, ?_⟩
        · rw [upd_ne nwr, upd_ne nw]; exact hw3
        · refine Rel2.snoc ?_ ?_
          · refine hrel.mono_mem fun v ns hm hv => ?_
            obtain ⟨l', rfl, hl'⟩ := hv
            have n1 : l' ≠ rl := fun e => by
              rw [e, hr3] at hl'
              have hl2 : rvs = ns.map V.int := by injection hl' with h1; injection h1
              rw [hl2] at hm
              obtain ⟨i, _, hi⟩ := List.mem_map.1 hm
              cases hi
            have n2 : l' ≠ q1 := fun e => by rw [e, hq1] at hl'; cases hl'
            exact ⟨l', rfl, by rw [upd_ne n1, upd_ne n2]; exact hl'⟩
          · exact ⟨q1, rfl, by rw [upd_ne nq.symm, upd_same]⟩
        · rw [hdt]; simp
        · have : l.drop (at' + 1 + z.toNat) = s' := by rw [hs', hr2, List.drop_drop]
          rw [this]
          exact hys
        · intro v hv
          rcases List.mem_append.1 hv with hv | hv
          · exact hfr v hv
          · rw [List.mem_singleton.1 hv]
            exact ⟨q1, rfl, s3.free hq1⟩
end
end Pw
end

section
namespace Pw
open PySem PySem.Spec PyProof.Rows L2
open Sq71 (House Now Steps Out)
abbrev sAsk : Stmt := top 78
abbrev sAns : Stmt := top 80
/-- the last call that is written -/
abbrev lastCall : Int := 12
/-! ### what is asked of a call -/
structure CallOk (c : List (List Int)) : Prop where
  ex : ∃ p ws rows x, c = (p :: ws) :: rows ∧ (∀ z ∈ ws, 0 ≤ z) ∧ (∀ r ∈ rows, r.length ≤ 1024 ∧ ∀ z ∈ r, 0 ≤ z) ∧ Sq71Neutral.callOf c = some x
theorem nat_pos {z : Int} {b : Nat} (h : Sq71Neutral.natural z b = true) : 0 ≤ z := by
  unfold Sq71Neutral.natural at h
  rw [Bool.and_eq_true] at h
  exact of_decide_eq_true h.1
theorem long_ok {b : Nat} {l : List Int} (h : Sq71Neutral.long (fun z => Sq71Neutral.natural z b) l = true) : l.length ≤ 1024 ∧ ∀ z ∈ l, 0 ≤ z := by
  unfold Sq71Neutral.long at h
  rw [Bool.and_eq_true] at h
  exact ⟨of_decide_eq_true h.1, fun z hz => nat_pos (List.all_eq_true.1 h.2 z hz)⟩
theorem asked1_ok {c : List (List Int)} (h : Sq71Neutral.asked1 c = true) : CallOk c := by
  unfold Sq71Neutral.asked1 at h
  split at h
  all_goals try simp only [Bool.and_eq_true] at h
  · exact ⟨_, _, _, _, rfl, by simpa using nat_pos h.1, by simpa using ⟨long_ok h.2.1, long_ok h.2.2⟩, rfl⟩
  · exact ⟨_, _, _, _, rfl, by simp, by simpa using ⟨long_ok h.1, long_ok h.2⟩, rfl⟩
  · exact ⟨_, _, _, _, rfl, by simpa using ⟨nat_pos h.1, nat_pos h.2.1⟩, by simpa using ⟨long_ok h.2.2.1, long_ok h.2.2.2⟩, rfl⟩
  · exact ⟨_, _, _, _, rfl, by simp, by simpa using ⟨long_ok h.1, long_ok h.2⟩, rfl⟩
  · exact ⟨_, _, _, _, rfl, by simp, by simp, rfl⟩
  · exact ⟨_, _, _, _, rfl, by simp, by simp, rfl⟩
  · exact ⟨_, _, _, _, rfl, by simp, by simp, rfl⟩
  · exact ⟨_, _, _, _, rfl, by simpa using nat_pos h, by simp, rfl⟩
  · exact ⟨_, _, _, _, rfl, by simpa using nat_pos h, by simp, rfl⟩
  · exact ⟨_, _, _, _, rfl, by simp, by simp, rfl⟩
  · exact ⟨_, _, _, _, rfl, by simpa using nat_pos h, by simp, rfl⟩
  · exact ⟨_, _, _, _, rfl, by simp, by simp, rfl⟩
  · exact absurd h (by simp)
theorem whole_id (c : List (List Int)) : PySq71.whole c = c := by
  unfold PySq71.whole
  split <;> rfl
theorem calls_more {f : Nat} {p : Int} {r : List Int} {cs : List (List (List Int))} (h : PyFlat.calls PySq71.shape f (p :: r) = some cs) :
    ∃ f' c t cs', f = f' + 1 ∧ PyFlat.call PySq71.shape (p :: r) = some (c, t) ∧ PyFlat.calls PySq71.shape f' t = some cs' ∧ cs = c :: cs' := by
  cases f with
  | zero => cases h
  | succ f =>
    unfold PyFlat.calls at h
    cases e : PyFlat.call PySq71.shape (p :: r) with
    | none => rw [e] at h; cases h
    | some y =>
      obtain ⟨c, t⟩ := y
      rw [e] at h
      simp only at h
      cases e2 : PyFlat.calls PySq71.shape f t with
      | none => rw [e2] at h; cases h
      | some cs' =>
        rw [e2] at h
        exact ⟨f, c, t, cs', rfl, rfl, e2, (Option.some.inj h).symm⟩
theorem calls_nil {f : Nat} {cs : List (List (List Int))} (h : PyFlat.calls PySq71.shape f [] = some cs) : cs = [] := by
  cases f <;> exact (Option.some.inj h).symm
/-- what is answered to calls from a state on -/
abbrev toldFrom (h : House) (cs : List (List (List Int))) : List Int := PyFlat.told (PyFlat.played Sq71Neutral.step h cs)
theorem told_cons {h : House} {c : List (List Int)} {x : Sq71.Call} {cs : List (List (List Int))} (hx : Sq71Neutral.callOf c = some x) :
    toldFrom h (c :: cs) = (((h.step x).2.value :: (h.step x).2.out).length : Int) :: ((h.step x).2.value :: (h.step x).2.out) ++ toldFrom (h.step x).1 cs := by
  have e : Sq71Neutral.step h c = ((h.step x).1, (h.step x).2.value :: (h.step x).2.out) := by
    unfold Sq71Neutral.step
    rw [hx]
  show PyFlat.told ((Sq71Neutral.step h c).2 :: PyFlat.played Sq71Neutral.step (Sq71Neutral.step h c).1 cs) = _
  rw [e]
  rfl

/-! ### a list that is set aside -/
def hide (g : Addr) (H : Hp) : Hp := fun b => if b = g then none else H b
theorem hide_same (g : Addr) (H : Hp) : Same (hide g H) H := fun b o e => by
  unfold hide at e
  split at e
  · cases e
  · exact e
theorem hide_ne {g b : Addr} {H : Hp} (h : b ≠ g) : hide g H b = H b := if_neg h
theorem hide_at {g : Addr} {H : Hp} : hide g H g = none := if_pos rfl
theorem hide_upd {g : Addr} {H : Hp} {o : HO} : hide g (upd H g o) = hide g H := by
  funext b
  by_cases e : b = g
  · rw [e, hide_at, hide_at]
  · rw [hide_ne e, hide_ne e, upd_ne e]
section
variable {P : Program} {w : World} {K : PySem.W.Frag} {mg : Str → Option Value} {base : Heap} {CP CD : Addr}
theorem hide_t {g t : Addr} {xs : List V} {o : Obj} {u : HO} {H : Hp} (hg : H g = some (.frz o u)) (hu : ∀ ys, u ≠ .tup ys) (h : SqT K H t xs) : SqT K (hide g H) t xs := by
  rcases h with (h | ⟨o', h⟩) | h
  · have : t ≠ g := fun e => by rw [e, hg] at h; cases h
    exact .inl (.inl (by rw [hide_ne this]; exact h))
  · have : t ≠ g := fun e => by
      rw [e, hg] at h
      injection h with h1
      injection h1 with h2 h3
      exact hu _ h3
    exact .inl (.inr ⟨o', by rw [hide_ne this]; exact h⟩)
  · exact .inr h
theorem hide_pts {g : Addr} {o : Obj} {u : HO} {H : Hp} (hg : H g = some (.frz o u)) (hu : ∀ ys, u ≠ .tup ys) : ∀ {vs : List V} {ps : List Pg.Pt}, Pts K H vs ps → Pts K (hide g H) vs ps
  | _, _, .nil => .nil
  | _, _, .cons ⟨t, e, q⟩ r => .cons ⟨t, e, hide_t hg hu q⟩ (hide_pts hg hu r)
theorem hide_poly {g a : Addr} {o : Obj} {u : HO} {H : Hp} {p : Sq71.Polygon} (hg : H g = some (.frz o u)) (hu : ∀ ys, u ≠ .tup ys) (h : PolyAt K CP H a p) : PolyAt K CP (hide g H) a p := by
  obtain ⟨dx, l, vs, h1, h2, h3⟩ := h
  have n1 : a ≠ g := fun e => by rw [e, hg] at h1; cases h1
  have n2 : l ≠ g := fun e => by rw [e, hg] at h2; cases h2
  exact ⟨dx, l, vs, by rw [hide_ne n1]; exact h1, by rw [hide_ne n2]; exact h2, hide_pts hg hu h3⟩
theorem hide_steps {g : Addr} {v : V} {o : Obj} {u : HO} {H : Hp} {s : Steps} (hg : H g = some (.frz o u)) (hu : ∀ ys, u ≠ .tup ys) (h : StepsAt K H v s) : StepsAt K (hide g H) v s := by
  obtain ⟨t, x, y, rfl, h1, ⟨t1, rfl, h2⟩, ⟨t2, rfl, h3⟩⟩ := h
  exact ⟨t, _, _, rfl, hide_t hg hu h1, ⟨t1, rfl, hide_t hg hu h2⟩, ⟨t2, rfl, hide_t hg hu h3⟩⟩
/-- the desk without a list that was locked meanwhile -/
theorem hide_desk {g d k : Addr} {o : Obj} {u : HO} {H : Hp} {h : House} (hg : H g = some (.frz o u)) (hu : ∀ ys, u ≠ .tup ys) (D : DeskAt K CP CD H d k h) : DeskAt K CP CD (hide g H) d k h := by
  obtain ⟨dd, F, p, sv, vs, hd, hk, sF, nd, nk, hpoly, hst, hrel⟩ := D.ex
  have n1 : d ≠ g := fun e => by rw [e, hg] at hd; cases hd
  have n2 : k ≠ g := fun e => by rw [e, hg] at hk; cases hk
  have sF' : Same (hide g F) (hide g H) := fun b v e => by
    have n : b ≠ g := fun z => by rw [z, hide_at] at e; cases e
    rw [hide_ne n] at e ⊢
    exact sF _ _ e
  have none : ∀ {b : Addr}, F b = none → hide g F b = none := fun {b} e => by
    unfold hide
    split
    · rfl
    · exact e
  cases hF : F g with
  | none =>
    have eF : hide g F = F := by
      funext b
      by_cases e : b = g
      · rw [e, hide_at, hF]
      · rw [hide_ne e]
    rw [eF] at sF'
    exact ⟨dd, F, p, sv, vs, by rw [hide_ne n1]; exact hd, by rw [hide_ne n2]; exact hk, sF', nd, nk, hpoly, hst, hrel⟩
  | some v =>
    have hv : v = .frz o u := by
      have := sF _ _ hF
      rw [hg] at this
      exact (Option.some.inj this).symm
    rw [hv] at hF
    refine ⟨dd, hide g F, p, sv, vs, by rw [hide_ne n1]; exact hd, by rw [hide_ne n2]; exact hk, sF', none nd, none nk, hide_poly hF hu hpoly, hide_steps hF hu hst, hrel.mono fun v n z => ?_⟩
    obtain ⟨t, p', sv', rfl, h1, h2, h3⟩ := z
    exact ⟨t, p', sv', rfl, hide_t hF hu h1, hide_poly hF hu h2, hide_steps hF hu h3⟩

/-! ### ask -/
def spAsk (K : PySem.W.Frag) (CP CD : Addr) : Sp := fun vs H Q _ => ∃ (d k : Addr) (h : House) (t : Nat) (p : Int) (wl rl : Addr) (ws : List Int) (rvs : List V) (rows : List (List Int)) (x : Sq71.Call),
  vs = [.ref d, .int p, .ref wl, .ref rl] ∧ DeskAt K CP CD H d k h ∧ GoodH h t ∧ t ≤ 40 ∧ SqL K H wl (ws.map V.int) ∧ SqL K H rl rvs ∧ Rel2 (IntsAt H) rvs rows ∧ p ≤ lastCall ∧
  (∀ z ∈ ws, 0 ≤ z) ∧ (∀ r ∈ rows, r.length ≤ 1024 ∧ ∀ z ∈ r, 0 ≤ z) ∧ Sq71Neutral.callOf ((p :: ws) :: rows) = some x ∧ Ans K CP CD H d k (h.step x) Q
end
end Pw
end

section
namespace Pw
open PySem PySem.Spec PyProof.Rows L2
open Sq71 (House Now Steps Out)
section
variable {P : Program} {w : World} {K : PySem.W.Frag} {mg : Str → Option Value} {base : Heap} {CP CD : Addr}
/-! ### answers -/
def spAnsL (K : PySem.W.Frag) : Sp := fun vs H Q _ => ∃ (a : Addr) (l : List Int) (cs : List (List (List Int))), vs = [.ref a] ∧ SqL K H a (l.map V.int) ∧ l.length ≤ 16000 ∧
  PyFlat.calls PySq71.shape l.length l = some cs ∧ cs.length ≤ 40 ∧ (∀ c ∈ cs, CallOk c) ∧ (∀ c ∈ cs, ∀ p ws rows, c = (p :: ws) :: rows → p ≤ lastCall) ∧ (toldFrom Sq71.fresh cs).length ≤ 10000000 ∧
  ∀ (H' : Hp) (p : Addr), H' p = some (.lst ((toldFrom Sq71.fresh cs).map V.int)) → Q (.ref p) H'
theorem scAns : FnScope ["calls", "desk", "given", "at", "call", "answer"] ["calls"] (defScope sAns) := ⟨rfl, rfl, rfl, by decide +kernel, rfl, by decide +kernel, by decide +kernel⟩
theorem at3_0 {x y z : V} : atI [x, y, z] (0 : Int) = some x := rfl
theorem at3_1 {x y z : V} : atI [x, y, z] (1 : Int) = some y := rfl
theorem at3_2 {x y z : V} : atI [x, y, z] (2 : Int) = some z := rfl
theorem ok_ans {kA : Nat} (hkA : 7 ≤ kA) (G : Own mg) {f fD fR fA : Addr} {fd fdD fdR fdA : FuncData} (F : Fun K "answers" "answers" sAns f fd) (gD : mg "Desk" = some (.ref CD))
    (M : Mk K CD fD) (bD : Binds K fdD ["self"] []) (GD : FnOk P w K mg base CX0 6 fD fdD ["self"] (spDi K CP CD))
    (NR : Dn K mg "read_call" fR fdR ["numbers", "start"]) (GR : FnOk P w K mg base CX0 1 fR fdR ["numbers", "start"] (spRead K))
    (NA : Dn K mg "ask" fA fdA ["desk", "call", "wholes", "rows"]) (GA : FnOk P w K mg base CX0 kA fA fdA ["desk", "call", "wholes", "rows"] (spAsk K CP CD)) :
    FnOk P w K mg base CX0 (kA + 1) f fd ["calls"] (spAnsL K) := by
  refine F.ok scAns (fun vs H Q E h => ?_) (fun cdv A outer s H vs Q E hr h => ⟨_,
    pss_cons (ps_set (i := 1) scAns.nd rfl (Or.inl rfl) (pe_make0 M GD (hr.mono hkA) rfl gD bD .nil pass0))
    (pss_cons (ps_set (i := 2) scAns.nd rfl (Or.inl rfl) (pe_lst pa_nil))
    (pss_cons (ps_set (i := 3) scAns.nd rfl (Or.inl rfl) pe_int)
    (pss_cons (ps_while PassesOwn.never (pt_cmpR op_lt (pv 3) (pe_callB call_len_seq (by rfl) G.len PySem.boot_len (pa_cons (pv 0) pa_nil)) (nomark _))
      (pss_cons (ps_set (i := 4) scAns.nd rfl (Or.inl rfl) (pe_call GR (hr.mono (Nat.le_trans (by decide) hkA)) rfl NR.g NR.kp NR.b .nil pass0 (pa_cons (pv 0) (pa_cons (pv 3) pa_nil))))
      (pss_cons (ps_set (i := 5) scAns.nd rfl (Or.inl rfl) (pe_lock (pe_call GA hr rfl NA.g NA.kp NA.b .nil pass0 (pa_cons (pv 1) (pa_cons (pe_ix ix_list (pv 0) (pv 3) (fun _ _ => rfl))
        (pa_cons (pe_ix ix_tup (pv 4) pe_int (fun _ _ => rfl)) (pa_cons (pe_ix ix_tup (pv 4) pe_int (fun _ _ => rfl)) pa_nil)))))))
      (pss_cons (ps_expr (pe_bm PySem.F.plainAttrs_list PySem.F.slot_list_append PySem.F.type_list_append mt_append (pv 2) (pa_cons (pe_callB call_len_seq (by rfl) G.len PySem.boot_len (pa_cons (pv 5) pa_nil)) pa_nil)))
      (pss_cons (ps_expr (pe_bm PySem.F.plainAttrs_list PySem.F.slot_list_extend PySem.F.type_list_extend mt_extend (pv 2) (pa_cons (pv 5) pa_nil)))
      (pss_one (ps_set (i := 3) scAns.nd rfl (Or.inl rfl) (pe_ix ix_tup (pv 4) pe_int (fun _ _ => rfl)))))))))
    (pss_one (ps_ret (pv 2)))))), ?_⟩)
  · obtain ⟨a, l, cs, rfl, _⟩ := h
    rfl
  · obtain ⟨a, l, cs, rfl, hA, hl, hcs, h40, hok, hlast, hbig, q⟩ := h
    intro d dd nd ndd nne
    refine ⟨d, dd, rfl, upd_same, fun H1 k D1 nk1 fr1 => ⟨rfl, ?_⟩⟩
    have s1 : Same H H1 := Same.made nd ndd fr1
    have nkH : H k = none := by
      by_cases e : k = d
      · rw [e]; exact nd
      · by_cases e2 : k = dd
        · rw [e2]; exact ndd
        · rw [upd_ne e, upd_ne e2] at nk1; exact nk1
    refine ⟨(by show 0 ≤ sizeLine; omega), fun g hg => ?_⟩
    have ngd := D1.d_ne hg
    have eh : hide g (upd H1 g (.lst [])) = H1 := by
      funext b
      by_cases e : b = g
      · rw [e, hide_at, hg]
      · rw [hide_ne e, upd_ne e]
    refine ⟨fun m σ H' => ∃ (e : Nat) (h : House) (t : Nat) (k : Addr) (cs' : List (List (List Int))) (fu : Nat) (gs : List Int) (v1 v2 : Option V), m = cs'.length ∧
        σ = [some (.ref a), some (.ref d), some (.ref g), some (.int (e : Int)), v1, v2] ∧ Same H H' ∧ H k = none ∧ g ≠ k ∧ H' g = some (.lst (gs.map V.int)) ∧ DeskAt K CP CD (hide g H') d k h ∧ GoodH h t ∧ t + cs'.length ≤ 40 ∧
        PyFlat.calls PySq71.shape fu (l.drop e) = some cs' ∧ (∀ c ∈ cs', c ∈ cs) ∧ toldFrom Sq71.fresh cs = gs ++ toldFrom h cs',
      ⟨_, 0, Sq71.fresh, 0, k, cs, l.length, [], none, none, rfl, rfl, s1.trans (same_new hg), nkH, ngd.2, upd_same, by rw [eh]; exact D1, fresh_good, by omega, by rw [List.drop_zero]; exact hcs, fun _ z => z, rfl⟩, ?_⟩
    rintro m σ H2 ⟨e, h, t, k, cs', fu, gs, v1, v2, rfl, rfl, s2, nk, ngk, hg2, D2, gh, ht, hcs', hsub, htold⟩
    have hgH : H g = none := s1.free hg
    refine ⟨_, rfl, _, rfl, a, _, rfl, .inl (s2.seq hA), _, _, rfl, rfl, _, rfl, ?_⟩
    rw [List.length_map]
    by_cases hend : e < l.length
    · refine if_true_of (decide_eq_true (by omega)) ?_
      cases hdr : l.drop e with
      | nil =>
        exfalso
        have := congrArg List.length hdr
        rw [List.length_drop] at this
        simp at this
        omega
      | cons p0 r0 =>
        rw [hdr] at hcs'
        obtain ⟨fu', c, rest, cs2, rfl, hcall, hcs2, rfl⟩ := calls_more hcs'
        have hcm := hsub c List.mem_cons_self
        obtain ⟨p, ws, rows, x, rfl, hws, hrw, hx⟩ := (hok c hcm).ex
        have hp6 := hlast _ hcm p ws rows rfl
        rw [← hdr] at hcall
        refine ⟨_, fun σ' H' hh => hh, ?_⟩
        refine ⟨_, rfl, _, rfl, a, l, e, p, ws, rows, rest, rfl, s2.seq hA, hl, hp6, hcall, fun H3 tp wl rl rvs e' s3 htp hwl hrl hrel hrest hlt hle ntp nwl nrl nrv => ?_⟩
        have hpe : l[e]? = some p := by
          obtain ⟨r, n, k', hd, _⟩ := call_some hcall
          have : (l.drop e)[0]? = some p := by rw [hd]; rfl
          rw [List.getElem?_drop] at this
          simpa using this
        have hg3 : H3 g = some (.lst (gs.map V.int)) := s3 _ _ hg2
        -- the list of answers is locked while the desk is asked
        refine ⟨g, .lst (gs.map V.int), hg3, trivial, fun og => ?_⟩
        have sL : ∀ {b : Addr} {o : HO}, H3 b = some o → b ≠ g → (upd H3 g (.frz og (.lst (gs.map V.int)))) b = some o := fun e n => by rw [upd_ne n]; exact e
        have ntg : tp ≠ g := fun z => by rw [z, hg2] at ntp; cases ntp
        have nwg : wl ≠ g := fun z => by rw [z, hg2] at nwl; cases nwl
        have nrg : rl ≠ g := fun z => by rw [z, hg2] at nrl; cases nrl
        have sHL : Same H (upd H3 g (.frz og (.lst (gs.map V.int)))) := fun b o z => sL (s3 _ _ (s2 _ _ z)) (fun y => by rw [y, hgH] at z; cases z)
        have DL : DeskAt K CP CD (upd H3 g (.frz og (.lst (gs.map V.int)))) d k h := by
          refine D2.mono fun b o z => ?_
          have n : b ≠ g := fun y => by rw [y, hide_at] at z; cases z
          rw [hide_ne n] at z
          exact sL (s3 _ _ z) n
        have htpL : SqT K (upd H3 g (.frz og (.lst (gs.map V.int)))) tp [.ref wl, .ref rl, .int (e' : Int)] := .inl (.inl (sL htp ntg))
        refine ⟨_, rfl, _, rfl, _, rfl, a, _, _, _, rfl, rfl, sHL.seq hA, atI_map (atI_nat hpe), _, rfl, tp, _, _, _, rfl, rfl, htpL, at3_0, _, rfl, tp, _, _, _, rfl, rfl, htpL, at3_1, ?_⟩
        have hrelL : Rel2 (IntsAt (upd H3 g (.frz og (.lst (gs.map V.int))))) rvs rows := hrel.mono_mem fun v ns hm hv => by
          obtain ⟨q1, rfl, hq1⟩ := hv
          obtain ⟨q2, e2, nq2⟩ := nrv _ hm
          cases e2
          exact ⟨q1, rfl, sL hq1 (fun z => by rw [z, hg2] at nq2; cases nq2)⟩
        refine ⟨d, k, h, t, p, wl, rl, ws, rvs, rows, x, rfl, DL, gh, (by simp at ht; omega), .inl (.inl (sL hwl nwg)), .inl (.inl (sL hrl nrg)), hrelL, hp6, hws, hrw, hx, fun H4 k4 q4 D4 hk4 fr4 nq4 nqk hq4 => ?_⟩
        -- unlocked again
        have hgd : g ≠ d ∧ g ≠ k := by
          obtain ⟨_, _, _, _, _, hd1, hk1, _⟩ := D2.ex
          exact ⟨fun z => (by rw [← z, hide_at] at hd1; cases hd1), ngk⟩
        have hg4 : H4 g = some (.frz og (.lst (gs.map V.int))) := (fr4 _ _ upd_same).2 hgd.1 hgd.2
        refine ⟨hg4, ?_⟩
        have D4h : DeskAt K CP CD (hide g H4) d k4 (h.step x).1 := hide_desk hg4 (fun ys z => by cases z) D4
        have ng4 : g ≠ k4 := by
          obtain ⟨_, _, _, _, _, hd4, hk4', _⟩ := D4.ex
          exact fun z => by rw [← z, hg4] at hk4'; cases hk4'
        have nqg : q4 ≠ g := fun z => by rw [z, hg4] at hq4; cases hq4
        generalize hans : (h.step x).2.value :: (h.step x).2.out = ans at hq4
        have eT : toldFrom Sq71.fresh cs = gs ++ ((ans.length : Int) :: ans ++ toldFrom (h.step x).1 cs2) := by
          rw [htold, told_cons hx, hans]
        have lenT := congrArg List.length eT
        simp only [List.length_append, List.length_cons] at lenT
        -- given.append(len(answer))
        have hq5 : (upd H4 g (.lst (gs.map V.int))) q4 = some (.lst (ans.map V.int)) := by rw [upd_ne nqg]; exact hq4
        refine ⟨_, rfl, .inl ⟨rfl, _, .inl (.inl upd_same)⟩, _, rfl, q4, _, rfl, .inl (.inl (.inl hq5)), g, _, _, rfl, rfl, upd_same, ?_, ?_⟩
        · rw [List.length_map, sizeLine_eq]
          omega
        · have up2 : ∀ (G0 : Hp) (o o' : HO), upd (upd G0 g o) g o' = upd G0 g o' := fun G0 o o' => by
            funext b
            by_cases z : b = g
            · rw [z, upd_same, upd_same]
            · rw [upd_ne z, upd_ne z, upd_ne z]
          rw [up2]
          have hq6 : ∀ o : HO, (upd H4 g o) q4 = some (.lst (ans.map V.int)) := fun o => by rw [upd_ne nqg]; exact hq4
          refine ⟨_, rfl, .inl ⟨rfl, _, .inl (.inl upd_same)⟩, _, rfl, g, q4, _, _, rfl, rfl, upd_same, hq6 _, ?_, ?_⟩
          · rw [List.length_append, List.length_map, List.length_map, sizeLine_eq]
            simp only [List.length_cons, List.length_nil]
            omega
          · rw [up2]
            have htp4 : H4 tp = some (.tup [.ref wl, .ref rl, .int (e' : Int)]) := by
              have htpd : tp ≠ d := by
                obtain ⟨_, _, _, _, _, hd1, _⟩ := DL.ex
                exact fun z => by rw [← z, sL htp ntg] at hd1; cases hd1
              have htpk : tp ≠ k := by
                obtain ⟨_, _, _, _, _, _, hk1, _⟩ := DL.ex
                exact fun z => by rw [← z, sL htp ntg] at hk1; cases hk1
              exact (fr4 _ _ (sL htp ntg)).2 htpd htpk
            have htp6 : ∀ o : HO, (upd H4 g o) tp = some (.tup [.ref wl, .ref rl, .int (e' : Int)]) := fun o => by rw [upd_ne ntg]; exact htp4
            refine ⟨_, rfl, tp, _, _, _, rfl, rfl, .inl (.inl (htp6 _)), at3_2, ?_⟩
            have nk4 : H k4 = none := by
              rcases hk4 with z | z
              · rw [z]; exact nk
              · exact sHL.free z
            have sH4 : Same H H4 := fun b o z => by
              have nbd : b ≠ d := fun y => by rw [y, nd] at z; cases z
              have nbk : b ≠ k := fun y => by rw [y, nk] at z; cases z
              exact (fr4 _ _ (sHL _ _ z)).2 nbd nbk
            refine ⟨cs2.length, by simp, e', (h.step x).1, t + 1, k4, cs2, fu', gs ++ ((ans.length : Int) :: ans), _, _, rfl, rfl, same_mut sH4 hgH, nk4, ng4, ?_, ?_, good_step gh x, ?_, ?_, fun c hc => hsub c (List.mem_cons_of_mem _ hc), ?_⟩
            · rw [upd_same]
              simp
            · rw [hide_upd]
              exact D4h
            · simp at ht
              omega
            · rw [hrest]
              exact hcs2
            · rw [eT, List.append_assoc]
    · refine if_false_of (decide_eq_false (by omega)) ?_
      have hdr : l.drop e = [] := List.drop_eq_nil_of_le (by omega)
      rw [hdr] at hcs'
      have e0 := calls_nil hcs'
      subst e0
      have : toldFrom Sq71.fresh cs = gs := by
        rw [htold]
        show gs ++ [] = gs
        exact List.append_nil gs
      refine ⟨_, rfl, q H2 g ?_⟩
      rw [this]
      exact hg2
end
end Pw
end

section
namespace Pw
open PySem PySem.Spec PyProof.Rows L2
open Sq71 (House Now Steps Out)
/-- the calls' numbers -/
structure Nums (mg : Str → Option Value) : Prop where
  c1 : ∃ t, mg "BEGIN" = some (.int 1 t)
  c2 : ∃ t, mg "STEPS" = some (.int 2 t)
  c3 : ∃ t, mg "CUT" = some (.int 3 t)
  c4 : ∃ t, mg "SHIFT" = some (.int 4 t)
  c5 : ∃ t, mg "UNDO" = some (.int 5 t)
  c6 : ∃ t, mg "CORNERS" = some (.int 6 t)
  c7 : ∃ t, mg "AREA" = some (.int 7 t)
  c8 : ∃ t, mg "COUNT" = some (.int 8 t)
  c9 : ∃ t, mg "INSIDE" = some (.int 9 t)
  c10 : ∃ t, mg "RULE" = some (.int 10 t)
  c11 : ∃ t, mg "FAR" = some (.int 11 t)
/-- the desk's methods -/
structure Env2 (P : Program) (w : World) (K : PySem.W.Frag) (mg : Str → Option Value) (base : Heap) (CP CD : Addr) : Prop where
  td : TD K CD
  m1 : ∃ f fd, Mn K CD "begin" f fd ["self", "q", "plus", "minus"] ∧ FnOk P w K mg base CX0 6 f fd ["self", "q", "plus", "minus"] (spBegin K CP CD)
  m2 : ∃ f fd, Mn K CD "change_steps" f fd ["self", "plus", "minus"] ∧ FnOk P w K mg base CX0 2 f fd ["self", "plus", "minus"] (spSteps K CP CD)
  m3 : ∃ f fd, Mn K CD "cut" f fd ["self", "c_plus", "c_minus", "plus", "minus"] ∧ FnOk P w K mg base CX0 7 f fd ["self", "c_plus", "c_minus", "plus", "minus"] (spCut K CP CD)
  m4 : ∃ f fd, Mn K CD "shift" f fd ["self", "plus", "minus"] ∧ FnOk P w K mg base CX0 4 f fd ["self", "plus", "minus"] (spShift K CP CD)
  m5 : ∃ f fd, Mn K CD "undo" f fd ["self"] ∧ FnOk P w K mg base CX0 1 f fd ["self"] (spUndo K CP CD)
  m6 : ∃ f fd, Mn K CD "tell_corners" f fd ["self"] ∧ FnOk P w K mg base CX0 3 f fd ["self"] (spTell K CP CD)
  m7 : ∃ f fd, Mn K CD "tell_area" f fd ["self"] ∧ FnOk P w K mg base CX0 3 f fd ["self"] (spTar K CP CD)
  m8 : ∃ f fd, Mn K CD "tell_count" f fd ["self", "k"] ∧ FnOk P w K mg base CX0 8 f fd ["self", "k"] (spTc K CP CD)
  m9 : ∃ f fd, Mn K CD "tell_inside" f fd ["self", "k"] ∧ FnOk P w K mg base CX0 8 f fd ["self", "k"] (spTi K CP CD)
  m10 : ∃ f fd, Mn K CD "tell_rule" f fd ["self"] ∧ FnOk P w K mg base CX0 9 f fd ["self"] (spTru K CP CD)
  m11 : ∃ f fd, Mn K CD "tell_far" f fd ["self", "k"] ∧ FnOk P w K mg base CX0 10 f fd ["self", "k"] (spTf K CP CD)
  m12 : ∃ f fd, Mn K CD "tell_hull" f fd ["self"] ∧ FnOk P w K mg base CX0 8 f fd ["self"] (spTh K CP CD)
theorem nV_of {r : List Int} (h : ∀ z ∈ r, 0 ≤ z) : nV (r.map fun z => z.toNat) = r.map V.int := by
  show (r.map fun z => z.toNat).map (fun (n : Nat) => V.int (n : Int)) = _
  rw [List.map_map]
  refine List.map_congr_left fun z hz => ?_
  show V.int ((z.toNat : Nat) : Int) = V.int z
  rw [Int.toNat_of_nonneg (h z hz)]
section
variable {P : Program} {w : World} {K : PySem.W.Frag} {mg : Str → Option Value} {base : Heap} {CP CD : Addr}
theorem two_rows {H : Hp} {rvs : List V} {r1 r2 : List Int} (h : Rel2 (IntsAt H) rvs [r1, r2]) : ∃ l1 l2, rvs = [.ref l1, .ref l2] ∧ H l1 = some (.lst (r1.map V.int)) ∧ H l2 = some (.lst (r2.map V.int)) := by
  cases h with
  | cons h1 r =>
    cases r with
    | cons h2 r =>
      cases r
      obtain ⟨l1, rfl, e1⟩ := h1
      obtain ⟨l2, rfl, e2⟩ := h2
      exact ⟨l1, l2, rfl, e1, e2⟩
/-- two rows as the methods take them -/
theorem row_at {H : Hp} {l : Addr} {r : List Int} (h : H l = some (.lst (r.map V.int))) (h0 : ∀ z ∈ r, 0 ≤ z) : SqL K H l (nV (r.map fun z => z.toNat)) := by
  rw [nV_of h0]
  exact .inl (.inl h)
/-- no field of the desk has a method's name -/
theorem no_f (p : Addr) (s : V) (k : Addr) {m : Str} (h1 : (m == ("polygon" : Str)) = false := by decide +kernel) (h2 : (m == ("steps" : Str)) = false := by decide +kernel) (h3 : (m == ("kept" : Str)) = false := by decide +kernel) : (deskF p s k).lookup m = none := dF_none p s k h1 h2 h3
/-! ### ask_about -/
abbrev sAa : Stmt := top 79
def spAa (K : PySem.W.Frag) (CP CD : Addr) : Sp := fun vs H Q _ => ∃ (d k : Addr) (h : House) (t : Nat) (p : Int) (wl : Addr) (ws : List Int) (x : Sq71.Call),
  vs = [.ref d, .int p, .ref wl] ∧ DeskAt K CP CD H d k h ∧ GoodH h t ∧ t ≤ 40 ∧ SqL K H wl (ws.map V.int) ∧ (∀ z ∈ ws, 0 ≤ z) ∧ 6 ≤ p ∧ Sq71Neutral.callOf [p :: ws] = some x ∧ Ans K CP CD H d k (h.step x) Q
theorem scAa : FnScope ["desk", "call", "wholes"] ["desk", "call", "wholes"] (defScope sAa) := ⟨rfl, rfl, rfl, by decide +kernel, rfl, by decide +kernel, by decide +kernel⟩
theorem ok_aa (V2 : Env2 P w K mg base CP CD) (N : Nums mg) {f : Addr} {fd : FuncData} (F : Fun K "ask_about" "ask_about" sAa f fd) : FnOk P w K mg base CX0 11 f fd ["desk", "call", "wholes"] (spAa K CP CD) := by
  obtain ⟨_, c6⟩ := N.c6
  obtain ⟨_, c7⟩ := N.c7
  obtain ⟨_, c8⟩ := N.c8
  obtain ⟨_, c9⟩ := N.c9
  obtain ⟨_, c10⟩ := N.c10
  obtain ⟨_, c11⟩ := N.c11
  obtain ⟨_, _, m6, g6⟩ := V2.m6
  obtain ⟨_, _, m7, g7⟩ := V2.m7
  obtain ⟨_, _, m8, g8⟩ := V2.m8
  obtain ⟨_, _, m9, g9⟩ := V2.m9
  obtain ⟨_, _, m10, g10⟩ := V2.m10
  obtain ⟨_, _, m11, g11⟩ := V2.m11
  obtain ⟨_, _, m12, g12⟩ := V2.m12
  have T := V2.td.cl
  refine F.ok scAa (fun vs H Q E h => ?_) (fun cdv A outer s H vs Q E hr h => ⟨_,
    pss_cons (ps_if (pt_cmpR op_eq (pv 1) (pe_num rfl c6) (nomark _)) (pss_one (ps_ret (pe_meth0 (pv 0) T m6.m g6 (hr.mono (by decide)) m6.b .nil pass0))) pss_nil)
    (pss_cons (ps_if (pt_cmpR op_eq (pv 1) (pe_num rfl c7) (nomark _)) (pss_one (ps_ret (pe_meth0 (pv 0) T m7.m g7 (hr.mono (by decide)) m7.b .nil pass0))) pss_nil)
    (pss_cons (ps_if (pt_cmpR op_eq (pv 1) (pe_num rfl c8) (nomark _)) (pss_one (ps_ret (pe_meth (pv 0) T m8.m g8 (hr.mono (by decide)) m8.b .nil pass0 (pa_cons (pe_ix ix_list (pv 2) pe_int (fun _ _ => rfl)) pa_nil)))) pss_nil)
    (pss_cons (ps_if (pt_cmpR op_eq (pv 1) (pe_num rfl c9) (nomark _)) (pss_one (ps_ret (pe_meth (pv 0) T m9.m g9 (hr.mono (by decide)) m9.b .nil pass0 (pa_cons (pe_ix ix_list (pv 2) pe_int (fun _ _ => rfl)) pa_nil)))) pss_nil)
    (pss_cons (ps_if (pt_cmpR op_eq (pv 1) (pe_num rfl c10) (nomark _)) (pss_one (ps_ret (pe_meth0 (pv 0) T m10.m g10 (hr.mono (by decide)) m10.b .nil pass0))) pss_nil)
    (pss_cons (ps_if (pt_cmpR op_eq (pv 1) (pe_num rfl c11) (nomark _)) (pss_one (ps_ret (pe_meth (pv 0) T m11.m g11 (hr.mono (by decide)) m11.b .nil pass0 (pa_cons (pe_ix ix_list (pv 2) pe_int (fun _ _ => rfl)) pa_nil)))) pss_nil)
    (pss_one (ps_ret (pe_meth0 (pv 0) T m12.m g12 (hr.mono (by decide)) m12.b .nil pass0)))))))), ?_⟩)
  · obtain ⟨d, k, h, t, p, wl, ws, x, rfl, _⟩ := h
    rfl
  · obtain ⟨d, k, h, t, p, wl, ws, x, rfl, D, gh, ht, hw, hws, hp, hx, q⟩ := h
    obtain ⟨dd, F0, pp, sv, vs, hd, _⟩ := D.ex
    unfold Sq71Neutral.callOf at hx
    dsimp only at hx
    split at hx
    all_goals rename_i e
    all_goals try injection e with e1 e2
    all_goals try cases e2
    all_goals try injection e1 with ep ew
    all_goals try (subst ep; exact absurd hp (by decide))
    all_goals try cases hx
    · subst ep ew
      refine ⟨_, rfl, rfl, _, rfl, if_true_of (by decide) ?_⟩
      exact ⟨_, rfl, d, dd, _, rfl, hd, no_f _ _ _, d, k, h, t, rfl, D, gh, ht, q⟩
    · subst ep ew
      refine ⟨_, rfl, rfl, _, rfl, if_false_of (by decide) ?_⟩
      refine ⟨_, rfl, rfl, _, rfl, if_true_of (by decide) ?_⟩
      exact ⟨_, rfl, d, dd, _, rfl, hd, no_f _ _ _, d, k, h, t, rfl, D, gh, ht, q⟩
    · rename_i a
      subst ep ew
      have ha : ((a.toNat : Nat) : Int) = a := Int.toNat_of_nonneg (hws a (by simp))
      refine ⟨_, rfl, rfl, _, rfl, if_false_of (by decide) ?_⟩
      refine ⟨_, rfl, rfl, _, rfl, if_false_of (by decide) ?_⟩
      refine ⟨_, rfl, rfl, _, rfl, if_true_of (by decide) ?_⟩
      exact ⟨_, rfl, d, dd, _, rfl, hd, no_f _ _ _, _, rfl, wl, _, _, _, rfl, rfl, hw, rfl, d, k, h, t, a.toNat, (by rw [ha]; rfl), D, gh, ht, q⟩
    · rename_i a
      subst ep ew
      have ha : ((a.toNat : Nat) : Int) = a := Int.toNat_of_nonneg (hws a (by simp))
      refine ⟨_, rfl, rfl, _, rfl, if_false_of (by decide) ?_⟩
      refine ⟨_, rfl, rfl, _, rfl, if_false_of (by decide) ?_⟩
      refine ⟨_, rfl, rfl, _, rfl, if_false_of (by decide) ?_⟩
      refine ⟨_, rfl, rfl, _, rfl, if_true_of (by decide) ?_⟩
      exact ⟨_, rfl, d, dd, _, rfl, hd, no_f _ _ _, _, rfl, wl, _, _, _, rfl, rfl, hw, rfl, d, k, h, t, a.toNat, (by rw [ha]; rfl), D, gh, ht, q⟩
    · subst ep ew
      refine ⟨_, rfl, rfl, _, rfl, if_false_of (by decide) ?_⟩
      refine ⟨_, rfl, rfl, _, rfl, if_false_of (by decide) ?_⟩
      refine ⟨_, rfl, rfl, _, rfl, if_false_of (by decide) ?_⟩
      refine ⟨_, rfl, rfl, _, rfl, if_false_of (by decide) ?_⟩
      refine ⟨_, rfl, rfl, _, rfl, if_true_of (by decide) ?_⟩
      exact ⟨_, rfl, d, dd, _, rfl, hd, no_f _ _ _, d, k, h, t, rfl, D, gh, ht, q⟩
    · rename_i a
      subst ep ew
      have ha : ((a.toNat : Nat) : Int) = a := Int.toNat_of_nonneg (hws a (by simp))
      refine ⟨_, rfl, rfl, _, rfl, if_false_of (by decide) ?_⟩
      refine ⟨_, rfl, rfl, _, rfl, if_false_of (by decide) ?_⟩
      refine ⟨_, rfl, rfl, _, rfl, if_false_of (by decide) ?_⟩
      refine ⟨_, rfl, rfl, _, rfl, if_false_of (by decide) ?_⟩
      refine ⟨_, rfl, rfl, _, rfl, if_false_of (by decide) ?_⟩
      refine ⟨_, rfl, rfl, _, rfl, if_true_of (by decide) ?_⟩
      exact ⟨_, rfl, d, dd, _, rfl, hd, no_f _ _ _, _, rfl, wl, _, _, _, rfl, rfl, hw, rfl, d, k, h, t, a.toNat, (by rw [ha]; rfl), D, gh, ht, q⟩
    · subst ep ew
      refine ⟨_, rfl, rfl, _, rfl, if_false_of (by decide) ?_⟩
      refine ⟨_, rfl, rfl, _, rfl, if_false_of (by decide) ?_⟩
      refine ⟨_, rfl, rfl, _, rfl, if_false_of (by decide) ?_⟩
      refine ⟨_, rfl, rfl, _, rfl, if_false_of (by decide) ?_⟩
      refine ⟨_, rfl, rfl, _, rfl, if_false_of (by decide) ?_⟩
      refine ⟨_, rfl, rfl, _, rfl, if_false_of (by decide) ?_⟩
      exact ⟨_, rfl, d, dd, _, rfl, hd, no_f _ _ _, d, k, h, t, rfl, D, gh, ht, q⟩
theorem scAsk : FnScope ["desk", "call", "wholes", "rows"] ["desk", "call", "wholes", "rows"] (defScope sAsk) := ⟨rfl, rfl, rfl, by decide +kernel, rfl, by decide +kernel, by decide +kernel⟩
theorem ok_ask (V2 : Env2 P w K mg base CP CD) (N : Nums mg) {f fa : Addr} {fd fda : FuncData} (F : Fun K "ask" "ask" sAsk f fd) (NA : Dn K mg "ask_about" fa fda ["desk", "call", "wholes"]) (GA : FnOk P w K mg base CX0 11 fa fda ["desk", "call", "wholes"] (spAa K CP CD)) : FnOk P w K mg base CX0 12 f fd ["desk", "call", "wholes", "rows"] (spAsk K CP CD) := by
  obtain ⟨_, c1⟩ := N.c1
  obtain ⟨_, c2⟩ := N.c2
  obtain ⟨_, c3⟩ := N.c3
  obtain ⟨_, c4⟩ := N.c4
  obtain ⟨_, c5⟩ := N.c5
  obtain ⟨_, _, m1, g1⟩ := V2.m1
  obtain ⟨_, _, m2, g2⟩ := V2.m2
  obtain ⟨_, _, m3, g3⟩ := V2.m3
  obtain ⟨_, _, m4, g4⟩ := V2.m4
  obtain ⟨_, _, m5, g5⟩ := V2.m5
  have T := V2.td.cl
  refine F.ok scAsk (fun vs H Q E h => ?_) (fun cdv A outer s H vs Q E hr h => ⟨_,
    pss_cons (ps_if (pt_cmpR op_eq (pv 1) (pe_num rfl c1) (nomark _)) (pss_one (ps_ret (pe_meth (pv 0) T m1.m g1 (hr.mono (by decide)) m1.b .nil pass0
      (pa_cons (pe_ix ix_list (pv 2) pe_int (fun _ _ => rfl)) (pa_cons (pe_ix ix_list (pv 3) pe_int (fun _ _ => rfl)) (pa_cons (pe_ix ix_list (pv 3) pe_int (fun _ _ => rfl)) pa_nil)))))) pss_nil)
    (pss_cons (ps_if (pt_cmpR op_eq (pv 1) (pe_num rfl c2) (nomark _)) (pss_one (ps_ret (pe_meth (pv 0) T m2.m g2 (hr.mono (by decide)) m2.b .nil pass0
      (pa_cons (pe_ix ix_list (pv 3) pe_int (fun _ _ => rfl)) (pa_cons (pe_ix ix_list (pv 3) pe_int (fun _ _ => rfl)) pa_nil))))) pss_nil)
    (pss_cons (ps_if (pt_cmpR op_eq (pv 1) (pe_num rfl c3) (nomark _)) (pss_one (ps_ret (pe_meth (pv 0) T m3.m g3 (hr.mono (by decide)) m3.b .nil pass0
      (pa_cons (pe_ix ix_list (pv 2) pe_int (fun _ _ => rfl)) (pa_cons (pe_ix ix_list (pv 2) pe_int (fun _ _ => rfl)) (pa_cons (pe_ix ix_list (pv 3) pe_int (fun _ _ => rfl)) (pa_cons (pe_ix ix_list (pv 3) pe_int (fun _ _ => rfl)) pa_nil))))))) pss_nil)
    (pss_cons (ps_if (pt_cmpR op_eq (pv 1) (pe_num rfl c4) (nomark _)) (pss_one (ps_ret (pe_meth (pv 0) T m4.m g4 (hr.mono (by decide)) m4.b .nil pass0
      (pa_cons (pe_ix ix_list (pv 3) pe_int (fun _ _ => rfl)) (pa_cons (pe_ix ix_list (pv 3) pe_int (fun _ _ => rfl)) pa_nil))))) pss_nil)
    (pss_cons (ps_if (pt_cmpR op_eq (pv 1) (pe_num rfl c5) (nomark _)) (pss_one (ps_ret (pe_meth0 (pv 0) T m5.m g5 (hr.mono (by decide)) m5.b .nil pass0))) pss_nil)
    (pss_one (ps_ret (pe_call GA hr rfl NA.g NA.kp NA.b .nil pass0 (pa_cons (pv 0) (pa_cons (pv 1) (pa_cons (pv 2) pa_nil)))))))))), ?_⟩)
  · obtain ⟨d, k, h, t, p, wl, rl, ws, rvs, rows, x, rfl, _⟩ := h
    rfl
  · obtain ⟨d, k, h, t, p, wl, rl, ws, rvs, rows, x, rfl, D, gh, ht, hw, hrl, hrel, hp, hws, hrw, hx, q⟩ := h
    obtain ⟨dd, F0, pp, sv, vs, hd, _⟩ := D.ex
    unfold Sq71Neutral.callOf at hx
    dsimp only at hx
    split at hx
    all_goals rename_i e
    all_goals try injection e with e1 e2
    all_goals try injection e1 with ep ew
    all_goals try cases hx
    · rename_i a r1 r2
      subst ep ew e2
      obtain ⟨l1, l2, rfl, q1, q2⟩ := two_rows hrel
      have ha : ((a.toNat : Nat) : Int) = a := Int.toNat_of_nonneg (hws a (by simp))
      refine ⟨_, rfl, rfl, _, rfl, if_true_of (by decide) ?_⟩
      refine ⟨_, rfl, d, dd, _, rfl, hd, no_f _ _ _, _, rfl, wl, _, _, _, rfl, rfl, hw, rfl, ?_⟩
      refine ⟨_, rfl, rl, _, _, _, rfl, rfl, hrl, at0, _, rfl, rl, _, _, _, rfl, rfl, hrl, at1, ?_⟩
      refine ⟨d, k, h, a.toNat, l1, l2, _, _, (by rw [ha]; rfl), D, row_at q1 (hrw r1 (by simp)).2, row_at q2 (hrw r2 (by simp)).2, ?_, ?_, q⟩
      · rw [List.length_map]; exact (hrw r1 (by simp)).1
      · rw [List.length_map]; exact (hrw r2 (by simp)).1
    · rename_i r1 r2
      subst ep ew e2
      obtain ⟨l1, l2, rfl, q1, q2⟩ := two_rows hrel
      refine ⟨_, rfl, rfl, _, rfl, if_false_of (by decide) ?_⟩
      refine ⟨_, rfl, rfl, _, rfl, if_true_of (by decide) ?_⟩
      refine ⟨_, rfl, d, dd, _, rfl, hd, no_f _ _ _, _, rfl, rl, _, _, _, rfl, rfl, hrl, at0, _, rfl, rl, _, _, _, rfl, rfl, hrl, at1, ?_⟩
      refine ⟨d, k, h, t, l1, l2, _, _, rfl, D, gh, ht, row_at q1 (hrw r1 (by simp)).2, row_at q2 (hrw r2 (by simp)).2, ?_, q⟩
      rw [List.length_map]; exact (hrw r1 (by simp)).1
    · rename_i a b r1 r2
      subst ep ew e2
      obtain ⟨l1, l2, rfl, q1, q2⟩ := two_rows hrel
      have ha : ((a.toNat : Nat) : Int) = a := Int.toNat_of_nonneg (hws a (by simp))
      have hb : ((b.toNat : Nat) : Int) = b := Int.toNat_of_nonneg (hws b (by simp))
      refine ⟨_, rfl, rfl, _, rfl, if_false_of (by decide) ?_⟩
      refine ⟨_, rfl, rfl, _, rfl, if_false_of (by decide) ?_⟩
      refine ⟨_, rfl, rfl, _, rfl, if_true_of (by decide) ?_⟩
      refine ⟨_, rfl, d, dd, _, rfl, hd, no_f _ _ _, _, rfl, wl, _, _, _, rfl, rfl, hw, at0, _, rfl, wl, _, _, _, rfl, rfl, hw, at1, ?_⟩
      refine ⟨_, rfl, rl, _, _, _, rfl, rfl, hrl, at0, _, rfl, rl, _, _, _, rfl, rfl, hrl, at1, ?_⟩
      refine ⟨d, k, h, t, a.toNat, b.toNat, l1, l2, _, _, (by rw [ha, hb]; rfl), D, gh, ht, row_at q1 (hrw r1 (by simp)).2, row_at q2 (hrw r2 (by simp)).2, ?_, q⟩
      rw [List.length_map]; exact (hrw r1 (by simp)).1
    · rename_i r1 r2
      subst ep ew e2
      obtain ⟨l1, l2, rfl, q1, q2⟩ := two_rows hrel
      refine ⟨_, rfl, rfl, _, rfl, if_false_of (by decide) ?_⟩
      refine ⟨_, rfl, rfl, _, rfl, if_false_of (by decide) ?_⟩
      refine ⟨_, rfl, rfl, _, rfl, if_false_of (by decide) ?_⟩
      refine ⟨_, rfl, rfl, _, rfl, if_true_of (by decide) ?_⟩
      refine ⟨_, rfl, d, dd, _, rfl, hd, no_f _ _ _, _, rfl, rl, _, _, _, rfl, rfl, hrl, at0, _, rfl, rl, _, _, _, rfl, rfl, hrl, at1, ?_⟩
      refine ⟨d, k, h, t, l1, l2, _, _, rfl, D, gh, ht, row_at q1 (hrw r1 (by simp)).2, row_at q2 (hrw r2 (by simp)).2, ?_, q⟩
      rw [List.length_map]; exact (hrw r1 (by simp)).1
    · subst ep ew e2
      refine ⟨_, rfl, rfl, _, rfl, if_false_of (by decide) ?_⟩
      refine ⟨_, rfl, rfl, _, rfl, if_false_of (by decide) ?_⟩
      refine ⟨_, rfl, rfl, _, rfl, if_false_of (by decide) ?_⟩
      refine ⟨_, rfl, rfl, _, rfl, if_false_of (by decide) ?_⟩
      refine ⟨_, rfl, rfl, _, rfl, if_true_of (by decide) ?_⟩
      exact ⟨_, rfl, d, dd, _, rfl, hd, no_f _ _ _, d, k, h, rfl, D, q⟩
    · subst ep ew e2
      refine ⟨_, rfl, rfl, _, rfl, if_false_of (by decide) ?_⟩
      refine ⟨_, rfl, rfl, _, rfl, if_false_of (by decide) ?_⟩
      refine ⟨_, rfl, rfl, _, rfl, if_false_of (by decide) ?_⟩
      refine ⟨_, rfl, rfl, _, rfl, if_false_of (by decide) ?_⟩
      refine ⟨_, rfl, rfl, _, rfl, if_false_of (by decide) ?_⟩
      exact ⟨_, rfl, _, rfl, _, rfl, d, k, h, t, _, wl, _, _, rfl, D, gh, ht, hw, hws, by decide, rfl, q⟩
    · subst ep ew e2
      refine ⟨_, rfl, rfl, _, rfl, if_false_of (by decide) ?_⟩
      refine ⟨_, rfl, rfl, _, rfl, if_false_of (by decide) ?_⟩
      refine ⟨_, rfl, rfl, _, rfl, if_false_of (by decide) ?_⟩
      refine ⟨_, rfl, rfl, _, rfl, if_false_of (by decide) ?_⟩
      refine ⟨_, rfl, rfl, _, rfl, if_false_of (by decide) ?_⟩
      exact ⟨_, rfl, _, rfl, _, rfl, d, k, h, t, _, wl, _, _, rfl, D, gh, ht, hw, hws, by decide, rfl, q⟩
    · subst ep ew e2
      refine ⟨_, rfl, rfl, _, rfl, if_false_of (by decide) ?_⟩
      refine ⟨_, rfl, rfl, _, rfl, if_false_of (by decide) ?_⟩
      refine ⟨_, rfl, rfl, _, rfl, if_false_of (by decide) ?_⟩
      refine ⟨_, rfl, rfl, _, rfl, if_false_of (by decide) ?_⟩
      refine ⟨_, rfl, rfl, _, rfl, if_false_of (by decide) ?_⟩
      exact ⟨_, rfl, _, rfl, _, rfl, d, k, h, t, _, wl, _, _, rfl, D, gh, ht, hw, hws, by decide, rfl, q⟩
    · subst ep ew e2
      refine ⟨_, rfl, rfl, _, rfl, if_false_of (by decide) ?_⟩
      refine ⟨_, rfl, rfl, _, rfl, if_false_of (by decide) ?_⟩
      refine ⟨_, rfl, rfl, _, rfl, if_false_of (by decide) ?_⟩
      refine ⟨_, rfl, rfl, _, rfl, if_false_of (by decide) ?_⟩
      refine ⟨_, rfl, rfl, _, rfl, if_false_of (by decide) ?_⟩
      exact ⟨_, rfl, _, rfl, _, rfl, d, k, h, t, _, wl, _, _, rfl, D, gh, ht, hw, hws, by decide, rfl, q⟩
    · subst ep ew e2
      refine ⟨_, rfl, rfl, _, rfl, if_false_of (by decide) ?_⟩
      refine ⟨_, rfl, rfl, _, rfl, if_false_of (by decide) ?_⟩
      refine ⟨_, rfl, rfl, _, rfl, if_false_of (by decide) ?_⟩
      refine ⟨_, rfl, rfl, _, rfl, if_false_of (by decide) ?_⟩
      refine ⟨_, rfl, rfl, _, rfl, if_false_of (by decide) ?_⟩
      exact ⟨_, rfl, _, rfl, _, rfl, d, k, h, t, _, wl, _, _, rfl, D, gh, ht, hw, hws, by decide, rfl, q⟩
    · subst ep ew e2
      refine ⟨_, rfl, rfl, _, rfl, if_false_of (by decide) ?_⟩
      refine ⟨_, rfl, rfl, _, rfl, if_false_of (by decide) ?_⟩
      refine ⟨_, rfl, rfl, _, rfl, if_false_of (by decide) ?_⟩
      refine ⟨_, rfl, rfl, _, rfl, if_false_of (by decide) ?_⟩
      refine ⟨_, rfl, rfl, _, rfl, if_false_of (by decide) ?_⟩
      exact ⟨_, rfl, _, rfl, _, rfl, d, k, h, t, _, wl, _, _, rfl, D, gh, ht, hw, hws, by decide, rfl, q⟩
    · subst ep ew e2
      refine ⟨_, rfl, rfl, _, rfl, if_false_of (by decide) ?_⟩
      refine ⟨_, rfl, rfl, _, rfl, if_false_of (by decide) ?_⟩
      refine ⟨_, rfl, rfl, _, rfl, if_false_of (by decide) ?_⟩
      refine ⟨_, rfl, rfl, _, rfl, if_false_of (by decide) ?_⟩
      refine ⟨_, rfl, rfl, _, rfl, if_false_of (by decide) ?_⟩
      exact ⟨_, rfl, _, rfl, _, rfl, d, k, h, t, _, wl, _, _, rfl, D, gh, ht, hw, hws, by decide, rfl, q⟩
end
end Pw
end

section
namespace Pw
open PySem PySem.Spec PyProof.Rows L2
theorem def_of {fa : List He.Fa} {fn : List He.FnD} {K : PySem.W.Frag} (c : He.SaysE fa fn K) (i : Nat) {at_ : Str × Option Str} {x q : Str} {st : Stmt}
    (h : fn[i]? = some ⟨at_, x, q, defArgs st, defBody st, defScope st⟩) (k : PySem.W.keepIn K (.ref (He.fAd K at_)) = true) : ∃ fd, Fun K x q st (He.fAd K at_) fd := by
  obtain ⟨oc, od, osl, kV, doc, pm, an, cdv, ct, lk, cd⟩ := c.def_ i h
  exact ⟨_, fun_mk lk cd k⟩
/-! ### the facts that the head reads -/
def fa0 : List He.Fa := [.free "abs", .free "any", .free "enumerate", .free "len", .free "list", .free "max", .free "min", .free "range", .free "reversed", .free "set", .free "sorted", .free "sum"]
def fa1 : List He.Fa := [.free "zip", .int "WITH_EDGES" 0, .int "WITHIN" 1, .int "OUT_OF_BOUNDS" (-1), .int "WRONG_LISTS" (-3), .int "IN_ONE_LINE" (-4), .int "TOO_FINE" (-5), .int "NOTHING_KEPT" (-6), .int "MOST_KEPT" 20, .int "MOST_Q" 6, .int "LEAST_PLACES" 3, .int "MOST_PLACES" 8]
def fa2 : List He.Fa := [.int "FARTHEST_PLACE" 12, .int "FARTHEST_STEP" 6, .int "FARTHEST_CUT" 20, .int "FINEST_CUT" 1000, .int "FARTHEST_SHIFT" 20, .int "FARTHEST_CORNER" 100, .int "MOST_COUNTED" 60, .int "MOST_FAR" 1000000, .int "LONGEST_RULE" 36, .int "BEGIN" 1, .int "STEPS" 2, .int "CUT" 3]
def fa3 : List He.Fa := [.int "SHIFT" 4, .int "UNDO" 5, .int "CORNERS" 6, .int "AREA" 7, .int "COUNT" 8, .int "INSIDE" 9, .int "RULE" 10, .int "FAR" 11, .glo "Desk", .cls "Desk", .mkr "Desk", .glo "Polygon"]
def fa4 : List He.Fa := [.cls "Polygon", .mkr "Polygon", .glo "Stretch", .cls "Stretch", .mkr "Stretch", .noat "Desk" "polygon", .noat "Desk" "steps", .noat "Desk" "kept", .noat "Polygon" "scale", .noat "Polygon" "corners", .noat "Stretch" "width", .noat "Stretch" "slope"]
def fa5 : List He.Fa := [.noat "Stretch" "offset", .noat "Stretch" "lower", .glo "common_divisor", .keep "common_divisor", .glo "common_multiple", .keep "common_multiple", .glo "lowest_terms", .keep "lowest_terms", .glo "crosswise", .keep "crosswise", .glo "sum_of_floors", .keep "sum_of_floors"]
def fa6 : List He.Fa := [.glo "differences", .keep "differences", .glo "any_beyond", .keep "any_beyond", .meth "Polygon" "__init__", .glo "turn", .keep "turn", .glo "left_bends", .keep "left_bends", .glo "corners_between", .keep "corners_between", .glo "polygon_between"]
def fa7 : List He.Fa := [.keep "polygon_between", .glo "crossing", .keep "crossing", .glo "left_by_cut", .keep "left_by_cut", .glo "polygon_cut", .keep "polygon_cut", .glo "polygon_moved", .keep "polygon_moved", .glo "reaches_beyond", .keep "reaches_beyond", .glo "twice_area"]
def fa8 : List He.Fa := [.keep "twice_area", .meth "Stretch" "__init__", .glo "columns", .keep "columns", .glo "stretch_above", .keep "stretch_above", .glo "lower_stretches", .keep "lower_stretches", .glo "both_stretches", .keep "both_stretches", .glo "how_many", .keep "how_many"]
def fa9 : List He.Fa := [.glo "points_in", .keep "points_in", .glo "points_within", .keep "points_within", .glo "reaches_of", .keep "reaches_of", .glo "column_ends", .keep "column_ends", .glo "shared", .keep "shared", .glo "b_and_c", .keep "b_and_c"]
def fa10 : List He.Fa := [.glo "said_of", .keep "said_of", .glo "polygon_by_steps", .keep "polygon_by_steps", .glo "led_to", .keep "led_to", .glo "both_have", .keep "both_have", .glo "pairs", .keep "pairs", .meth "Desk" "__init__", .meth "Desk" "keep"]
def fa11 : List He.Fa := [.meth "Desk" "begin", .meth "Desk" "change_steps", .meth "Desk" "cut", .meth "Desk" "shift", .meth "Desk" "undo", .meth "Desk" "tell_corners", .meth "Desk" "tell_area", .meth "Desk" "by_steps", .meth "Desk" "tell_count", .meth "Desk" "tell_inside", .meth "Desk" "tell_rule", .meth "Desk" "tell_far"]
def fa12 : List He.Fa := [.meth "Desk" "tell_hull", .glo "read_call", .keep "read_call", .glo "ask", .keep "ask", .glo "ask_about", .keep "ask_about", .glo "answers", .keep "answers"]
def fa : List He.Fa := fa0 ++ fa1 ++ fa2 ++ fa3 ++ fa4 ++ fa5 ++ fa6 ++ fa7 ++ fa8 ++ fa9 ++ fa10 ++ fa11 ++ fa12
def fn0 : List He.FnD := [⟨("common_divisor", none), "common_divisor", "common_divisor", defArgs sCd, defBody sCd, defScope sCd⟩, ⟨("common_multiple", none), "common_multiple", "common_multiple", defArgs sCm, defBody sCm, defScope sCm⟩, ⟨("lowest_terms", none), "lowest_terms", "lowest_terms", defArgs sLt, defBody sLt, defScope sLt⟩, ⟨("crosswise", none), "crosswise", "crosswise", defArgs sCw, defBody sCw, defScope sCw⟩, ⟨("sum_of_floors", none), "sum_of_floors", "sum_of_floors", defArgs sSf, defBody sSf, defScope sSf⟩, ⟨("differences", none), "differences", "differences", defArgs sDf, defBody sDf, defScope sDf⟩]
def fn1 : List He.FnD := [⟨("any_beyond", none), "any_beyond", "any_beyond", defArgs sAb, defBody sAb, defScope sAb⟩, ⟨("Polygon", some "__init__"), "__init__", "Polygon.__init__", defArgs sPolyInit, defBody sPolyInit, defScope sPolyInit⟩, ⟨("turn", none), "turn", "turn", defArgs sTurn, defBody sTurn, defScope sTurn⟩, ⟨("left_bends", none), "left_bends", "left_bends", defArgs sLb, defBody sLb, defScope sLb⟩, ⟨("corners_between", none), "corners_between", "corners_between", defArgs sCb, defBody sCb, defScope sCb⟩, ⟨("polygon_between", none), "polygon_between", "polygon_between", defArgs sPb, defBody sPb, defScope sPb⟩]
def fn2 : List He.FnD := [⟨("crossing", none), "crossing", "crossing", defArgs sCr, defBody sCr, defScope sCr⟩, ⟨("left_by_cut", none), "left_by_cut", "left_by_cut", defArgs sLc, defBody sLc, defScope sLc⟩, ⟨("polygon_cut", none), "polygon_cut", "polygon_cut", defArgs sPc, defBody sPc, defScope sPc⟩, ⟨("polygon_moved", none), "polygon_moved", "polygon_moved", defArgs sPm, defBody sPm, defScope sPm⟩, ⟨("reaches_beyond", none), "reaches_beyond", "reaches_beyond", defArgs sRb, defBody sRb, defScope sRb⟩, ⟨("twice_area", none), "twice_area", "twice_area", defArgs sTa, defBody sTa, defScope sTa⟩]
def fn3 : List He.FnD := [⟨("Stretch", some "__init__"), "__init__", "Stretch.__init__", defArgs sStInit, defBody sStInit, defScope sStInit⟩, ⟨("columns", none), "columns", "columns", defArgs sCo, defBody sCo, defScope sCo⟩, ⟨("stretch_above", none), "stretch_above", "stretch_above", defArgs sSa, defBody sSa, defScope sSa⟩, ⟨("lower_stretches", none), "lower_stretches", "lower_stretches", defArgs sLs, defBody sLs, defScope sLs⟩, ⟨("both_stretches", none), "both_stretches", "both_stretches", defArgs sBs, defBody sBs, defScope sBs⟩, ⟨("how_many", none), "how_many", "how_many", defArgs sHm, defBody sHm, defScope sHm⟩]
def fn4 : List He.FnD := [⟨("points_in", none), "points_in", "points_in", defArgs sPi, defBody sPi, defScope sPi⟩, ⟨("points_within", none), "points_within", "points_within", defArgs sPwi, defBody sPwi, defScope sPwi⟩, ⟨("reaches_of", none), "reaches_of", "reaches_of", defArgs sRo, defBody sRo, defScope sRo⟩, ⟨("column_ends", none), "column_ends", "column_ends", defArgs sCe, defBody sCe, defScope sCe⟩, ⟨("shared", none), "shared", "shared", defArgs sShr, defBody sShr, defScope sShr⟩, ⟨("b_and_c", none), "b_and_c", "b_and_c", defArgs sBc, defBody sBc, defScope sBc⟩]
def fn5 : List He.FnD := [⟨("said_of", none), "said_of", "said_of", defArgs sSo, defBody sSo, defScope sSo⟩, ⟨("polygon_by_steps", none), "polygon_by_steps", "polygon_by_steps", defArgs sPs, defBody sPs, defScope sPs⟩, ⟨("led_to", none), "led_to", "led_to", defArgs sLed, defBody sLed, defScope sLed⟩, ⟨("both_have", none), "both_have", "both_have", defArgs sBh, defBody sBh, defScope sBh⟩, ⟨("pairs", none), "pairs", "pairs", defArgs sPr, defBody sPr, defScope sPr⟩, ⟨("Desk", some "__init__"), "__init__", "Desk.__init__", defArgs sDinit, defBody sDinit, defScope sDinit⟩]
def fn6 : List He.FnD := [⟨("Desk", some "keep"), "keep", "Desk.keep", defArgs sKeep, defBody sKeep, defScope sKeep⟩, ⟨("Desk", some "begin"), "begin", "Desk.begin", defArgs sBegin, defBody sBegin, defScope sBegin⟩, ⟨("Desk", some "change_steps"), "change_steps", "Desk.change_steps", defArgs sSteps, defBody sSteps, defScope sSteps⟩, ⟨("Desk", some "cut"), "cut", "Desk.cut", defArgs sCut, defBody sCut, defScope sCut⟩, ⟨("Desk", some "shift"), "shift", "Desk.shift", defArgs sShift, defBody sShift, defScope sShift⟩, ⟨("Desk", some "undo"), "undo", "Desk.undo", defArgs sUndo, defBody sUndo, defScope sUndo⟩]
def fn7 : List He.FnD := [⟨("Desk", some "tell_corners"), "tell_corners", "Desk.tell_corners", defArgs sTell, defBody sTell, defScope sTell⟩, ⟨("Desk", some "tell_area"), "tell_area", "Desk.tell_area", defArgs sTar, defBody sTar, defScope sTar⟩, ⟨("Desk", some "by_steps"), "by_steps", "Desk.by_steps", defArgs sBst, defBody sBst, defScope sBst⟩, ⟨("Desk", some "tell_count"), "tell_count", "Desk.tell_count", defArgs sTc, defBody sTc, defScope sTc⟩, ⟨("Desk", some "tell_inside"), "tell_inside", "Desk.tell_inside", defArgs sTi, defBody sTi, defScope sTi⟩, ⟨("Desk", some "tell_rule"), "tell_rule", "Desk.tell_rule", defArgs sTru, defBody sTru, defScope sTru⟩]
def fn8 : List He.FnD := [⟨("Desk", some "tell_far"), "tell_far", "Desk.tell_far", defArgs sTf, defBody sTf, defScope sTf⟩, ⟨("Desk", some "tell_hull"), "tell_hull", "Desk.tell_hull", defArgs sTh, defBody sTh, defScope sTh⟩, ⟨("read_call", none), "read_call", "read_call", defArgs sRead, defBody sRead, defScope sRead⟩, ⟨("ask", none), "ask", "ask", defArgs sAsk, defBody sAsk, defScope sAsk⟩, ⟨("ask_about", none), "ask_about", "ask_about", defArgs sAa, defBody sAa, defScope sAa⟩, ⟨("answers", none), "answers", "answers", defArgs sAns, defBody sAns, defScope sAns⟩]
def fn : List He.FnD := fn0 ++ fn1 ++ fn2 ++ fn3 ++ fn4 ++ fn5 ++ fn6 ++ fn7 ++ fn8
section
variable {K : PySem.W.Frag} {h : Heap} {mg : Str → Option Value} (X : K.In h) (G : h.Ns mainGlobals mg) (c : He.SaysE fa fn K)
include c
include X G in
theorem atCd : ∃ fd, Fun K "common_divisor" "common_divisor" sCd (He.ga K "common_divisor") fd ∧ Dn K mg "common_divisor" (He.ga K "common_divisor") fd ["one", "other"] := by
  have kp := He.keep_ok (c.fact 63 (f := .keep "common_divisor") rfl)
  obtain ⟨fd, F⟩ := def_of c 0 (at_ := ("common_divisor", none)) (x := "common_divisor") (q := "common_divisor") (st := sCd) rfl kp
  exact ⟨fd, F, He.glo_ok X G (c.fact 62 (f := .glo "common_divisor") rfl), kp, F.binds (fun _ _ _ _ _ _ us hl => match us, hl with | [_, _], _ => rfl)⟩
include X G in
theorem atCm : ∃ fd, Fun K "common_multiple" "common_multiple" sCm (He.ga K "common_multiple") fd ∧ Dn K mg "common_multiple" (He.ga K "common_multiple") fd ["one", "other"] := by
  have kp := He.keep_ok (c.fact 65 (f := .keep "common_multiple") rfl)
  obtain ⟨fd, F⟩ := def_of c 1 (at_ := ("common_multiple", none)) (x := "common_multiple") (q := "common_multiple") (st := sCm) rfl kp
  exact ⟨fd, F, He.glo_ok X G (c.fact 64 (f := .glo "common_multiple") rfl), kp, F.binds (fun _ _ _ _ _ _ us hl => match us, hl with | [_, _], _ => rfl)⟩
include X G in
theorem atLt : ∃ fd, Fun K "lowest_terms" "lowest_terms" sLt (He.ga K "lowest_terms") fd ∧ Dn K mg "lowest_terms" (He.ga K "lowest_terms") fd ["upper", "lower"] := by
  have kp := He.keep_ok (c.fact 67 (f := .keep "lowest_terms") rfl)
  obtain ⟨fd, F⟩ := def_of c 2 (at_ := ("lowest_terms", none)) (x := "lowest_terms") (q := "lowest_terms") (st := sLt) rfl kp
  exact ⟨fd, F, He.glo_ok X G (c.fact 66 (f := .glo "lowest_terms") rfl), kp, F.binds (fun _ _ _ _ _ _ us hl => match us, hl with | [_, _], _ => rfl)⟩
include X G in
theorem atCw : ∃ fd, Fun K "crosswise" "crosswise" sCw (He.ga K "crosswise") fd ∧ Dn K mg "crosswise" (He.ga K "crosswise") fd ["one", "other"] := by
  have kp := He.keep_ok (c.fact 69 (f := .keep "crosswise") rfl)
  obtain ⟨fd, F⟩ := def_of c 3 (at_ := ("crosswise", none)) (x := "crosswise") (q := "crosswise") (st := sCw) rfl kp
  exact ⟨fd, F, He.glo_ok X G (c.fact 68 (f := .glo "crosswise") rfl), kp, F.binds (fun _ _ _ _ _ _ us hl => match us, hl with | [_, _], _ => rfl)⟩
include X G in
theorem atSf : ∃ fd, Fun K "sum_of_floors" "sum_of_floors" sSf (He.ga K "sum_of_floors") fd ∧ Dn K mg "sum_of_floors" (He.ga K "sum_of_floors") fd ["count", "slope", "start", "lower"] := by
  have kp := He.keep_ok (c.fact 71 (f := .keep "sum_of_floors") rfl)
  obtain ⟨fd, F⟩ := def_of c 4 (at_ := ("sum_of_floors", none)) (x := "sum_of_floors") (q := "sum_of_floors") (st := sSf) rfl kp
  exact ⟨fd, F, He.glo_ok X G (c.fact 70 (f := .glo "sum_of_floors") rfl), kp, F.binds (fun _ _ _ _ _ _ us hl => match us, hl with | [_, _, _, _], _ => rfl)⟩
include X G in
theorem atDf : ∃ fd, Fun K "differences" "differences" sDf (He.ga K "differences") fd ∧ Dn K mg "differences" (He.ga K "differences") fd ["plus", "minus"] := by
  have kp := He.keep_ok (c.fact 73 (f := .keep "differences") rfl)
  obtain ⟨fd, F⟩ := def_of c 5 (at_ := ("differences", none)) (x := "differences") (q := "differences") (st := sDf) rfl kp
  exact ⟨fd, F, He.glo_ok X G (c.fact 72 (f := .glo "differences") rfl), kp, F.binds (fun _ _ _ _ _ _ us hl => match us, hl with | [_, _], _ => rfl)⟩
include X G in
theorem atAb : ∃ fd, Fun K "any_beyond" "any_beyond" sAb (He.ga K "any_beyond") fd ∧ Dn K mg "any_beyond" (He.ga K "any_beyond") fd ["numbers", "bound"] := by
  have kp := He.keep_ok (c.fact 75 (f := .keep "any_beyond") rfl)
  obtain ⟨fd, F⟩ := def_of c 6 (at_ := ("any_beyond", none)) (x := "any_beyond") (q := "any_beyond") (st := sAb) rfl kp
  exact ⟨fd, F, He.glo_ok X G (c.fact 74 (f := .glo "any_beyond") rfl), kp, F.binds (fun _ _ _ _ _ _ us hl => match us, hl with | [_, _], _ => rfl)⟩
theorem atPolyInit : ∃ fd, Fun K "__init__" "Polygon.__init__" sPolyInit (He.ma K (He.ga K "Polygon") "__init__") fd ∧ Binds K fd ["self", "scale", "corners"] [] ∧ Meth K (He.ga K "Polygon") "__init__" (He.ma K (He.ga K "Polygon") "__init__") := by
  have m := He.meth_ok (c.fact 76 (f := .meth "Polygon" "__init__") rfl)
  obtain ⟨fd, F⟩ := def_of c 7 (at_ := ("Polygon", some "__init__")) (x := "__init__") (q := "Polygon.__init__") (st := sPolyInit) rfl m.kp
  exact ⟨fd, F, F.binds (fun _ _ _ _ _ _ us hl => match us, hl with | [_, _, _], _ => rfl), m⟩
include X G in
theorem atTurn : ∃ fd, Fun K "turn" "turn" sTurn (He.ga K "turn") fd ∧ Dn K mg "turn" (He.ga K "turn") fd ["start", "middle", "end"] := by
  have kp := He.keep_ok (c.fact 78 (f := .keep "turn") rfl)
  obtain ⟨fd, F⟩ := def_of c 8 (at_ := ("turn", none)) (x := "turn") (q := "turn") (st := sTurn) rfl kp
  exact ⟨fd, F, He.glo_ok X G (c.fact 77 (f := .glo "turn") rfl), kp, F.binds (fun _ _ _ _ _ _ us hl => match us, hl with | [_, _, _], _ => rfl)⟩
include X G in
theorem atLb : ∃ fd, Fun K "left_bends" "left_bends" sLb (He.ga K "left_bends") fd ∧ Dn K mg "left_bends" (He.ga K "left_bends") fd ["places"] := by
  have kp := He.keep_ok (c.fact 80 (f := .keep "left_bends") rfl)
  obtain ⟨fd, F⟩ := def_of c 9 (at_ := ("left_bends", none)) (x := "left_bends") (q := "left_bends") (st := sLb) rfl kp
  exact ⟨fd, F, He.glo_ok X G (c.fact 79 (f := .glo "left_bends") rfl), kp, F.binds (fun _ _ _ _ _ _ us hl => match us, hl with | [_], _ => rfl)⟩
include X G in
theorem atCb : ∃ fd, Fun K "corners_between" "corners_between" sCb (He.ga K "corners_between") fd ∧ Dn K mg "corners_between" (He.ga K "corners_between") fd ["places"] := by
  have kp := He.keep_ok (c.fact 82 (f := .keep "corners_between") rfl)
  obtain ⟨fd, F⟩ := def_of c 10 (at_ := ("corners_between", none)) (x := "corners_between") (q := "corners_between") (st := sCb) rfl kp
  exact ⟨fd, F, He.glo_ok X G (c.fact 81 (f := .glo "corners_between") rfl), kp, F.binds (fun _ _ _ _ _ _ us hl => match us, hl with | [_], _ => rfl)⟩
include X G in
theorem atPb : ∃ fd, Fun K "polygon_between" "polygon_between" sPb (He.ga K "polygon_between") fd ∧ Dn K mg "polygon_between" (He.ga K "polygon_between") fd ["scale", "places"] := by
  have kp := He.keep_ok (c.fact 84 (f := .keep "polygon_between") rfl)
  obtain ⟨fd, F⟩ := def_of c 11 (at_ := ("polygon_between", none)) (x := "polygon_between") (q := "polygon_between") (st := sPb) rfl kp
  exact ⟨fd, F, He.glo_ok X G (c.fact 83 (f := .glo "polygon_between") rfl), kp, F.binds (fun _ _ _ _ _ _ us hl => match us, hl with | [_, _], _ => rfl)⟩
include X G in
theorem atCr : ∃ fd, Fun K "crossing" "crossing" sCr (He.ga K "crossing") fd ∧ Dn K mg "crossing" (He.ga K "crossing") fd ["start", "start_excess", "end", "end_excess"] := by
  have kp := He.keep_ok (c.fact 86 (f := .keep "crossing") rfl)
  obtain ⟨fd, F⟩ := def_of c 12 (at_ := ("crossing", none)) (x := "crossing") (q := "crossing") (st := sCr) rfl kp
  exact ⟨fd, F, He.glo_ok X G (c.fact 85 (f := .glo "crossing") rfl), kp, F.binds (fun _ _ _ _ _ _ us hl => match us, hl with | [_, _, _, _], _ => rfl)⟩
include X G in
theorem atLc : ∃ fd, Fun K "left_by_cut" "left_by_cut" sLc (He.ga K "left_by_cut") fd ∧ Dn K mg "left_by_cut" (He.ga K "left_by_cut") fd ["polygon", "a", "b", "c"] := by
  have kp := He.keep_ok (c.fact 88 (f := .keep "left_by_cut") rfl)
  obtain ⟨fd, F⟩ := def_of c 13 (at_ := ("left_by_cut", none)) (x := "left_by_cut") (q := "left_by_cut") (st := sLc) rfl kp
  exact ⟨fd, F, He.glo_ok X G (c.fact 87 (f := .glo "left_by_cut") rfl), kp, F.binds (fun _ _ _ _ _ _ us hl => match us, hl with | [_, _, _, _], _ => rfl)⟩
include X G in
theorem atPc : ∃ fd, Fun K "polygon_cut" "polygon_cut" sPc (He.ga K "polygon_cut") fd ∧ Dn K mg "polygon_cut" (He.ga K "polygon_cut") fd ["polygon", "a", "b", "c"] := by
  have kp := He.keep_ok (c.fact 90 (f := .keep "polygon_cut") rfl)
  obtain ⟨fd, F⟩ := def_of c 14 (at_ := ("polygon_cut", none)) (x := "polygon_cut") (q := "polygon_cut") (st := sPc) rfl kp
  exact ⟨fd, F, He.glo_ok X G (c.fact 89 (f := .glo "polygon_cut") rfl), kp, F.binds (fun _ _ _ _ _ _ us hl => match us, hl with | [_, _, _, _], _ => rfl)⟩
include X G in
theorem atPm : ∃ fd, Fun K "polygon_moved" "polygon_moved" sPm (He.ga K "polygon_moved") fd ∧ Dn K mg "polygon_moved" (He.ga K "polygon_moved") fd ["polygon", "right", "up"] := by
  have kp := He.keep_ok (c.fact 92 (f := .keep "polygon_moved") rfl)
  obtain ⟨fd, F⟩ := def_of c 15 (at_ := ("polygon_moved", none)) (x := "polygon_moved") (q := "polygon_moved") (st := sPm) rfl kp
  exact ⟨fd, F, He.glo_ok X G (c.fact 91 (f := .glo "polygon_moved") rfl), kp, F.binds (fun _ _ _ _ _ _ us hl => match us, hl with | [_, _, _], _ => rfl)⟩
include X G in
theorem atRb : ∃ fd, Fun K "reaches_beyond" "reaches_beyond" sRb (He.ga K "reaches_beyond") fd ∧ Dn K mg "reaches_beyond" (He.ga K "reaches_beyond") fd ["polygon", "bound"] := by
  have kp := He.keep_ok (c.fact 94 (f := .keep "reaches_beyond") rfl)
  obtain ⟨fd, F⟩ := def_of c 16 (at_ := ("reaches_beyond", none)) (x := "reaches_beyond") (q := "reaches_beyond") (st := sRb) rfl kp
  exact ⟨fd, F, He.glo_ok X G (c.fact 93 (f := .glo "reaches_beyond") rfl), kp, F.binds (fun _ _ _ _ _ _ us hl => match us, hl with | [_, _], _ => rfl)⟩
include X G in
theorem atTa : ∃ fd, Fun K "twice_area" "twice_area" sTa (He.ga K "twice_area") fd ∧ Dn K mg "twice_area" (He.ga K "twice_area") fd ["polygon"] := by
  have kp := He.keep_ok (c.fact 96 (f := .keep "twice_area") rfl)
  obtain ⟨fd, F⟩ := def_of c 17 (at_ := ("twice_area", none)) (x := "twice_area") (q := "twice_area") (st := sTa) rfl kp
  exact ⟨fd, F, He.glo_ok X G (c.fact 95 (f := .glo "twice_area") rfl), kp, F.binds (fun _ _ _ _ _ _ us hl => match us, hl with | [_], _ => rfl)⟩
theorem atStInit : ∃ fd, Fun K "__init__" "Stretch.__init__" sStInit (He.ma K (He.ga K "Stretch") "__init__") fd ∧ Binds K fd ["self", "width", "slope", "offset", "lower"] [] ∧ Meth K (He.ga K "Stretch") "__init__" (He.ma K (He.ga K "Stretch") "__init__") := by
  have m := He.meth_ok (c.fact 97 (f := .meth "Stretch" "__init__") rfl)
  obtain ⟨fd, F⟩ := def_of c 18 (at_ := ("Stretch", some "__init__")) (x := "__init__") (q := "Stretch.__init__") (st := sStInit) rfl m.kp
  exact ⟨fd, F, F.binds (fun _ _ _ _ _ _ us hl => match us, hl with | [_, _, _, _, _], _ => rfl), m⟩
include X G in
theorem atCo : ∃ fd, Fun K "columns" "columns" sCo (He.ga K "columns") fd ∧ Dn K mg "columns" (He.ga K "columns") fd ["polygon", "size", "less"] := by
  have kp := He.keep_ok (c.fact 99 (f := .keep "columns") rfl)
  obtain ⟨fd, F⟩ := def_of c 19 (at_ := ("columns", none)) (x := "columns") (q := "columns") (st := sCo) rfl kp
  exact ⟨fd, F, He.glo_ok X G (c.fact 98 (f := .glo "columns") rfl), kp, F.binds (fun _ _ _ _ _ _ us hl => match us, hl with | [_, _, _], _ => rfl)⟩
include X G in
theorem atSa : ∃ fd, Fun K "stretch_above" "stretch_above" sSa (He.ga K "stretch_above") fd ∧ Dn K mg "stretch_above" (He.ga K "stretch_above") fd ["edge", "scale", "size", "span", "less"] := by
  have kp := He.keep_ok (c.fact 101 (f := .keep "stretch_above") rfl)
  obtain ⟨fd, F⟩ := def_of c 20 (at_ := ("stretch_above", none)) (x := "stretch_above") (q := "stretch_above") (st := sSa) rfl kp
  exact ⟨fd, F, He.glo_ok X G (c.fact 100 (f := .glo "stretch_above") rfl), kp, F.binds (fun _ _ _ _ _ _ us hl => match us, hl with | [_, _, _, _, _], _ => rfl)⟩
include X G in
theorem atLs : ∃ fd, Fun K "lower_stretches" "lower_stretches" sLs (He.ga K "lower_stretches") fd ∧ Dn K mg "lower_stretches" (He.ga K "lower_stretches") fd ["corners", "scale", "size", "span", "less"] := by
  have kp := He.keep_ok (c.fact 103 (f := .keep "lower_stretches") rfl)
  obtain ⟨fd, F⟩ := def_of c 21 (at_ := ("lower_stretches", none)) (x := "lower_stretches") (q := "lower_stretches") (st := sLs) rfl kp
  exact ⟨fd, F, He.glo_ok X G (c.fact 102 (f := .glo "lower_stretches") rfl), kp, F.binds (fun _ _ _ _ _ _ us hl => match us, hl with | [_, _, _, _, _], _ => rfl)⟩
include X G in
theorem atBs : ∃ fd, Fun K "both_stretches" "both_stretches" sBs (He.ga K "both_stretches") fd ∧ Dn K mg "both_stretches" (He.ga K "both_stretches") fd ["polygon", "size", "span", "less"] := by
  have kp := He.keep_ok (c.fact 105 (f := .keep "both_stretches") rfl)
  obtain ⟨fd, F⟩ := def_of c 22 (at_ := ("both_stretches", none)) (x := "both_stretches") (q := "both_stretches") (st := sBs) rfl kp
  exact ⟨fd, F, He.glo_ok X G (c.fact 104 (f := .glo "both_stretches") rfl), kp, F.binds (fun _ _ _ _ _ _ us hl => match us, hl with | [_, _, _, _], _ => rfl)⟩
include X G in
theorem atHm : ∃ fd, Fun K "how_many" "how_many" sHm (He.ga K "how_many") fd ∧ Dn K mg "how_many" (He.ga K "how_many") fd ["polygon", "size", "less"] := by
  have kp := He.keep_ok (c.fact 107 (f := .keep "how_many") rfl)
  obtain ⟨fd, F⟩ := def_of c 23 (at_ := ("how_many", none)) (x := "how_many") (q := "how_many") (st := sHm) rfl kp
  exact ⟨fd, F, He.glo_ok X G (c.fact 106 (f := .glo "how_many") rfl), kp, F.binds (fun _ _ _ _ _ _ us hl => match us, hl with | [_, _, _], _ => rfl)⟩
include X G in
theorem atPi : ∃ fd, Fun K "points_in" "points_in" sPi (He.ga K "points_in") fd ∧ Dn K mg "points_in" (He.ga K "points_in") fd ["polygon", "size"] := by
  have kp := He.keep_ok (c.fact 109 (f := .keep "points_in") rfl)
  obtain ⟨fd, F⟩ := def_of c 24 (at_ := ("points_in", none)) (x := "points_in") (q := "points_in") (st := sPi) rfl kp
  exact ⟨fd, F, He.glo_ok X G (c.fact 108 (f := .glo "points_in") rfl), kp, F.binds (fun _ _ _ _ _ _ us hl => match us, hl with | [_, _], _ => rfl)⟩
include X G in
theorem atPwi : ∃ fd, Fun K "points_within" "points_within" sPwi (He.ga K "points_within") fd ∧ Dn K mg "points_within" (He.ga K "points_within") fd ["polygon", "size"] := by
  have kp := He.keep_ok (c.fact 111 (f := .keep "points_within") rfl)
  obtain ⟨fd, F⟩ := def_of c 25 (at_ := ("points_within", none)) (x := "points_within") (q := "points_within") (st := sPwi) rfl kp
  exact ⟨fd, F, He.glo_ok X G (c.fact 110 (f := .glo "points_within") rfl), kp, F.binds (fun _ _ _ _ _ _ us hl => match us, hl with | [_, _], _ => rfl)⟩
include X G in
theorem atRo : ∃ fd, Fun K "reaches_of" "reaches_of" sRo (He.ga K "reaches_of") fd ∧ Dn K mg "reaches_of" (He.ga K "reaches_of") fd ["stretches"] := by
  have kp := He.keep_ok (c.fact 113 (f := .keep "reaches_of") rfl)
  obtain ⟨fd, F⟩ := def_of c 26 (at_ := ("reaches_of", none)) (x := "reaches_of") (q := "reaches_of") (st := sRo) rfl kp
  exact ⟨fd, F, He.glo_ok X G (c.fact 112 (f := .glo "reaches_of") rfl), kp, F.binds (fun _ _ _ _ _ _ us hl => match us, hl with | [_], _ => rfl)⟩
include X G in
theorem atCe : ∃ fd, Fun K "column_ends" "column_ends" sCe (He.ga K "column_ends") fd ∧ Dn K mg "column_ends" (He.ga K "column_ends") fd ["polygon"] := by
  have kp := He.keep_ok (c.fact 115 (f := .keep "column_ends") rfl)
  obtain ⟨fd, F⟩ := def_of c 27 (at_ := ("column_ends", none)) (x := "column_ends") (q := "column_ends") (st := sCe) rfl kp
  exact ⟨fd, F, He.glo_ok X G (c.fact 114 (f := .glo "column_ends") rfl), kp, F.binds (fun _ _ _ _ _ _ us hl => match us, hl with | [_], _ => rfl)⟩
include X G in
theorem atShr : ∃ fd, Fun K "shared" "shared" sShr (He.ga K "shared") fd ∧ Dn K mg "shared" (He.ga K "shared") fd ["polygon"] := by
  have kp := He.keep_ok (c.fact 117 (f := .keep "shared") rfl)
  obtain ⟨fd, F⟩ := def_of c 28 (at_ := ("shared", none)) (x := "shared") (q := "shared") (st := sShr) rfl kp
  exact ⟨fd, F, He.glo_ok X G (c.fact 116 (f := .glo "shared") rfl), kp, F.binds (fun _ _ _ _ _ _ us hl => match us, hl with | [_], _ => rfl)⟩
include X G in
theorem atBc : ∃ fd, Fun K "b_and_c" "b_and_c" sBc (He.ga K "b_and_c") fd ∧ Dn K mg "b_and_c" (He.ga K "b_and_c") fd ["polygon", "rest"] := by
  have kp := He.keep_ok (c.fact 119 (f := .keep "b_and_c") rfl)
  obtain ⟨fd, F⟩ := def_of c 29 (at_ := ("b_and_c", none)) (x := "b_and_c") (q := "b_and_c") (st := sBc) rfl kp
  exact ⟨fd, F, He.glo_ok X G (c.fact 118 (f := .glo "b_and_c") rfl), kp, F.binds (fun _ _ _ _ _ _ us hl => match us, hl with | [_, _], _ => rfl)⟩
include X G in
theorem atSo : ∃ fd, Fun K "said_of" "said_of" sSo (He.ga K "said_of") fd ∧ Dn K mg "said_of" (He.ga K "said_of") fd ["polygon", "size"] := by
  have kp := He.keep_ok (c.fact 121 (f := .keep "said_of") rfl)
  obtain ⟨fd, F⟩ := def_of c 30 (at_ := ("said_of", none)) (x := "said_of") (q := "said_of") (st := sSo) rfl kp
  exact ⟨fd, F, He.glo_ok X G (c.fact 120 (f := .glo "said_of") rfl), kp, F.binds (fun _ _ _ _ _ _ us hl => match us, hl with | [_, _], _ => rfl)⟩
include X G in
theorem atPs : ∃ fd, Fun K "polygon_by_steps" "polygon_by_steps" sPs (He.ga K "polygon_by_steps") fd ∧ Dn K mg "polygon_by_steps" (He.ga K "polygon_by_steps") fd ["polygon", "steps"] := by
  have kp := He.keep_ok (c.fact 123 (f := .keep "polygon_by_steps") rfl)
  obtain ⟨fd, F⟩ := def_of c 31 (at_ := ("polygon_by_steps", none)) (x := "polygon_by_steps") (q := "polygon_by_steps") (st := sPs) rfl kp
  exact ⟨fd, F, He.glo_ok X G (c.fact 122 (f := .glo "polygon_by_steps") rfl), kp, F.binds (fun _ _ _ _ _ _ us hl => match us, hl with | [_, _], _ => rfl)⟩
include X G in
theorem atLed : ∃ fd, Fun K "led_to" "led_to" sLed (He.ga K "led_to") fd ∧ Dn K mg "led_to" (He.ga K "led_to") fd ["steps", "place"] := by
  have kp := He.keep_ok (c.fact 125 (f := .keep "led_to") rfl)
  obtain ⟨fd, F⟩ := def_of c 32 (at_ := ("led_to", none)) (x := "led_to") (q := "led_to") (st := sLed) rfl kp
  exact ⟨fd, F, He.glo_ok X G (c.fact 124 (f := .glo "led_to") rfl), kp, F.binds (fun _ _ _ _ _ _ us hl => match us, hl with | [_, _], _ => rfl)⟩
include X G in
theorem atBh : ∃ fd, Fun K "both_have" "both_have" sBh (He.ga K "both_have") fd ∧ Dn K mg "both_have" (He.ga K "both_have") fd ["plus", "minus", "count"] := by
  have kp := He.keep_ok (c.fact 127 (f := .keep "both_have") rfl)
  obtain ⟨fd, F⟩ := def_of c 33 (at_ := ("both_have", none)) (x := "both_have") (q := "both_have") (st := sBh) rfl kp
  exact ⟨fd, F, He.glo_ok X G (c.fact 126 (f := .glo "both_have") rfl), kp, F.binds (fun _ _ _ _ _ _ us hl => match us, hl with | [_, _, _], _ => rfl)⟩
include X G in
theorem atPr : ∃ fd, Fun K "pairs" "pairs" sPr (He.ga K "pairs") fd ∧ Dn K mg "pairs" (He.ga K "pairs") fd ["numbers"] := by
  have kp := He.keep_ok (c.fact 129 (f := .keep "pairs") rfl)
  obtain ⟨fd, F⟩ := def_of c 34 (at_ := ("pairs", none)) (x := "pairs") (q := "pairs") (st := sPr) rfl kp
  exact ⟨fd, F, He.glo_ok X G (c.fact 128 (f := .glo "pairs") rfl), kp, F.binds (fun _ _ _ _ _ _ us hl => match us, hl with | [_], _ => rfl)⟩
theorem atDinit : ∃ fd, Fun K "__init__" "Desk.__init__" sDinit (He.ma K (He.ga K "Desk") "__init__") fd ∧ Binds K fd ["self"] [] ∧ Meth K (He.ga K "Desk") "__init__" (He.ma K (He.ga K "Desk") "__init__") := by
  have m := He.meth_ok (c.fact 130 (f := .meth "Desk" "__init__") rfl)
  obtain ⟨fd, F⟩ := def_of c 35 (at_ := ("Desk", some "__init__")) (x := "__init__") (q := "Desk.__init__") (st := sDinit) rfl m.kp
  exact ⟨fd, F, F.binds (fun _ _ _ _ _ _ us hl => match us, hl with | [_], _ => rfl), m⟩
theorem atKeep : ∃ fd, Fun K "keep" "Desk.keep" sKeep (He.ma K (He.ga K "Desk") "keep") fd ∧ Binds K fd ["self"] [] ∧ Meth K (He.ga K "Desk") "keep" (He.ma K (He.ga K "Desk") "keep") := by
  have m := He.meth_ok (c.fact 131 (f := .meth "Desk" "keep") rfl)
  obtain ⟨fd, F⟩ := def_of c 36 (at_ := ("Desk", some "keep")) (x := "keep") (q := "Desk.keep") (st := sKeep) rfl m.kp
  exact ⟨fd, F, F.binds (fun _ _ _ _ _ _ us hl => match us, hl with | [_], _ => rfl), m⟩
theorem atBegin : ∃ fd, Fun K "begin" "Desk.begin" sBegin (He.ma K (He.ga K "Desk") "begin") fd ∧ Binds K fd ["self", "q", "plus", "minus"] [] ∧ Meth K (He.ga K "Desk") "begin" (He.ma K (He.ga K "Desk") "begin") := by
  have m := He.meth_ok (c.fact 132 (f := .meth "Desk" "begin") rfl)
  obtain ⟨fd, F⟩ := def_of c 37 (at_ := ("Desk", some "begin")) (x := "begin") (q := "Desk.begin") (st := sBegin) rfl m.kp
  exact ⟨fd, F, F.binds (fun _ _ _ _ _ _ us hl => match us, hl with | [_, _, _, _], _ => rfl), m⟩
theorem atSteps : ∃ fd, Fun K "change_steps" "Desk.change_steps" sSteps (He.ma K (He.ga K "Desk") "change_steps") fd ∧ Binds K fd ["self", "plus", "minus"] [] ∧ Meth K (He.ga K "Desk") "change_steps" (He.ma K (He.ga K "Desk") "change_steps") := by
  have m := He.meth_ok (c.fact 133 (f := .meth "Desk" "change_steps") rfl)
  obtain ⟨fd, F⟩ := def_of c 38 (at_ := ("Desk", some "change_steps")) (x := "change_steps") (q := "Desk.change_steps") (st := sSteps) rfl m.kp
  exact ⟨fd, F, F.binds (fun _ _ _ _ _ _ us hl => match us, hl with | [_, _, _], _ => rfl), m⟩
theorem atCut : ∃ fd, Fun K "cut" "Desk.cut" sCut (He.ma K (He.ga K "Desk") "cut") fd ∧ Binds K fd ["self", "c_plus", "c_minus", "plus", "minus"] [] ∧ Meth K (He.ga K "Desk") "cut" (He.ma K (He.ga K "Desk") "cut") := by
  have m := He.meth_ok (c.fact 134 (f := .meth "Desk" "cut") rfl)
  obtain ⟨fd, F⟩ := def_of c 39 (at_ := ("Desk", some "cut")) (x := "cut") (q := "Desk.cut") (st := sCut) rfl m.kp
  exact ⟨fd, F, F.binds (fun _ _ _ _ _ _ us hl => match us, hl with | [_, _, _, _, _], _ => rfl), m⟩
theorem atShift : ∃ fd, Fun K "shift" "Desk.shift" sShift (He.ma K (He.ga K "Desk") "shift") fd ∧ Binds K fd ["self", "plus", "minus"] [] ∧ Meth K (He.ga K "Desk") "shift" (He.ma K (He.ga K "Desk") "shift") := by
  have m := He.meth_ok (c.fact 135 (f := .meth "Desk" "shift") rfl)
  obtain ⟨fd, F⟩ := def_of c 40 (at_ := ("Desk", some "shift")) (x := "shift") (q := "Desk.shift") (st := sShift) rfl m.kp
  exact ⟨fd, F, F.binds (fun _ _ _ _ _ _ us hl => match us, hl with | [_, _, _], _ => rfl), m⟩
theorem atUndo : ∃ fd, Fun K "undo" "Desk.undo" sUndo (He.ma K (He.ga K "Desk") "undo") fd ∧ Binds K fd ["self"] [] ∧ Meth K (He.ga K "Desk") "undo" (He.ma K (He.ga K "Desk") "undo") := by
  have m := He.meth_ok (c.fact 136 (f := .meth "Desk" "undo") rfl)
  obtain ⟨fd, F⟩ := def_of c 41 (at_ := ("Desk", some "undo")) (x := "undo") (q := "Desk.undo") (st := sUndo) rfl m.kp
  exact ⟨fd, F, F.binds (fun _ _ _ _ _ _ us hl => match us, hl with | [_], _ => rfl), m⟩
theorem atTell : ∃ fd, Fun K "tell_corners" "Desk.tell_corners" sTell (He.ma K (He.ga K "Desk") "tell_corners") fd ∧ Binds K fd ["self"] [] ∧ Meth K (He.ga K "Desk") "tell_corners" (He.ma K (He.ga K "Desk") "tell_corners") := by
  have m := He.meth_ok (c.fact 137 (f := .meth "Desk" "tell_corners") rfl)
  obtain ⟨fd, F⟩ := def_of c 42 (at_ := ("Desk", some "tell_corners")) (x := "tell_corners") (q := "Desk.tell_corners") (st := sTell) rfl m.kp
  exact ⟨fd, F, F.binds (fun _ _ _ _ _ _ us hl => match us, hl with | [_], _ => rfl), m⟩
theorem atTar : ∃ fd, Fun K "tell_area" "Desk.tell_area" sTar (He.ma K (He.ga K "Desk") "tell_area") fd ∧ Binds K fd ["self"] [] ∧ Meth K (He.ga K "Desk") "tell_area" (He.ma K (He.ga K "Desk") "tell_area") := by
  have m := He.meth_ok (c.fact 138 (f := .meth "Desk" "tell_area") rfl)
  obtain ⟨fd, F⟩ := def_of c 43 (at_ := ("Desk", some "tell_area")) (x := "tell_area") (q := "Desk.tell_area") (st := sTar) rfl m.kp
  exact ⟨fd, F, F.binds (fun _ _ _ _ _ _ us hl => match us, hl with | [_], _ => rfl), m⟩
theorem atBst : ∃ fd, Fun K "by_steps" "Desk.by_steps" sBst (He.ma K (He.ga K "Desk") "by_steps") fd ∧ Binds K fd ["self"] [] ∧ Meth K (He.ga K "Desk") "by_steps" (He.ma K (He.ga K "Desk") "by_steps") := by
  have m := He.meth_ok (c.fact 139 (f := .meth "Desk" "by_steps") rfl)
  obtain ⟨fd, F⟩ := def_of c 44 (at_ := ("Desk", some "by_steps")) (x := "by_steps") (q := "Desk.by_steps") (st := sBst) rfl m.kp
  exact ⟨fd, F, F.binds (fun _ _ _ _ _ _ us hl => match us, hl with | [_], _ => rfl), m⟩
theorem atTc : ∃ fd, Fun K "tell_count" "Desk.tell_count" sTc (He.ma K (He.ga K "Desk") "tell_count") fd ∧ Binds K fd ["self", "k"] [] ∧ Meth K (He.ga K "Desk") "tell_count" (He.ma K (He.ga K "Desk") "tell_count") := by
  have m := He.meth_ok (c.fact 140 (f := .meth "Desk" "tell_count") rfl)
  obtain ⟨fd, F⟩ := def_of c 45 (at_ := ("Desk", some "tell_count")) (x := "tell_count") (q := "Desk.tell_count") (st := sTc) rfl m.kp
  exact ⟨fd, F, F.binds (fun _ _ _ _ _ _ us hl => match us, hl with | [_, _], _ => rfl), m⟩
theorem atTi : ∃ fd, Fun K "tell_inside" "Desk.tell_inside" sTi (He.ma K (He.ga K "Desk") "tell_inside") fd ∧ Binds K fd ["self", "k"] [] ∧ Meth K (He.ga K "Desk") "tell_inside" (He.ma K (He.ga K "Desk") "tell_inside") := by
  have m := He.meth_ok (c.fact 141 (f := .meth "Desk" "tell_inside") rfl)
  obtain ⟨fd, F⟩ := def_of c 46 (at_ := ("Desk", some "tell_inside")) (x := "tell_inside") (q := "Desk.tell_inside") (st := sTi) rfl m.kp
  exact ⟨fd, F, F.binds (fun _ _ _ _ _ _ us hl => match us, hl with | [_, _], _ => rfl), m⟩
theorem atTru : ∃ fd, Fun K "tell_rule" "Desk.tell_rule" sTru (He.ma K (He.ga K "Desk") "tell_rule") fd ∧ Binds K fd ["self"] [] ∧ Meth K (He.ga K "Desk") "tell_rule" (He.ma K (He.ga K "Desk") "tell_rule") := by
  have m := He.meth_ok (c.fact 142 (f := .meth "Desk" "tell_rule") rfl)
  obtain ⟨fd, F⟩ := def_of c 47 (at_ := ("Desk", some "tell_rule")) (x := "tell_rule") (q := "Desk.tell_rule") (st := sTru) rfl m.kp
  exact ⟨fd, F, F.binds (fun _ _ _ _ _ _ us hl => match us, hl with | [_], _ => rfl), m⟩
theorem atTf : ∃ fd, Fun K "tell_far" "Desk.tell_far" sTf (He.ma K (He.ga K "Desk") "tell_far") fd ∧ Binds K fd ["self", "k"] [] ∧ Meth K (He.ga K "Desk") "tell_far" (He.ma K (He.ga K "Desk") "tell_far") := by
  have m := He.meth_ok (c.fact 143 (f := .meth "Desk" "tell_far") rfl)
  obtain ⟨fd, F⟩ := def_of c 48 (at_ := ("Desk", some "tell_far")) (x := "tell_far") (q := "Desk.tell_far") (st := sTf) rfl m.kp
  exact ⟨fd, F, F.binds (fun _ _ _ _ _ _ us hl => match us, hl with | [_, _], _ => rfl), m⟩
theorem atTh : ∃ fd, Fun K "tell_hull" "Desk.tell_hull" sTh (He.ma K (He.ga K "Desk") "tell_hull") fd ∧ Binds K fd ["self"] [] ∧ Meth K (He.ga K "Desk") "tell_hull" (He.ma K (He.ga K "Desk") "tell_hull") := by
  have m := He.meth_ok (c.fact 144 (f := .meth "Desk" "tell_hull") rfl)
  obtain ⟨fd, F⟩ := def_of c 49 (at_ := ("Desk", some "tell_hull")) (x := "tell_hull") (q := "Desk.tell_hull") (st := sTh) rfl m.kp
  exact ⟨fd, F, F.binds (fun _ _ _ _ _ _ us hl => match us, hl with | [_], _ => rfl), m⟩
include X G in
theorem atRead : ∃ fd, Fun K "read_call" "read_call" sRead (He.ga K "read_call") fd ∧ Dn K mg "read_call" (He.ga K "read_call") fd ["numbers", "start"] := by
  have kp := He.keep_ok (c.fact 146 (f := .keep "read_call") rfl)
  obtain ⟨fd, F⟩ := def_of c 50 (at_ := ("read_call", none)) (x := "read_call") (q := "read_call") (st := sRead) rfl kp
  exact ⟨fd, F, He.glo_ok X G (c.fact 145 (f := .glo "read_call") rfl), kp, F.binds (fun _ _ _ _ _ _ us hl => match us, hl with | [_, _], _ => rfl)⟩
include X G in
theorem atAsk : ∃ fd, Fun K "ask" "ask" sAsk (He.ga K "ask") fd ∧ Dn K mg "ask" (He.ga K "ask") fd ["desk", "call", "wholes", "rows"] := by
  have kp := He.keep_ok (c.fact 148 (f := .keep "ask") rfl)
  obtain ⟨fd, F⟩ := def_of c 51 (at_ := ("ask", none)) (x := "ask") (q := "ask") (st := sAsk) rfl kp
  exact ⟨fd, F, He.glo_ok X G (c.fact 147 (f := .glo "ask") rfl), kp, F.binds (fun _ _ _ _ _ _ us hl => match us, hl with | [_, _, _, _], _ => rfl)⟩
include X G in
theorem atAa : ∃ fd, Fun K "ask_about" "ask_about" sAa (He.ga K "ask_about") fd ∧ Dn K mg "ask_about" (He.ga K "ask_about") fd ["desk", "call", "wholes"] := by
  have kp := He.keep_ok (c.fact 150 (f := .keep "ask_about") rfl)
  obtain ⟨fd, F⟩ := def_of c 52 (at_ := ("ask_about", none)) (x := "ask_about") (q := "ask_about") (st := sAa) rfl kp
  exact ⟨fd, F, He.glo_ok X G (c.fact 149 (f := .glo "ask_about") rfl), kp, F.binds (fun _ _ _ _ _ _ us hl => match us, hl with | [_, _, _], _ => rfl)⟩
include X G in
theorem atAns : ∃ fd, Fun K "answers" "answers" sAns (He.ga K "answers") fd ∧ Dn K mg "answers" (He.ga K "answers") fd ["calls"] := by
  have kp := He.keep_ok (c.fact 152 (f := .keep "answers") rfl)
  obtain ⟨fd, F⟩ := def_of c 53 (at_ := ("answers", none)) (x := "answers") (q := "answers") (st := sAns) rfl kp
  exact ⟨fd, F, He.glo_ok X G (c.fact 151 (f := .glo "answers") rfl), kp, F.binds (fun _ _ _ _ _ _ us hl => match us, hl with | [_], _ => rfl)⟩
include X G in
theorem free_abs : mg "abs" = none := He.free_ok X G (c.fact 0 (f := .free "abs") rfl)
include X G in
theorem free_any : mg "any" = none := He.free_ok X G (c.fact 1 (f := .free "any") rfl)
include X G in
theorem free_enumerate : mg "enumerate" = none := He.free_ok X G (c.fact 2 (f := .free "enumerate") rfl)
include X G in
theorem free_len : mg "len" = none := He.free_ok X G (c.fact 3 (f := .free "len") rfl)
include X G in
theorem free_list : mg "list" = none := He.free_ok X G (c.fact 4 (f := .free "list") rfl)
include X G in
theorem free_max : mg "max" = none := He.free_ok X G (c.fact 5 (f := .free "max") rfl)
include X G in
theorem free_min : mg "min" = none := He.free_ok X G (c.fact 6 (f := .free "min") rfl)
include X G in
theorem free_range : mg "range" = none := He.free_ok X G (c.fact 7 (f := .free "range") rfl)
include X G in
theorem free_reversed : mg "reversed" = none := He.free_ok X G (c.fact 8 (f := .free "reversed") rfl)
include X G in
theorem free_set : mg "set" = none := He.free_ok X G (c.fact 9 (f := .free "set") rfl)
include X G in
theorem free_sorted : mg "sorted" = none := He.free_ok X G (c.fact 10 (f := .free "sorted") rfl)
include X G in
theorem free_sum : mg "sum" = none := He.free_ok X G (c.fact 11 (f := .free "sum") rfl)
include X G in
theorem free_zip : mg "zip" = none := He.free_ok X G (c.fact 12 (f := .free "zip") rfl)
include X G in
theorem int_WITH_EDGES : ∃ t, mg "WITH_EDGES" = some (.int (0) t) := He.int_ok X G (c.fact 13 (f := .int "WITH_EDGES" (0)) rfl)
include X G in
theorem int_WITHIN : ∃ t, mg "WITHIN" = some (.int (1) t) := He.int_ok X G (c.fact 14 (f := .int "WITHIN" (1)) rfl)
include X G in
theorem int_OUT_OF_BOUNDS : ∃ t, mg "OUT_OF_BOUNDS" = some (.int (-1) t) := He.int_ok X G (c.fact 15 (f := .int "OUT_OF_BOUNDS" (-1)) rfl)
include X G in
theorem int_WRONG_LISTS : ∃ t, mg "WRONG_LISTS" = some (.int (-3) t) := He.int_ok X G (c.fact 16 (f := .int "WRONG_LISTS" (-3)) rfl)
include X G in
theorem int_IN_ONE_LINE : ∃ t, mg "IN_ONE_LINE" = some (.int (-4) t) := He.int_ok X G (c.fact 17 (f := .int "IN_ONE_LINE" (-4)) rfl)
include X G in
theorem int_TOO_FINE : ∃ t, mg "TOO_FINE" = some (.int (-5) t) := He.int_ok X G (c.fact 18 (f := .int "TOO_FINE" (-5)) rfl)
include X G in
theorem int_NOTHING_KEPT : ∃ t, mg "NOTHING_KEPT" = some (.int (-6) t) := He.int_ok X G (c.fact 19 (f := .int "NOTHING_KEPT" (-6)) rfl)
include X G in
theorem int_MOST_KEPT : ∃ t, mg "MOST_KEPT" = some (.int (20) t) := He.int_ok X G (c.fact 20 (f := .int "MOST_KEPT" (20)) rfl)
include X G in
theorem int_MOST_Q : ∃ t, mg "MOST_Q" = some (.int (6) t) := He.int_ok X G (c.fact 21 (f := .int "MOST_Q" (6)) rfl)
include X G in
theorem int_LEAST_PLACES : ∃ t, mg "LEAST_PLACES" = some (.int (3) t) := He.int_ok X G (c.fact 22 (f := .int "LEAST_PLACES" (3)) rfl)
include X G in
theorem int_MOST_PLACES : ∃ t, mg "MOST_PLACES" = some (.int (8) t) := He.int_ok X G (c.fact 23 (f := .int "MOST_PLACES" (8)) rfl)
include X G in
theorem int_FARTHEST_PLACE : ∃ t, mg "FARTHEST_PLACE" = some (.int (12) t) := He.int_ok X G (c.fact 24 (f := .int "FARTHEST_PLACE" (12)) rfl)
include X G in
theorem int_FARTHEST_STEP : ∃ t, mg "FARTHEST_STEP" = some (.int (6) t) := He.int_ok X G (c.fact 25 (f := .int "FARTHEST_STEP" (6)) rfl)
include X G in
theorem int_FARTHEST_CUT : ∃ t, mg "FARTHEST_CUT" = some (.int (20) t) := He.int_ok X G (c.fact 26 (f := .int "FARTHEST_CUT" (20)) rfl)
include X G in
theorem int_FINEST_CUT : ∃ t, mg "FINEST_CUT" = some (.int (1000) t) := He.int_ok X G (c.fact 27 (f := .int "FINEST_CUT" (1000)) rfl)
include X G in
theorem int_FARTHEST_SHIFT : ∃ t, mg "FARTHEST_SHIFT" = some (.int (20) t) := He.int_ok X G (c.fact 28 (f := .int "FARTHEST_SHIFT" (20)) rfl)
include X G in
theorem int_FARTHEST_CORNER : ∃ t, mg "FARTHEST_CORNER" = some (.int (100) t) := He.int_ok X G (c.fact 29 (f := .int "FARTHEST_CORNER" (100)) rfl)
include X G in
theorem int_MOST_COUNTED : ∃ t, mg "MOST_COUNTED" = some (.int (60) t) := He.int_ok X G (c.fact 30 (f := .int "MOST_COUNTED" (60)) rfl)
include X G in
theorem int_MOST_FAR : ∃ t, mg "MOST_FAR" = some (.int (1000000) t) := He.int_ok X G (c.fact 31 (f := .int "MOST_FAR" (1000000)) rfl)
include X G in
theorem int_LONGEST_RULE : ∃ t, mg "LONGEST_RULE" = some (.int (36) t) := He.int_ok X G (c.fact 32 (f := .int "LONGEST_RULE" (36)) rfl)
include X G in
theorem int_BEGIN : ∃ t, mg "BEGIN" = some (.int (1) t) := He.int_ok X G (c.fact 33 (f := .int "BEGIN" (1)) rfl)
include X G in
theorem int_STEPS : ∃ t, mg "STEPS" = some (.int (2) t) := He.int_ok X G (c.fact 34 (f := .int "STEPS" (2)) rfl)
include X G in
theorem int_CUT : ∃ t, mg "CUT" = some (.int (3) t) := He.int_ok X G (c.fact 35 (f := .int "CUT" (3)) rfl)
include X G in
theorem int_SHIFT : ∃ t, mg "SHIFT" = some (.int (4) t) := He.int_ok X G (c.fact 36 (f := .int "SHIFT" (4)) rfl)
include X G in
theorem int_UNDO : ∃ t, mg "UNDO" = some (.int (5) t) := He.int_ok X G (c.fact 37 (f := .int "UNDO" (5)) rfl)
include X G in
theorem int_CORNERS : ∃ t, mg "CORNERS" = some (.int (6) t) := He.int_ok X G (c.fact 38 (f := .int "CORNERS" (6)) rfl)
include X G in
theorem int_AREA : ∃ t, mg "AREA" = some (.int (7) t) := He.int_ok X G (c.fact 39 (f := .int "AREA" (7)) rfl)
include X G in
theorem int_COUNT : ∃ t, mg "COUNT" = some (.int (8) t) := He.int_ok X G (c.fact 40 (f := .int "COUNT" (8)) rfl)
include X G in
theorem int_INSIDE : ∃ t, mg "INSIDE" = some (.int (9) t) := He.int_ok X G (c.fact 41 (f := .int "INSIDE" (9)) rfl)
include X G in
theorem int_RULE : ∃ t, mg "RULE" = some (.int (10) t) := He.int_ok X G (c.fact 42 (f := .int "RULE" (10)) rfl)
include X G in
theorem int_FAR : ∃ t, mg "FAR" = some (.int (11) t) := He.int_ok X G (c.fact 43 (f := .int "FAR" (11)) rfl)
include X G in
theorem glo_Desk : mg "Desk" = some (.ref (He.ga K "Desk")) := He.glo_ok X G (c.fact 44 (f := .glo "Desk") rfl)
theorem cls_Desk : Cls K (He.ga K "Desk") := He.cls_ok (c.fact 45 (f := .cls "Desk") rfl)
theorem mkr_Desk : Mk K (He.ga K "Desk") (He.ma K (He.ga K "Desk") "__init__") := He.mkr_ok (c.fact 46 (f := .mkr "Desk") rfl)
theorem noat_Desk_polygon : NoAttr K (He.ga K "Desk") "polygon" := He.noat_ok (c.fact 53 (f := .noat "Desk" "polygon") rfl)
theorem noat_Desk_steps : NoAttr K (He.ga K "Desk") "steps" := He.noat_ok (c.fact 54 (f := .noat "Desk" "steps") rfl)
theorem noat_Desk_kept : NoAttr K (He.ga K "Desk") "kept" := He.noat_ok (c.fact 55 (f := .noat "Desk" "kept") rfl)
include X G in
theorem glo_Polygon : mg "Polygon" = some (.ref (He.ga K "Polygon")) := He.glo_ok X G (c.fact 47 (f := .glo "Polygon") rfl)
theorem cls_Polygon : Cls K (He.ga K "Polygon") := He.cls_ok (c.fact 48 (f := .cls "Polygon") rfl)
theorem mkr_Polygon : Mk K (He.ga K "Polygon") (He.ma K (He.ga K "Polygon") "__init__") := He.mkr_ok (c.fact 49 (f := .mkr "Polygon") rfl)
theorem noat_Polygon_scale : NoAttr K (He.ga K "Polygon") "scale" := He.noat_ok (c.fact 56 (f := .noat "Polygon" "scale") rfl)
theorem noat_Polygon_corners : NoAttr K (He.ga K "Polygon") "corners" := He.noat_ok (c.fact 57 (f := .noat "Polygon" "corners") rfl)
include X G in
theorem glo_Stretch : mg "Stretch" = some (.ref (He.ga K "Stretch")) := He.glo_ok X G (c.fact 50 (f := .glo "Stretch") rfl)
theorem cls_Stretch : Cls K (He.ga K "Stretch") := He.cls_ok (c.fact 51 (f := .cls "Stretch") rfl)
theorem mkr_Stretch : Mk K (He.ga K "Stretch") (He.ma K (He.ga K "Stretch") "__init__") := He.mkr_ok (c.fact 52 (f := .mkr "Stretch") rfl)
theorem noat_Stretch_width : NoAttr K (He.ga K "Stretch") "width" := He.noat_ok (c.fact 58 (f := .noat "Stretch" "width") rfl)
theorem noat_Stretch_slope : NoAttr K (He.ga K "Stretch") "slope" := He.noat_ok (c.fact 59 (f := .noat "Stretch" "slope") rfl)
theorem noat_Stretch_offset : NoAttr K (He.ga K "Stretch") "offset" := He.noat_ok (c.fact 60 (f := .noat "Stretch" "offset") rfl)
theorem noat_Stretch_lower : NoAttr K (He.ga K "Stretch") "lower" := He.noat_ok (c.fact 61 (f := .noat "Stretch" "lower") rfl)
end
end Pw
end

section
namespace Pw
open PySem PySem.Spec PyProof.Rows L2
open Pg (Pt)
open Sq71 (House)
/-! ### what is written at the top: tuples, a dict -/
def tupOf (K : PySem.W.Frag) (v : Value) : Option (List Value) := match v with
  | .ref a => match K.lookup a with
    | some ⟨.type t, _, .seq its _, _⟩ => if t = "tuple" ∧ its.size ≤ 100 then some its.toList else none
    | _ => none
  | _ => none
theorem tupOf_at {K : PySem.W.Frag} {v : Value} {us : List Value} (h : tupOf K v = some us) {xs : List V} (hv : Vals xs us) : ∃ a, v = .ref a ∧ ∀ H, SqT K H a xs := by
  unfold tupOf at h
  split at h
  · rename_i a
    split at h
    · rename_i t d its n sl e
      split at h
      · rename_i q
        cases h
        refine ⟨a, rfl, fun H => .inr ⟨_, its, n, e, ?_, rfl, ?_, hv⟩⟩
        · show Value.type t = _
          rw [q.1]
        · have := q.2
          rw [sizeLine_eq]
          omega
      · cases h
    · cases h
  · cases h
def intOf : Value → Option Int
  | .int i _ => some i
  | _ => none
def intsOf : List Value → Option (List Int)
  | [] => some []
  | v :: r => match intOf v, intsOf r with
    | some i, some l => some (i :: l)
    | _, _ => none
theorem intsOf_vals : ∀ {us : List Value} {is : List Int}, intsOf us = some is → Vals (is.map V.int) us
  | [], is, h => by
    cases h
    exact .nil
  | v :: r, is, h => by
    unfold intsOf at h
    split at h
    · rename_i i l e1 e2
      cases h
      refine .cons ?_ (intsOf_vals e2)
      cases v with
      | int j t =>
        have : j = i := Option.some.inj e1
        subst this
        exact ⟨t, rfl⟩
      | _ => cases e1
    · cases h
def tupI (K : PySem.W.Frag) (v : Value) : Option (List Int) := (tupOf K v).bind intsOf
theorem tupI_at {K : PySem.W.Frag} {v : Value} {is : List Int} (h : tupI K v = some is) : ∃ a, v = .ref a ∧ ∀ H, SqT K H a (is.map V.int) := by
  unfold tupI at h
  cases e : tupOf K v with
  | none => rw [e] at h; cases h
  | some us =>
    rw [e] at h
    exact tupOf_at e (intsOf_vals h)
/-- a tuple of pairs of whole numbers -/
def pairsOf (K : PySem.W.Frag) : List Value → Option (List Pt)
  | [] => some []
  | v :: r => match tupI K v, pairsOf K r with
    | some [x, y], some l => some ((x, y) :: l)
    | _, _ => none
theorem pairsOf_pts {K : PySem.W.Frag} : ∀ {us : List Value} {ps : List Pt}, pairsOf K us = some ps → ∃ xs, Vals xs us ∧ ∀ H, Pts K H xs ps
  | [], ps, h => by
    cases h
    exact ⟨[], .nil, fun _ => .nil⟩
  | v :: r, ps, h => by
    unfold pairsOf at h
    split at h
    · rename_i x y l e1 e2
      cases h
      obtain ⟨xs, hv, hp⟩ := pairsOf_pts e2
      obtain ⟨a, rfl, ha⟩ := tupI_at e1
      exact ⟨.ref a :: xs, .cons rfl hv, fun H => .cons ⟨a, rfl, ha H⟩ (hp H)⟩
    · cases h
def ptsAt (K : PySem.W.Frag) (v : Value) : Option (List Pt) := (tupOf K v).bind (pairsOf K)
theorem ptsAt_at {K : PySem.W.Frag} {v : Value} {ps : List Pt} (h : ptsAt K v = some ps) : ∃ a xs, v = .ref a ∧ ∀ H, SqT K H a xs ∧ Pts K H xs ps := by
  unfold ptsAt at h
  cases e : tupOf K v with
  | none => rw [e] at h; cases h
  | some us =>
    rw [e] at h
    obtain ⟨xs, hv, hp⟩ := pairsOf_pts (show pairsOf K us = some ps from h)
    obtain ⟨a, rfl, ha⟩ := tupOf_at e hv
    exact ⟨a, xs, rfl, fun H => ⟨ha H, hp H⟩⟩
def keyOk (e : DictEntry) : Bool := match e.key with
  | .int j _ => decide (e.hash = hashInt j)
  | _ => false
def formOk (K : PySem.W.Frag) (es : Array DictEntry) (p : Nat) : Bool := match PySq71.shape (p : Int) with
  | none => true
  | some (n, k) => match findBy Value.isInt es (p : Int) with
    | some v => decide (tupI K v = some [(n : Int), (k : Int)])
    | none => false
/-- FORMS has the calls up to a number -/
def formsOk (K : PySem.W.Frag) (a : Addr) (last : Nat) : Bool := match K.lookup a with
  | some ⟨.type t, none, .dict es _, sl⟩ => decide (t = "dict") && (decide (sl = #[]) && (es.toList.all keyOk && (List.range (last + 1)).all (formOk K es)))
  | _ => false
theorem shape_nat {p : Int} {s : Nat × Nat} (h : PySq71.shape p = some s) : 1 ≤ p ∧ p ≤ 12 := by
  unfold PySq71.shape at h
  repeat' split at h
  all_goals first
    | (subst_vars; decide)
    | cases h
theorem forms_of {K : PySem.W.Frag} {a : Addr} (h : formsOk K a lastCall.toNat = true) : Forms K a := by
  intro p n k hs hp
  obtain ⟨p1, _⟩ := shape_nat hs
  unfold formsOk at h
  split at h
  · rename_i t es m sl e
    simp only [Bool.and_eq_true, decide_eq_true_eq] at h
    obtain ⟨rfl, rfl, hk, hf⟩ := h
    obtain ⟨q, rfl⟩ := Int.eq_ofNat_of_zero_le (show 0 ≤ p by omega)
    have hq := List.all_eq_true.1 hf q (List.mem_range.2 (by
      have : (q : Int) ≤ lastCall := hp
      omega))
    unfold formOk at hq
    rw [hs] at hq
    dsimp only at hq
    split at hq
    · rename_i v ev
      obtain ⟨b, rfl, hb⟩ := tupI_at (of_decide_eq_true hq)
      refine ⟨b, ⟨es, m, .ref b, e, fun d hd => ?_, ev, rfl⟩, hb⟩
      have := List.all_eq_true.1 hk d hd
      unfold keyOk at this
      split at this
      · rename_i j t ej
        exact ⟨j, t, ej, of_decide_eq_true this⟩
      · cases this
    · cases hq
  · cases h
end Pw
end

section
namespace Pw
open PySem PySem.Spec PyProof.Rows L2
open Pg (Pt)
open Sq71 (House)
/-- what is written at the top, all in one -/
def topOk (K : PySem.W.Frag) : Bool := He.Fa.ok K (.glo "FIRST_PLACES") && (He.Fa.ok K (.glo "FIRST_STEPS") && (He.Fa.ok K (.glo "FORMS") &&
  (decide (ptsAt K (.ref (He.ga K "FIRST_PLACES")) = some [(0, 0), (1, 0), (1, 1), (0, 1)]) && (decide (ptsAt K (.ref (He.ga K "FIRST_STEPS")) = some [(1, 0), (0, 1)]) && formsOk K (He.ga K "FORMS") lastCall.toNat))))
/-- what answers promises of the calls that are written -/
def spAns (K : PySem.W.Frag) : Sp := fun vs H Q _ => ∃ (a : Addr) (ns : List Int), vs = [.ref a] ∧ SqL K H a (ns.map V.int) ∧ ns.length ≤ 16000 ∧ PySq71.answers_asked ns = true ∧
  (∀ cs, PyFlat.calls PySq71.shape ns.length ns = some cs → ∀ c ∈ cs, ∀ p ws rows, c = (p :: ws) :: rows → p ≤ lastCall) ∧
  ∀ (H' : Hp) (p : Addr), H' p = some (.lst ((PySq71.answers ns).map V.int)) → Q (.ref p) H'
theorem ans_in {K : PySem.W.Frag} {vs : List V} {H : Hp} {Q : VK} {E : XK} (h : spAns K vs H Q E) : spAnsL K vs H Q E := by
  obtain ⟨a, ns, rfl, hA, hl, hask, hlast, q⟩ := h
  unfold PySq71.answers_asked at hask
  cases e : PyFlat.calls PySq71.shape ns.length ns with
  | none => rw [e] at hask; cases hask
  | some cs =>
    rw [e] at hask
    have ew : cs.map PySq71.whole = cs := by
      rw [List.map_congr_left (fun c _ => whole_id c), List.map_id']
    have ea : PySq71.answers ns = toldFrom Sq71.fresh cs := by
      unfold PySq71.answers PySq71.calls
      rw [e]
      show PyFlat.told (PyFlat.played Sq71Neutral.step Sq71Neutral.start (cs.map PySq71.whole)) = _
      rw [ew]
      rfl
    simp only [Bool.and_eq_true] at hask
    obtain ⟨⟨⟨⟨_, h40⟩, _⟩, has⟩, hsh⟩ := hask
    rw [ew] at has
    unfold Sq71Neutral.asked at has
    simp only [Bool.and_eq_true] at has
    refine ⟨a, ns, cs, rfl, hA, hl, e, of_decide_eq_true h40, fun c hc => asked1_ok (List.all_eq_true.1 has.2.2.1 c hc), hlast cs e, ?_, fun H' p hp => q H' p (by rw [ea]; exact hp)⟩
    rw [← ea]
    exact of_decide_eq_true hsh
section
variable {P : Program} {w : World} {K : PySem.W.Frag} {h : Heap} {mg : Str → Option Value}
theorem weak {base : Heap} {k : Nat} {f : Addr} {fd : FuncData} {ps : List Str} {sp sp' : Sp} (G : FnOk P w K mg base CX0 k f fd ps sp) (h : ∀ vs H Q E, sp' vs H Q E → sp vs H Q E) : FnOk P w K mg base CX0 k f fd ps sp' :=
  ⟨fun vs H Q E z => G.len vs H Q E (h vs H Q E z), fun A outer s H args us vs Q E r e b v z => G.run A outer s H args us vs Q E r e b v (h vs H Q E z)⟩
abbrev aP (K : PySem.W.Frag) : Addr := He.ga K "Polygon"
abbrev aD (K : PySem.W.Frag) : Addr := He.ga K "Desk"
theorem own_of (X : K.In h) (G : h.Ns mainGlobals mg) (c : He.SaysE fa fn K) : Own mg :=
  ⟨free_abs X G c, free_any X G c, free_zip X G c, free_len X G c, free_range X G c, free_sorted X G c, free_set X G c, free_list X G c, free_reversed X G c⟩
theorem cst_of (X : K.In h) (G : h.Ns mainGlobals mg) (c : He.SaysE fa fn K) : Cst mg where
  oob := int_OUT_OF_BOUNDS X G c
  wl := int_WRONG_LISTS X G c
  iol := int_IN_ONE_LINE X G c
  tf := int_TOO_FINE X G c
  nk := int_NOTHING_KEPT X G c
  kept := int_MOST_KEPT X G c
  q := int_MOST_Q X G c
  lp := int_LEAST_PLACES X G c
  mp := int_MOST_PLACES X G c
  fp := int_FARTHEST_PLACE X G c
  fst := int_FARTHEST_STEP X G c
  fc := int_FARTHEST_CUT X G c
  fine := int_FINEST_CUT X G c
  fsh := int_FARTHEST_SHIFT X G c
  fco := int_FARTHEST_CORNER X G c
theorem nums_of (X : K.In h) (G : h.Ns mainGlobals mg) (c : He.SaysE fa fn K) : Nums mg := ⟨int_BEGIN X G c, int_STEPS X G c, int_CUT X G c, int_SHIFT X G c, int_UNDO X G c, int_CORNERS X G c, int_AREA X G c, int_COUNT X G c, int_INSIDE X G c, int_RULE X G c, int_FAR X G c⟩
theorem own2_of (X : K.In h) (G : h.Ns mainGlobals mg) (c : He.SaysE fa fn K) : Own2 mg := ⟨free_sum X G c, free_min X G c, free_max X G c, free_enumerate X G c⟩
abbrev aS (K : PySem.W.Frag) : Addr := He.ga K "Stretch"
theorem ts_of (X : K.In h) (G : h.Ns mainGlobals mg) (c : He.SaysE fa fn K) : TSt K mg (aS K) := ⟨cls_Stretch c, noat_Stretch_width c, noat_Stretch_slope c, noat_Stretch_offset c, noat_Stretch_lower c, glo_Stretch X G c⟩
theorem tp_of (X : K.In h) (G : h.Ns mainGlobals mg) (c : He.SaysE fa fn K) : TP K mg (aP K) := ⟨cls_Polygon c, noat_Polygon_scale c, noat_Polygon_corners c, glo_Polygon X G c⟩
theorem td_of (c : He.SaysE fa fn K) : TD K (aD K) := ⟨cls_Desk c, noat_Desk_polygon c, noat_Desk_steps c, noat_Desk_kept c⟩
theorem top_of (X : K.In h) (G : h.Ns mainGlobals mg) (t : topOk K = true) : Cst2 K mg ∧ ∃ aF, mg "FORMS" = some (.ref aF) ∧ Forms K aF := by
  unfold topOk at t
  simp only [Bool.and_eq_true, decide_eq_true_eq] at t
  obtain ⟨t1, t2, t3, t4, t5, t6⟩ := t
  refine ⟨⟨?_, ?_⟩, _, He.glo_ok X G t3, forms_of t6⟩
  · obtain ⟨a, xs, e, hh⟩ := ptsAt_at t5
    cases e
    refine ⟨_, He.glo_ok X G t2, fun H => ?_⟩
    obtain ⟨h1, h2⟩ := hh H
    cases h2 with
    | cons p1 r =>
      cases r with
      | cons p2 r =>
        cases r
        exact ⟨_, _, _, rfl, h1, p1, p2⟩
  · obtain ⟨a, xs, e, hh⟩ := ptsAt_at t4
    cases e
    exact ⟨_, He.glo_ok X G t1, fun H => ⟨xs, (hh H).1, (hh H).2⟩⟩
theorem all_mk {f : Addr} (X : K.In h) (G : h.Ns mainGlobals mg) (hfa : mg "answers" = some (.ref f)) (c : He.SaysE fa fn K) (t : topOk K = true) :
    ∃ fd : FuncData, (∀ (s : Shared) (us : List Value), us.length = (["calls"] : List Str).length → BindsTo s fd ⟨us, []⟩ ((["calls"] : List Str).zip us)) ∧ ∀ base : Heap, K.In base → base.Ns mainGlobals mg → FnOk P w K mg base CX0 13 f fd ["calls"] (spAns K) := by
  have O := own_of X G c
  have C := cst_of X G c
  have Tp := tp_of X G c
  have Td := td_of c
  obtain ⟨C2, aF, gF, hF⟩ := top_of X G t
  obtain ⟨_, f1, n1⟩ := atCd X G c
  obtain ⟨_, f2, n2⟩ := atCm X G c
  obtain ⟨_, f3, n3⟩ := atLt X G c
  obtain ⟨_, f4, n4⟩ := atDf X G c
  obtain ⟨_, f5, n5⟩ := atAb X G c
  obtain ⟨_, f6, b6, m6⟩ := atPolyInit c
  obtain ⟨_, f7, n7⟩ := atTurn X G c
  obtain ⟨_, f8, n8⟩ := atLb X G c
  obtain ⟨_, f9, n9⟩ := atCb X G c
  obtain ⟨_, f10, n10⟩ := atPb X G c
  obtain ⟨_, f11, n11⟩ := atCr X G c
  obtain ⟨_, f12, n12⟩ := atLc X G c
  obtain ⟨_, f13, n13⟩ := atPc X G c
  obtain ⟨_, f14, n14⟩ := atPm X G c
  obtain ⟨_, f15, n15⟩ := atRb X G c
  obtain ⟨_, f16, n16⟩ := atBh X G c
  obtain ⟨_, f17, n17⟩ := atPr X G c
  obtain ⟨_, f18, b18, m18⟩ := atDinit c
  obtain ⟨_, f19, b19, m19⟩ := atKeep c
  obtain ⟨_, f20, b20, m20⟩ := atBegin c
  obtain ⟨_, f21, b21, m21⟩ := atSteps c
  obtain ⟨_, f22, b22, m22⟩ := atCut c
  obtain ⟨_, f23, b23, m23⟩ := atShift c
  obtain ⟨_, f24, b24, m24⟩ := atUndo c
  obtain ⟨_, f25, b25, m25⟩ := atTell c
  obtain ⟨_, f26, n26⟩ := atRead X G c
  obtain ⟨_, f27, n27⟩ := atAsk X G c
  obtain ⟨_, f29, n29⟩ := atCw X G c
  obtain ⟨_, f30, n30⟩ := atSf X G c
  obtain ⟨_, f31, n31⟩ := atTa X G c
  obtain ⟨_, f32, b32, m32⟩ := atStInit c
  obtain ⟨_, f33, n33⟩ := atCo X G c
  obtain ⟨_, f34, n34⟩ := atSa X G c
  obtain ⟨_, f35, n35⟩ := atLs X G c
  obtain ⟨_, f36, n36⟩ := atBs X G c
  obtain ⟨_, f37, n37⟩ := atHm X G c
  obtain ⟨_, f38, n38⟩ := atPi X G c
  obtain ⟨_, f39, n39⟩ := atPwi X G c
  obtain ⟨_, f40, n40⟩ := atRo X G c
  obtain ⟨_, f41, n41⟩ := atCe X G c
  obtain ⟨_, f42, n42⟩ := atShr X G c
  obtain ⟨_, f43, n43⟩ := atBc X G c
  obtain ⟨_, f44, n44⟩ := atSo X G c
  obtain ⟨_, f45, n45⟩ := atPs X G c
  obtain ⟨_, f46, n46⟩ := atLed X G c
  obtain ⟨_, f47, b47, m47⟩ := atTar c
  obtain ⟨_, f48, b48, m48⟩ := atBst c
  obtain ⟨_, f49, b49, m49⟩ := atTc c
  obtain ⟨_, f50, b50, m50⟩ := atTi c
  obtain ⟨_, f51, b51, m51⟩ := atTru c
  obtain ⟨_, f52, b52, m52⟩ := atTf c
  obtain ⟨_, f53, b53, m53⟩ := atTh c
  obtain ⟨_, f54, n54⟩ := atAa X G c
  obtain ⟨fd, f28, n28⟩ := atAns X G c
  have e := hfa.symm.trans n28.g
  cases e
  refine ⟨fd, fun s us hu => ?_, fun base _ _ => ?_⟩
  · obtain ⟨oc, od, kV, doc, pm, an, cdv, ct, osl, rfl, _⟩ := f28.ex
    match us, hu with
    | [_], _ => exact .of_eq rfl
  · have g1 := ok_cd (P := P) (w := w) (base := base) O f1
    have g2 := ok_cm f2 n1 g1
    have g3 := ok_lt f3 n1 g1
    have g4 := ok_df (P := P) (w := w) (base := base) O f4
    have g5 := ok_ab (P := P) (w := w) (base := base) O f5
    have g6 := ok_pi (P := P) (w := w) (base := base) Tp f6
    have g29 := ok_cw (P := P) (w := w) (mg := mg) (base := base) f29
    have g7 := ok_turn f7 n29 g29
    have g8 := ok_lb O f8 n7 g7
    have g9 := ok_cb O f9 n8 g8
    have g10 := ok_pb O Tp f10 n9 g9 n1 g1 (mkr_Polygon c) b6 g6
    have g11 := ok_cr (P := P) (w := w) (mg := mg) (base := base) f11
    have g12 := ok_lc O Tp f12 n11 g11
    have g13 := ok_pc O Tp f13 n12 g12 n2 g2 n10 g10
    have g14 := ok_pm Tp f14 (mkr_Polygon c) b6 g6
    have g15 := ok_rb O Tp f15 n5 g5
    have g16 := ok_bh (P := P) (w := w) (base := base) O f16
    have g17 := ok_pr (P := P) (w := w) (base := base) O f17
    have g19 := ok_keep (P := P) (w := w) (base := base) (CP := aP K) C Td f19
    have V1 : Env1 P w K mg base (aP K) (aD K) := ⟨O, C, Tp, Td, ⟨_, _, n16, g16⟩, ⟨_, _, n17, g17⟩, ⟨_, _, n4, g4⟩, ⟨_, _, n5, g5⟩, ⟨_, _, n29, g29⟩, ⟨_, _, n3, g3⟩, ⟨_, _, n10, g10⟩, ⟨_, _, n13, g13⟩, ⟨_, _, n14, g14⟩, ⟨_, _, n15, g15⟩, ⟨_, _, ⟨m19, b19⟩, g19⟩⟩
    have g18 := ok_di V1 C2 f18
    have g20 := ok_begin V1 C2 f20
    have g21 := ok_steps V1 f21
    have g22 := ok_cut V1 f22
    have g23 := ok_shift V1 f23
    have g24 := ok_undo V1 f24
    have g25 := ok_tell V1 f25
    have O2 := own2_of X G c
    have Ts := ts_of X G c
    have g30 := ok_sf (P := P) (w := w) (mg := mg) (base := base) f30
    have g31 := ok_ta O O2 Tp f31 n29 g29
    have g32 := ok_si (P := P) (w := w) (base := base) Ts f32
    have g33 := ok_co (P := P) (w := w) (base := base) O2 Tp f33
    have g34 := ok_sa Ts f34 (mkr_Stretch c) b32 g32
    have g35 := ok_ls O O2 f35 n8 g8 n34 g34
    have g36 := ok_bs Tp f36 n35 g35
    have g37 := ok_hm O2 Ts f37 n33 g33 n36 g36 n30 g30
    have g38 := ok_pin f38 (int_WITH_EDGES X G c) n37 g37
    have g39 := ok_pwi f39 (int_WITHIN X G c) n37 g37
    have g40 := ok_ro (P := P) (w := w) (base := base) O Ts f40
    have g41 := ok_ce O O2 f41 (int_WITH_EDGES X G c) n33 g33 n36 g36 n40 g40
    have g42 := ok_shr (P := P) (w := w) (base := base) Tp f42
    have g43 := ok_bc Tp f43 n31 g31 n38 g38 n42 g42
    have g44 := ok_so Tp f44 n31 g31 n43 g43
    have g45 := ok_ps O Tp f45 n29 g29 n10 g10
    have g46 := ok_led (P := P) (w := w) (mg := mg) (base := base) f46
    have V3 : Env3 P w K mg base (aP K) := ⟨O2, int_MOST_COUNTED X G c, int_MOST_FAR X G c, int_LONGEST_RULE X G c, ⟨_, _, n31, g31⟩, ⟨_, _, n9, g9⟩, ⟨_, _, n38, g38⟩, ⟨_, _, n39, g39⟩, ⟨_, _, n42, g42⟩, ⟨_, _, n43, g43⟩, ⟨_, _, n44, g44⟩, ⟨_, _, n41, g41⟩, ⟨_, _, n45, g45⟩, ⟨_, _, n46, g46⟩⟩
    have g47 := ok_tar V1 V3 f47
    have g48 := ok_bst V1 V3 f48
    have VB : Bst P w K mg base (aP K) (aD K) := ⟨⟨_, _, ⟨m48, b48⟩, g48⟩⟩
    have g49 := ok_tc V1 V3 VB f49
    have g50 := ok_ti V1 V3 VB f50
    have g51 := ok_tru V1 V3 VB f51
    have g52 := ok_tf V1 V3 VB f52
    have g53 := ok_th V1 V3 VB f53
    have V2 : Env2 P w K mg base (aP K) (aD K) := ⟨Td, ⟨_, _, ⟨m20, b20⟩, g20⟩, ⟨_, _, ⟨m21, b21⟩, g21⟩, ⟨_, _, ⟨m22, b22⟩, g22⟩, ⟨_, _, ⟨m23, b23⟩, g23⟩, ⟨_, _, ⟨m24, b24⟩, g24⟩, ⟨_, _, ⟨m25, b25⟩, g25⟩, ⟨_, _, ⟨m47, b47⟩, g47⟩, ⟨_, _, ⟨m49, b49⟩, g49⟩, ⟨_, _, ⟨m50, b50⟩, g50⟩, ⟨_, _, ⟨m51, b51⟩, g51⟩, ⟨_, _, ⟨m52, b52⟩, g52⟩, ⟨_, _, ⟨m53, b53⟩, g53⟩⟩
    have g26 := ok_read (P := P) (w := w) (base := base) O gF hF f26
    have g54 := ok_aa V2 (nums_of X G c) f54
    have g27 := ok_ask V2 (nums_of X G c) f27 n54 g54
    exact weak (ok_ans (by decide) O f28 (glo_Desk X G c) (mkr_Desk c) b18 g18 n26 g26 n27 g27) fun vs H Q E z => ans_in z
end
end Pw
end

section
namespace Pw
/-- all calls that are handed in have numbers up to 12 -/
theorem calls_le : ∀ (f : Nat) (l : List Int) (cs : List (List (List Int))), PyFlat.calls PySq71.shape f l = some cs → ∀ c ∈ cs, ∀ p ws rows, c = (p :: ws) :: rows → p ≤ lastCall
  | f, [], cs, h => by
    rw [calls_nil h]
    intro c hc
    cases hc
  | f, q :: r, cs, h => by
    obtain ⟨f', c0, t, cs', rfl, hc, hcs, rfl⟩ := calls_more h
    intro c hm p ws rows e
    rcases List.mem_cons.1 hm with e0 | hm
    · rw [← e0, e] at hc
      obtain ⟨_, n, k, _, hs, _⟩ := call_some hc
      exact (shape_nat hs).2
    · exact calls_le f' t cs' hcs c hm p ws rows e
end Pw
end
set_option Elab.async false
open PySem PySem.W PyProof.Rows
set_option maxRecDepth 100000 in
set_option maxHeartbeats 8000000 in
theorem PySem.Challenge.cw_wholepointsdesk_s01_answers_holds : PySem.Challenge.rw_wholepointsdesk_s01_answers.Holds := by
  w_on; k_headS; (case hw => exact ⟨[.list [.int 5]], by decide +kernel, by decide +kernel⟩)
  k_fillS
  refine L2.walk_specK (r := PySem.Challenge.rw_wholepointsdesk_s01_answers) (k := 13) (CX := L2.CX0) (ps := ["calls"]) (sp := Pw.spAns) (by decide +kernel) rfl rfl ⟨rfl, by decide, by decide⟩ (fun w h Y => PySem.W.kIn_of Y) ?F ?S (fun _ _ _ _ z => z)
  case F =>
    intro w mg f h Y KX G hmg
    refine' Pw.all_mk KX G hmg ?c ?t
    case c =>
      clear Y hmg
      show He.obsE Pw.fa Pw.fn _ = He.valE Pw.fn
      kernel_rfl
    case t =>
      clear Y hmg
      kernel_rfl
  case S =>
    intro K H xs a hO hwi hask hx
    cases hx with
    | cons h1 h2 =>
      cases h2
      cases h1 with
      | lst hs ha =>
        have e := L2.ints_dw a.1 _ ha
        subst e
        have q : ((Codec.inLen 0 16000 a.1 && a.1.all (Codec.inInt 0 18446744073709551615)) && true) = true := hwi
        rw [Bool.and_eq_true, Bool.and_eq_true] at q
        refine ⟨_, a.1, rfl, hs, (Codec.inNat_iff.mp q.1.1).2, hask, ?_, fun H' p hp => .lst (L2.SqL.of hp) (L2.dw_ints _)⟩
        exact Pw.calls_le _ _
