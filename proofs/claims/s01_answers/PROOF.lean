import PyProof.Rows.All
import Wide.All
import OpenK.AllK
import Wide.FinOn
import PyProof.EqAt
import PyProof.EqKinds
import PyProof.TupleCall
import PyProof.NoPylong
import Open.SpecLaws
import KE.OsGo
import HandS.ForSpec
import HandS.Comp
import HandS.Iter
import HandS.Zip
import HandS.Rev
import HandS.Wide
import HandS.WideMore
import HandS.SetFor
import HandS.Flow
import HandS.Style
import HandS.Walk
import PySem.Challenge.RW_interlaced_s01_answers
import HandS.Head4
import HandS.HeadHook2
set_option Elab.async false
set_option linter.all false
set_option maxRecDepth 100000
set_option maxHeartbeats 4000000
namespace Kv
abbrev ev (p : List Rat) (t : Rat) : Rat := Kqg1.evaluate p t
theorem ev_nil (t : Rat) : ev [] t = 0 := rfl
theorem ev_cons (c : Rat) (p : List Rat) (t : Rat) : ev (c :: p) t = c + t * ev p t := rfl
theorem ev_one (c t : Rat) : ev [c] t = c := by rw [ev_cons, ev_nil]; grind
def ab (x : Rat) : Rat := if x < 0 then -x else x
theorem ab_nn (x : Rat) : 0 ≤ ab x := by unfold ab; grind
theorem le_ab (x : Rat) : x ≤ ab x := by unfold ab; grind
theorem neg_le_ab (x : Rat) : -x ≤ ab x := by unfold ab; grind
theorem ab_of_nn {x : Rat} (h : 0 ≤ x) : ab x = x := by unfold ab; grind
theorem ab_neg (x : Rat) : ab (-x) = ab x := by unfold ab; grind
theorem ab_le {x a : Rat} (h : x ≤ a) (h2 : -x ≤ a) : ab x ≤ a := by unfold ab; grind
theorem ab_lt {x a : Rat} (h : x < a) (h2 : -x < a) : ab x < a := by unfold ab; grind
theorem ab_add (x y : Rat) : ab (x + y) ≤ ab x + ab y := by unfold ab; grind
theorem ab_sub_comm (x y : Rat) : ab (x - y) = ab (y - x) := by unfold ab; grind
theorem ab_zero : ab 0 = 0 := by unfold ab; grind
theorem mul_nn {x y : Rat} (h : 0 ≤ x) (h2 : 0 ≤ y) : 0 ≤ x * y := Rat.mul_nonneg h h2
theorem mul_ps {x y : Rat} (h : 0 < x) (h2 : 0 < y) : 0 < x * y := Rat.mul_pos h h2
theorem mul_neg_neg {x y : Rat} (h : x < 0) (h2 : y < 0) : 0 < x * y := by
  have := mul_ps (show 0 < -x by grind) (show 0 < -y by grind)
  grind
theorem mul_neg_pos {x y : Rat} (h : x < 0) (h2 : 0 < y) : x * y < 0 := by
  have := mul_ps (show 0 < -x by grind) h2
  grind
theorem mul_pos_neg {x y : Rat} (h : 0 < x) (h2 : y < 0) : x * y < 0 := by
  have := mul_neg_pos h2 h
  grind
theorem mul_le {a b x y : Rat} (h0 : 0 ≤ a) (h1 : a ≤ x) (h2 : 0 ≤ b) (h3 : b ≤ y) : a * b ≤ x * y := by
  have e1 := Rat.mul_le_mul_of_nonneg_left h3 h0
  have e2 := Rat.mul_le_mul_of_nonneg_left h1 (show 0 ≤ y by grind)
  grind
theorem mul_le_l {a x y : Rat} (h0 : 0 ≤ a) (h3 : x ≤ y) : a * x ≤ a * y := Rat.mul_le_mul_of_nonneg_left h3 h0
theorem mul_lt_l {a x y : Rat} (h0 : 0 < a) (h3 : x < y) : a * x < a * y := Rat.mul_lt_mul_of_pos_left h3 h0
theorem mul_lt_cancel {a x y : Rat} (h0 : 0 ≤ a) (h : a * x < a * y) : x < y := by
  refine Classical.byContradiction fun z => ?_
  have := mul_le_l h0 (show y ≤ x by grind)
  grind
theorem mul_le_cancel {a x y : Rat} (h0 : 0 < a) (h : a * x ≤ a * y) : x ≤ y := by
  refine Classical.byContradiction fun z => ?_
  have := mul_lt_l h0 (show y < x by grind)
  grind
theorem mul_zero_cases {x y : Rat} (h : x * y = 0) : x = 0 ∨ y = 0 := by
  by_cases hx : x = 0
  · exact .inl hx
  · right
    have : y = x⁻¹ * (x * y) := by
      rw [← Rat.mul_assoc, Rat.inv_mul_cancel x hx]; grind
    rw [this, h]; grind
theorem ab_mul (x y : Rat) : ab (x * y) = ab x * ab y := by
  by_cases hx : x < 0 <;> by_cases hy : y < 0
  · have := mul_neg_neg hx hy
    unfold ab; grind
  · have := mul_nn (show 0 ≤ -x by grind) (show 0 ≤ y by grind)
    by_cases h0 : x * y = 0
    · rcases mul_zero_cases h0 with h | h
      · grind
      · unfold ab; grind
    · unfold ab; grind
  · have := mul_nn (show 0 ≤ x by grind) (show 0 ≤ -y by grind)
    by_cases h0 : x * y = 0
    · rcases mul_zero_cases h0 with h | h
      · unfold ab; grind
      · unfold ab; grind
    · unfold ab; grind
  · have := mul_nn (show 0 ≤ x by grind) (show 0 ≤ y by grind)
    unfold ab; grind
theorem ab_pos {x : Rat} (h : x ≠ 0) : 0 < ab x := by unfold ab; grind
theorem sq_nn (x : Rat) : 0 ≤ x * x := by
  by_cases h : x < 0
  · have := mul_neg_neg h h; grind
  · exact mul_nn (by grind) (by grind)
theorem div_ps {x y : Rat} (h : 0 < x) (h2 : 0 < y) : 0 < x / y := by
  rw [Rat.lt_div_iff h2]; grind
theorem div_mul_self {x y : Rat} (h : y ≠ 0) : x / y * y = x := by grind
def padd : List Rat → List Rat → List Rat
  | [], q => q
  | p, [] => p
  | a :: p, b :: q => (a + b) :: padd p q
def psc (c : Rat) (p : List Rat) : List Rat := p.map fun x => c * x
def pmul : List Rat → List Rat → List Rat
  | [], _ => []
  | a :: p, q => padd (psc a q) (0 :: pmul p q)
def pdv : List Rat → List Rat
  | [] => []
  | _ :: p => padd p (0 :: pdv p)
theorem ev_padd : ∀ (p q : List Rat) (t : Rat), ev (padd p q) t = ev p t + ev q t
  | [], q, t => by rw [padd, ev_nil]; grind
  | a :: p, [], t => by rw [padd, ev_nil]; grind; simp
  | a :: p, b :: q, t => by
    rw [padd, ev_cons, ev_cons, ev_cons, ev_padd p q t]; grind
theorem ev_psc (c : Rat) : ∀ (p : List Rat) (t : Rat), ev (psc c p) t = c * ev p t
  | [], t => by rw [psc, List.map_nil, ev_nil]; grind
  | a :: p, t => by
    have := ev_psc c p t
    rw [psc] at this
    rw [psc, List.map_cons, ev_cons, ev_cons, this]; grind
theorem ev_pmul : ∀ (p q : List Rat) (t : Rat), ev (pmul p q) t = ev p t * ev q t
  | [], q, t => by rw [pmul, ev_nil]; grind
  | a :: p, q, t => by
    rw [pmul, ev_padd, ev_psc, ev_cons, ev_cons, ev_pmul p q t]; grind
theorem ev_pdv_cons (c : Rat) (p : List Rat) (t : Rat) : ev (pdv (c :: p)) t = ev p t + t * ev (pdv p) t := by
  rw [pdv, ev_padd, ev_cons]; grind
theorem dv_padd : ∀ (p q : List Rat) (t : Rat), ev (pdv (padd p q)) t = ev (pdv p) t + ev (pdv q) t
  | [], q, t => by rw [padd, pdv, ev_nil]; grind
  | a :: p, [], t => by rw [padd, pdv, ev_nil]; grind; simp
  | a :: p, b :: q, t => by
    rw [padd, ev_pdv_cons, ev_pdv_cons, ev_pdv_cons, dv_padd p q t, ev_padd]; grind
theorem dv_psc (c : Rat) : ∀ (p : List Rat) (t : Rat), ev (pdv (psc c p)) t = c * ev (pdv p) t
  | [], t => by rw [psc, List.map_nil, pdv, ev_nil]; grind
  | a :: p, t => by
    have e1 := dv_psc c p t
    have e2 := ev_psc c p t
    rw [psc] at e1 e2
    rw [psc, List.map_cons, ev_pdv_cons, ev_pdv_cons, e1, e2]; grind
theorem dv_pmul : ∀ (p q : List Rat) (t : Rat), ev (pdv (pmul p q)) t = ev (pdv p) t * ev q t + ev p t * ev (pdv q) t
  | [], q, t => by rw [pmul, pdv, ev_nil]; grind
  | a :: p, q, t => by
    rw [pmul, dv_padd, dv_psc, ev_pdv_cons, ev_pdv_cons, ev_cons, dv_pmul p q t, ev_pmul]; grind
def mb (B : Rat) : List Rat → Rat
  | [] => 0
  | c :: p => ab c + B * mb B p
def lb (B : Rat) : List Rat → Rat
  | [] => 0
  | _ :: p => mb B p + B * lb B p
def tb (B : Rat) : List Rat → Rat
  | [] => 0
  | _ :: p => lb B p + B * tb B p
variable {B : Rat}
theorem mb_nn (hB : 0 ≤ B) : ∀ p, 0 ≤ mb B p
  | [] => by rw [mb]; grind
  | c :: p => by
    have := mul_nn hB (mb_nn hB p)
    have := ab_nn c
    rw [mb]; grind
theorem lb_nn (hB : 0 ≤ B) : ∀ p, 0 ≤ lb B p
  | [] => by rw [lb]; grind
  | c :: p => by
    have := mul_nn hB (lb_nn hB p)
    have := mb_nn hB p
    rw [lb]; grind
theorem tb_nn (hB : 0 ≤ B) : ∀ p, 0 ≤ tb B p
  | [] => by rw [tb]; grind
  | c :: p => by
    have := mul_nn hB (tb_nn hB p)
    have := lb_nn hB p
    rw [tb]; grind
theorem ab_ev_le (hB : 0 ≤ B) {x : Rat} (hx : ab x ≤ B) : ∀ p, ab (ev p x) ≤ mb B p
  | [] => by rw [ev_nil, mb, ab_zero]; grind
  | c :: p => by
    have h1 := ab_ev_le hB hx p
    have h2 := ab_add c (x * ev p x)
    rw [ab_mul] at h2
    have h3 := mul_le (ab_nn x) hx (ab_nn (ev p x)) h1
    rw [ev_cons, mb]; grind
theorem ab_lip_le (hB : 0 ≤ B) {x y : Rat} (hx : ab x ≤ B) (hy : ab y ≤ B) : ∀ p, ab (ev p x - ev p y) ≤ lb B p * ab (x - y)
  | [] => by rw [ev_nil, ev_nil, lb]; have := ab_zero; grind
  | c :: p => by
    have h1 := ab_lip_le hB hx hy p
    have h4 := ab_ev_le hB hy p
    have h2 := ab_add (x * (ev p x - ev p y)) ((x - y) * ev p y)
    rw [ab_mul, ab_mul] at h2
    have h3 := mul_le (ab_nn x) hx (ab_nn (ev p x - ev p y)) h1
    have h5 := mul_le (ab_nn (x - y)) (Rat.le_refl) (ab_nn (ev p y)) h4
    have e : ev (c :: p) x - ev (c :: p) y = x * (ev p x - ev p y) + (x - y) * ev p y := by
      rw [ev_cons, ev_cons]; grind
    rw [e, lb]; grind
theorem ab_tay_le (hB : 0 ≤ B) {x y : Rat} (hx : ab x ≤ B) (hy : ab y ≤ B) : ∀ p, ab (ev p y - ev p x - (y - x) * ev (pdv p) x) ≤ tb B p * (ab (y - x) * ab (y - x))
  | [] => by rw [pdv, ev_nil, ev_nil, tb]; have := ab_zero; grind
  | c :: p => by
    have h1 := ab_tay_le hB hx hy p
    have h4 := ab_lip_le hB hy hx p
    have h2 := ab_add (x * (ev p y - ev p x - (y - x) * ev (pdv p) x)) ((y - x) * (ev p y - ev p x))
    rw [ab_mul, ab_mul] at h2
    have h3 := mul_le (ab_nn x) hx (ab_nn _) h1
    have h5 := mul_le (ab_nn (y - x)) (Rat.le_refl) (ab_nn (ev p y - ev p x)) h4
    have e : ev (c :: p) y - ev (c :: p) x - (y - x) * ev (pdv (c :: p)) x = x * (ev p y - ev p x - (y - x) * ev (pdv p) x) + (y - x) * (ev p y - ev p x) := by
      rw [ev_cons, ev_cons, ev_pdv_cons]; grind
    rw [e, tb]; grind
end Kv
namespace Kv
def Ev (B : Rat) (P : Rat → Rat → Prop) : Prop := ∃ d : Rat, 0 < d ∧ ∀ s t, ab s ≤ B → ab t ≤ B → s < t → t - s < d → P s t
theorem Ev.of {B : Rat} {P : Rat → Rat → Prop} (h : ∀ s t, s < t → P s t) : Ev B P := ⟨1, by grind, fun s t _ _ a _ => h s t a⟩
theorem Ev.mono {B : Rat} {P R : Rat → Rat → Prop} (h : Ev B P) (k : ∀ s t, s < t → P s t → R s t) : Ev B R :=
  let ⟨d, h0, h1⟩ := h; ⟨d, h0, fun s t a b c e => k s t c (h1 s t a b c e)⟩
theorem Ev.and {B : Rat} {P R : Rat → Rat → Prop} (h : Ev B P) (k : Ev B R) : Ev B fun s t => P s t ∧ R s t := by
  obtain ⟨d, h0, h1⟩ := h
  obtain ⟨e, k0, k1⟩ := k
  by_cases c : d ≤ e
  · exact ⟨d, h0, fun s t a b x y => ⟨h1 s t a b x y, k1 s t a b x (by grind)⟩⟩
  · exact ⟨e, k0, fun s t a b x y => ⟨h1 s t a b x (by grind), k1 s t a b x y⟩⟩
abbrev sg (x : Rat) : Int := Kqg1.sign x
theorem sg_pos {x : Rat} (h : 0 < x) : sg x = 1 := by unfold sg Kqg1.sign; grind
theorem sg_neg {x : Rat} (h : x < 0) : sg x = -1 := by unfold sg Kqg1.sign; grind
theorem sg_zero : sg 0 = 0 := by unfold sg Kqg1.sign; grind
theorem sg_cases (x : Rat) : (0 < x ∧ sg x = 1) ∨ (x < 0 ∧ sg x = -1) ∨ (x = 0 ∧ sg x = 0) := by
  unfold sg Kqg1.sign; grind
theorem sg_mul (x y : Rat) : sg (x * y) = sg x * sg y := by
  rcases sg_cases x with ⟨h, e⟩ | ⟨h, e⟩ | ⟨h, e⟩ <;> rcases sg_cases y with ⟨k, l⟩ | ⟨k, l⟩ | ⟨k, l⟩ <;> rw [e, l]
  · exact sg_pos (mul_ps h k)
  · exact sg_neg (mul_pos_neg h k)
  · rw [k]; have : x * 0 = 0 := by grind
    rw [this]; exact sg_zero
  · exact sg_neg (mul_neg_pos h k)
  · exact sg_pos (mul_neg_neg h k)
  · rw [k]; have : x * 0 = 0 := by grind
    rw [this]; exact sg_zero
  all_goals
    rw [h]; have : 0 * y = 0 := by grind
    rw [this]; exact sg_zero
def Same (f : List Rat) (s t : Rat) : Prop := sg (ev f s) = sg (ev f t) ∧ sg (ev f s) ≠ 0
theorem Same.pos {f : List Rat} {s t : Rat} (h : Same f s t) : 0 < ev f s * ev f t := by
  obtain ⟨h1, h2⟩ := h
  rcases sg_cases (ev f s) with ⟨h, e⟩ | ⟨h, e⟩ | ⟨h, e⟩ <;> rcases sg_cases (ev f t) with ⟨k, l⟩ | ⟨k, l⟩ | ⟨k, l⟩ <;>
    first | exact mul_ps h k | exact mul_neg_neg h k | (rw [e] at h1 h2; rw [l] at h1; omega)
theorem keeps {a b n : Rat} (h : n ≤ ab a) (k : ab (a - b) < n) : sg a = sg b ∧ sg a ≠ 0 := by
  unfold ab at h k
  unfold sg Kqg1.sign; grind
theorem either {B : Rat} {f g u v : List Rat} (hB : 0 ≤ B) (bz : ∀ x, ev u x * ev f x + ev v x * ev g x = 1) :
    ∃ n : Rat, 0 < n ∧ ∀ x, ab x ≤ B → n ≤ ab (ev f x) ∨ n ≤ ab (ev g x) := by
  have hu := mb_nn hB u
  have hv := mb_nn hB v
  have hM : 0 < mb B u + mb B v + 1 := by grind
  refine ⟨1 / (mb B u + mb B v + 1), div_ps (by grind) hM, fun x hx => ?_⟩
  refine Classical.byContradiction fun z => ?_
  have z1 : ab (ev f x) < 1 / (mb B u + mb B v + 1) := by grind
  have z2 : ab (ev g x) < 1 / (mb B u + mb B v + 1) := by grind
  have d1 : 1 / (mb B u + mb B v + 1) * (mb B u + mb B v + 1) = 1 := div_mul_self (by grind)
  have q1 := mul_le (ab_nn (ev u x)) (ab_ev_le hB hx u) (ab_nn (ev f x)) (show _ ≤ 1 / (mb B u + mb B v + 1) by grind)
  have q2 := mul_le (ab_nn (ev v x)) (ab_ev_le hB hx v) (ab_nn (ev g x)) (show _ ≤ 1 / (mb B u + mb B v + 1) by grind)
  have q3 := ab_add (ev u x * ev f x) (ev v x * ev g x)
  rw [bz x, ab_mul, ab_mul] at q3
  have q4 : (1 : Rat) ≤ ab 1 := le_ab 1
  have q5 : 0 < 1 / (mb B u + mb B v + 1) := div_ps (by grind) hM
  grind
theorem cell {B L n : Rat} (hL : 0 ≤ L) (hn : 0 < n) : ∃ d : Rat, 0 < d ∧ ∀ s t : Rat, s < t → t - s < d → L * ab (s - t) < n := by
  refine ⟨n / (L + 1), div_ps hn (by grind), fun s t hs ht => ?_⟩
  have e : n / (L + 1) * (L + 1) = n := div_mul_self (by grind)
  have h1 := mul_lt_l (show 0 < L + 1 by grind) ht
  have e2 : ab (s - t) = t - s := by unfold ab; grind
  have h2 : L * (t - s) ≤ (L + 1) * (t - s) := by grind
  rw [e2]; grind
theorem two {B : Rat} {f g u v : List Rat} (hB : 0 ≤ B) (bz : ∀ x, ev u x * ev f x + ev v x * ev g x = 1) : Ev B fun s t => Same f s t ∨ Same g s t := by
  obtain ⟨n, hn, h⟩ := either hB bz
  have hf := lb_nn hB f
  have hg := lb_nn hB g
  obtain ⟨d, hd, hc⟩ := cell (B := B) (show 0 ≤ lb B f + lb B g by grind) hn
  refine ⟨d, hd, fun s t hs ht hst hd => ?_⟩
  have k := hc s t hst hd
  have k1 := ab_lip_le hB hs ht f
  have k2 := ab_lip_le hB hs ht g
  have a0 := ab_nn (s - t)
  have m1 := mul_nn hf a0
  have m2 := mul_nn hg a0
  rcases h s hs with h | h
  · exact .inl (keeps h (by grind))
  · exact .inr (keeps h (by grind))
theorem three {B : Rat} {f g h u v u' v' q : List Rat} (hB : 0 ≤ B) (bz : ∀ x, ev u x * ev f x + ev v x * ev g x = 1) (bz' : ∀ x, ev u' x * ev g x + ev v' x * ev h x = 1)
    (e : ∀ x, ev f x = ev q x * ev g x - ev h x) : Ev B fun s t => Same g s t ∨ (Same f s t ∧ Same h s t ∧ sg (ev f s) = -sg (ev h s)) := by
  obtain ⟨n1, hn1, h1⟩ := either hB bz
  obtain ⟨n2, hn2, h2⟩ := either hB bz'
  have hq := mb_nn hB q
  have hn : ∃ n : Rat, 0 < n ∧ n ≤ n1 ∧ n ≤ n2 := by
    by_cases c : n1 ≤ n2
    · exact ⟨n1, hn1, by grind, c⟩
    · exact ⟨n2, hn2, by grind, by grind⟩
  obtain ⟨n, hn0, hna, hnb⟩ := hn
  have hm : 0 < n / (mb B q + 2) := div_ps hn0 (by grind)
  have em : n / (mb B q + 2) * (mb B q + 2) = n := div_mul_self (by grind)
  have hmn : n / (mb B q + 2) < n := by
    have := mul_nn hq (show 0 ≤ n / (mb B q + 2) by grind)
    grind
  have hf := lb_nn hB f
  have hg := lb_nn hB g
  have hh := lb_nn hB h
  obtain ⟨d, hd, hc⟩ := cell (B := B) (show 0 ≤ lb B f + lb B g + lb B h by grind) hm
  refine ⟨d, hd, fun s t hs ht hst hd => ?_⟩
  have k := hc s t hst hd
  have k1 := ab_lip_le hB hs ht f
  have k2 := ab_lip_le hB hs ht g
  have k3 := ab_lip_le hB hs ht h
  have a0 := ab_nn (s - t)
  have m1 := mul_nn hf a0
  have m2 := mul_nn hg a0
  have m3 := mul_nn hh a0
  by_cases c : n / (mb B q + 2) ≤ ab (ev g s)
  · exact .inl (keeps c (by grind))
  · have b1 : n ≤ ab (ev f s) := by
      rcases h1 s hs with x | x <;> grind
    have b2 : n ≤ ab (ev h s) := by
      rcases h2 s hs with x | x <;> grind
    refine .inr ⟨keeps b1 (by grind), keeps b2 (by grind), ?_⟩
    have z1 := mul_le (ab_nn (ev q s)) (ab_ev_le hB hs q) (ab_nn (ev g s)) (show _ ≤ n / (mb B q + 2) by grind)
    rw [← ab_mul] at z1
    have z2 := le_ab (ev q s * ev g s)
    have z3 := neg_le_ab (ev q s * ev g s)
    have z4 := e s
    have z5 : mb B q * (n / (mb B q + 2)) < n := by grind
    have z6 : ab (ev q s * ev g s) < n := by grind
    clear k k1 k2 k3 a0 m1 m2 m3 z1 z5 h1 h2 em
    unfold ab at b1 b2
    unfold sg Kqg1.sign; grind
end Kv
namespace Kv
def vr : Int → List Int → Nat
  | _, [] => 0
  | e, x :: l => if x = 0 then vr e l else (if e ≠ 0 ∧ e ≠ x then 1 else 0) + vr x l
theorem vr_z {e x : Int} {l : List Int} (h : x = 0) : vr e (x :: l) = vr e l := by rw [vr, if_pos h]
theorem vr_n {e x : Int} {l : List Int} (h : x ≠ 0) : vr e (x :: l) = (if e ≠ 0 ∧ e ≠ x then 1 else 0) + vr x l := by rw [vr, if_neg h]
theorem sc_cons {e x : Int} {l : List Int} (h : x ≠ 0) (he : e ≠ 0) : Kqg1.signChanges (e :: x :: l) = (if e ≠ x then 1 else 0) + Kqg1.signChanges (x :: l) := by
  have a : (x != 0) = true := by simpa using h
  have b : (e != 0) = true := by simpa using he
  simp only [Kqg1.signChanges, List.filter_cons, a, b, if_true, List.drop_succ_cons, List.drop_zero, List.zip_cons_cons]
  by_cases c : e = x
  · subst c; simp
  · have : (e != x) = true := by simpa using c
    simp only [this, if_true, List.length_cons, ne_eq, c, not_false_eq_true]
    omega
theorem sc_z {e x : Int} {l : List Int} (h : x = 0) : Kqg1.signChanges (e :: x :: l) = Kqg1.signChanges (e :: l) := by
  subst h
  simp [Kqg1.signChanges, List.filter_cons]
theorem sc_z0 {x : Int} {l : List Int} (h : x = 0) : Kqg1.signChanges (x :: l) = Kqg1.signChanges l := by
  subst h
  simp [Kqg1.signChanges, List.filter_cons]
theorem vr_sc : ∀ (l : List Int) (e : Int), e ≠ 0 → vr e l = Kqg1.signChanges (e :: l)
  | [], e, he => by
    have b : (e != 0) = true := by simpa using he
    simp [vr, Kqg1.signChanges, b]
  | x :: l, e, he => by
    by_cases hx : x = 0
    · rw [vr_z hx, sc_z hx, vr_sc l e he]
    · rw [vr_n hx, sc_cons hx he, vr_sc l x hx]
      simp [he]
theorem vr_sc0 : ∀ (l : List Int), vr 0 l = Kqg1.signChanges l
  | [] => by simp [vr, Kqg1.signChanges]
  | x :: l => by
    by_cases hx : x = 0
    · rw [vr_z hx, sc_z0 hx, vr_sc0 l]
    · rw [vr_n hx, vr_sc l x hx]; simp
def Rl (f g : List Rat) : List (List Rat) → Prop
  | [] => True
  | h :: _ => ∃ q, ∀ x, ev f x = ev q x * ev g x - ev h x
def Lk : List (List Rat) → Prop
  | [] => False
  | [f] => ∃ c : Rat, c ≠ 0 ∧ ∀ x, ev f x = c
  | f :: g :: l => Rl f g l ∧ Lk (g :: l)
theorem Lk.one {f : List Rat} (h : Lk [f]) : ∃ c : Rat, c ≠ 0 ∧ ∀ x, ev f x = c := by rwa [Lk] at h
theorem Lk.tl {f g : List Rat} {l : List (List Rat)} (h : Lk (f :: g :: l)) : Lk (g :: l) := by rw [Lk] at h; exact h.2
theorem Lk.rel {f g h : List Rat} {l : List (List Rat)} (k : Lk (f :: g :: h :: l)) : ∃ q, ∀ x, ev f x = ev q x * ev g x - ev h x := by rw [Lk, Rl] at k; exact k.1
theorem Lk.bez : ∀ {l : List (List Rat)} {f g : List Rat}, Lk (f :: g :: l) → ∃ u v : List Rat, ∀ x, ev u x * ev f x + ev v x * ev g x = 1
  | [], f, g, h => by
    obtain ⟨c, hc, e⟩ := h.tl.one
    refine ⟨[], [1 / c], fun x => ?_⟩
    rw [ev_nil, ev_one, e x]; grind
  | k :: l, f, g, h => by
    obtain ⟨u, v, e⟩ := h.tl.bez
    obtain ⟨q, hq⟩ := h.rel
    refine ⟨psc (-1) v, padd u (pmul v q), fun x => ?_⟩
    have e1 := e x
    have e2 := hq x
    rw [ev_psc, ev_padd, ev_pmul]; grind
abbrev sgs (l : List (List Rat)) (t : Rat) : List Int := l.map fun p => sg (ev p t)
theorem same_const {g : List Rat} {c : Rat} (hc : c ≠ 0) (e : ∀ x, ev g x = c) (s t : Rat) : Same g s t := by
  refine ⟨by rw [e, e], ?_⟩
  rw [e]
  rcases sg_cases c with ⟨h, k⟩ | ⟨h, k⟩ | ⟨h, k⟩ <;> first | exact absurd h hc | (rw [k]; decide)
theorem small_step {e x : Int} {l : List Int} (he : e ≠ 0) (hx : x = 0 ∨ x = e ∨ x = -e) : vr e (x :: -e :: l) = 1 + vr (-e) l := by
  have hn : -e ≠ 0 := by omega
  rcases hx with h | h | h
  · rw [vr_z h, vr_n hn, if_pos ⟨he, by omega⟩]
  · rw [h, vr_n he, if_neg (by omega), vr_n hn, if_pos ⟨he, by omega⟩]; omega
  · rw [h, vr_n hn, if_pos ⟨he, by omega⟩, vr_n hn, if_neg (by omega)]; omega
theorem sg_three (x y : Rat) (h : sg y ≠ 0) : sg x = 0 ∨ sg x = sg y ∨ sg x = -sg y := by
  rcases sg_cases x with ⟨_, a⟩ | ⟨_, a⟩ | ⟨_, a⟩ <;> rcases sg_cases y with ⟨_, b⟩ | ⟨_, b⟩ | ⟨_, b⟩ <;> rw [a, b] <;> omega
theorem behind {B : Rat} (hB : 0 ≤ B) : ∀ (l : List (List Rat)) (f : List Rat), Lk (f :: l) → Ev B fun s t => ∀ e : Int, e ≠ 0 → sg (ev f s) = e → sg (ev f t) = e → vr e (sgs l s) = vr e (sgs l t)
  | [], f, _ => Ev.of fun s t _ e _ _ _ => rfl
  | [g], f, h => Ev.of fun s t _ e _ _ _ => by
    obtain ⟨c, hc, e⟩ := h.tl.one
    show vr _ [sg (ev g s)] = vr _ [sg (ev g t)]
    rw [e, e]
  | g :: h :: l, f, k => by
    obtain ⟨u, v, b1⟩ := k.bez
    obtain ⟨u', v', b2⟩ := k.tl.bez
    obtain ⟨q, hq⟩ := k.rel
    refine ((three hB b1 b2 hq).and ((behind hB (h :: l) g k.tl).and (behind hB l h k.tl.tl))).mono fun s t hst ⟨x, i1, i2⟩ e he es et => ?_
    show vr e (sg (ev g s) :: sgs (h :: l) s) = vr e (sg (ev g t) :: sgs (h :: l) t)
    rcases x with x | ⟨x, y, z⟩
    · rw [vr_n x.2, ← x.1, vr_n x.2, i1 _ x.2 rfl x.1.symm]
    · show vr e (sg (ev g s) :: sg (ev h s) :: sgs l s) = vr e (sg (ev g t) :: sg (ev h t) :: sgs l t)
      have e1 : sg (ev h s) = -e := by omega
      have e2 : sg (ev h t) = -e := by rw [← y.1]; exact e1
      have w1 := sg_three (ev g s) (ev f s) (by omega)
      have w2 := sg_three (ev g t) (ev f t) (by omega)
      rw [es] at w1
      rw [et] at w2
      rw [e1, e2, small_step he w1, small_step he w2, i2 (-e) (by omega) e1 e2]
def V (l : List (List Rat)) (t : Rat) : Int := (vr 0 (sgs l t) : Int)
def ind (f : List Rat) (s t : Rat) : Int := if ev f s ≠ 0 ∧ ev f s * ev f t ≤ 0 then 1 else 0
theorem ind_same {f : List Rat} {s t : Rat} (h : Same f s t) : ind f s t = 0 := by
  have := h.pos
  unfold ind; grind
theorem moves {B : Rat} {f g u v : List Rat} (hB : 0 ≤ B) (bz : ∀ x, ev u x * ev f x + ev v x * ev g x = 1) (hd : ∀ x, ev g x = ev (pdv f) x) :
    Ev B fun s t => Same f s t ∨ (Same g s t ∧ sg (ev f t - ev f s) = sg (ev g s)) := by
  obtain ⟨n, hn, h⟩ := either hB bz
  have hf := lb_nn hB f
  have hg := lb_nn hB g
  have htb := tb_nn hB f
  obtain ⟨d, hd0, hc⟩ := cell (B := B) (show 0 ≤ lb B f + lb B g + tb B f by grind) hn
  refine ⟨d, hd0, fun s t hs ht hst hd1 => ?_⟩
  have k := hc s t hst hd1
  have k1 := ab_lip_le hB hs ht f
  have k2 := ab_lip_le hB hs ht g
  have a0 := ab_nn (s - t)
  have m1 := mul_nn hf a0
  have m2 := mul_nn hg a0
  have m3 := mul_nn htb a0
  rcases h s hs with h | h
  · exact .inl (keeps h (by grind))
  · refine .inr ⟨keeps h (by grind), ?_⟩
    have k3 := ab_tay_le hB hs ht f
    have ea : ab (t - s) = t - s := by unfold ab; grind
    have ea' : ab (s - t) = t - s := by unfold ab; grind
    rw [ea, ← hd s] at k3
    rw [ea'] at k m1 m2 m3
    have k4 : tb B f * (t - s) < n := by grind
    have hp : 0 < t - s := by grind
    have k5 := mul_lt_l hp k4
    have r1 := le_ab (ev f t - ev f s - (t - s) * ev g s)
    have r2 := neg_le_ab (ev f t - ev f s - (t - s) * ev g s)
    rcases sg_cases (ev g s) with ⟨c, e⟩ | ⟨c, e⟩ | ⟨c, e⟩
    · rw [e]
      have z := mul_le_l (show 0 ≤ t - s by grind) h
      rw [show ab (ev g s) = ev g s by unfold ab; grind] at z
      exact sg_pos (by grind)
    · rw [e]
      have z := mul_le_l (show 0 ≤ t - s by grind) h
      rw [show ab (ev g s) = -ev g s by unfold ab; grind] at z
      exact sg_neg (by grind)
    · rw [c, ab_zero] at h
      grind
theorem head_step (x e : Int) (l : List Int) (he : e ≠ 0) (hx : x = 0 ∨ x = e ∨ x = -e) : vr 0 (x :: e :: l) = (if x = -e then 1 else 0) + vr e l := by
  rcases hx with h | h | h
  · rw [vr_z h, vr_n he, if_neg (by omega), if_neg (by omega)]
  · rw [h, vr_n he, vr_n he, if_neg (by omega), if_neg (by omega), if_neg (by omega)]; omega
  · rw [h, vr_n (show -e ≠ 0 by omega), vr_n he, if_pos rfl, if_neg (by omega), if_pos ⟨by omega, by omega⟩]; omega
theorem sturm_cell {B : Rat} (hB : 0 ≤ B) {f : List Rat} {l : List (List Rat)} (k : Lk (f :: l)) (hd : ∀ g r, l = g :: r → ∀ x, ev g x = ev (pdv f) x) :
    Ev B fun s t => V (f :: l) s - V (f :: l) t = ind f s t := by
  match l, k, hd with
  | [], k, _ =>
    obtain ⟨c, hc, e⟩ := k.one
    refine Ev.of fun s t _ => ?_
    rw [ind_same (same_const hc e s t)]
    show (vr 0 [sg (ev f s)] : Int) - (vr 0 [sg (ev f t)] : Int) = 0
    rw [e, e]; omega
  | g :: l, k, hd =>
    obtain ⟨u, v, bz⟩ := k.bez
    have hd := hd g l rfl
    refine ((moves hB bz hd).and ((behind hB (g :: l) f k).and (behind hB l g k.tl))).mono fun s t hst ⟨x, i1, i2⟩ => ?_
    unfold V
    rcases x with x | ⟨x, y⟩
    · rw [ind_same x]
      show (vr 0 (sg (ev f s) :: sgs (g :: l) s) : Int) - (vr 0 (sg (ev f t) :: sgs (g :: l) t) : Int) = 0
      rw [vr_n x.2, ← x.1, vr_n x.2, i1 _ x.2 rfl x.1.symm]; omega
    · show (vr 0 (sg (ev f s) :: sg (ev g s) :: sgs l s) : Int) - (vr 0 (sg (ev f t) :: sg (ev g t) :: sgs l t) : Int) = ind f s t
      have w1 := sg_three (ev f s) (ev g s) x.2
      have w2 := sg_three (ev f t) (ev g s) x.2
      have j := i2 _ x.2 rfl x.1.symm
      rw [← x.1, head_step _ _ _ x.2 w1, head_step _ _ _ x.2 w2, j]
      unfold ind
      have p1 := @mul_ps (ev f s) (ev f t)
      have p2 := @mul_neg_neg (ev f s) (ev f t)
      have p3 := @mul_neg_pos (ev f s) (ev f t)
      have p4 := @mul_pos_neg (ev f s) (ev f t)
      have p5 : ev f t = 0 → ev f s * ev f t = 0 := fun z => by rw [z]; grind
      rcases sg_cases (ev f s) with ⟨a, a'⟩ | ⟨a, a'⟩ | ⟨a, a'⟩ <;> rcases sg_cases (ev f t) with ⟨b, b'⟩ | ⟨b, b'⟩ | ⟨b, b'⟩ <;>
        rcases sg_cases (ev g s) with ⟨c, c'⟩ | ⟨c, c'⟩ | ⟨c, c'⟩ <;> rcases sg_cases (ev f t - ev f s) with ⟨d, d'⟩ | ⟨d, d'⟩ | ⟨d, d'⟩ <;> rw [c'] at y <;> rw [d'] at y <;> rw [a', b', c'] <;> first | (exfalso; omega) | grind
end Kv
namespace Kv
theorem halves {F : Rat → Rat → Prop} (tr : ∀ a b c, a < b → b < c → F a b → F b c → F a c) {B d : Rat} (hd : 0 < d) (h : ∀ s t, ab s ≤ B → ab t ≤ B → s < t → t - s < d → F s t) :
    ∀ (n : Nat) (s t : Rat), ab s ≤ B → ab t ≤ B → s < t → t - s < (n : Rat) * (d / 2) → F s t
  | 0, s, t, _, _, c, e => by exfalso; grind
  | n + 1, s, t, hs, ht, c, e => by
    by_cases k : t - s < d
    · exact h s t hs ht c k
    · have hm : ab (t - d / 2) ≤ B := by
        have a1 := neg_le_ab s
        have a2 := le_ab t
        exact ab_le (by grind) (by grind)
      have en : ((n + 1 : Nat) : Rat) = (n : Rat) + 1 := by grind
      rw [en] at e
      have j1 := halves tr hd h n s (t - d / 2) hs hm (by grind) (by grind)
      have j2 := h (t - d / 2) t hm ht (by grind) (by grind)
      exact tr _ _ _ (by grind) (by grind) j1 j2
theorem archimedes (x : Rat) : ∃ n : Nat, x < (n : Rat) := by
  refine ⟨x.floor.toNat + 1, ?_⟩
  have h := @Rat.lt_floor x
  have k : x.floor ≤ (x.floor.toNat : Int) := by omega
  have k2 : (x.floor : Rat) ≤ ((x.floor.toNat : Int) : Rat) := Rat.intCast_le_intCast.mpr k
  have e : (((x.floor.toNat : Nat) : Int) : Rat) = ((x.floor.toNat : Nat) : Rat) := Rat.intCast_natCast _
  have e2 : ((x.floor.toNat + 1 : Nat) : Rat) = (x.floor.toNat : Rat) + 1 := by grind
  rw [e2]; rw [e] at k2; grind
theorem glob {F : Rat → Rat → Prop} (tr : ∀ a b c, a < b → b < c → F a b → F b c → F a c) (h : ∀ B, 0 ≤ B → Ev B F) {s t : Rat} (hst : s < t) : F s t := by
  have a1 := ab_nn s
  have a2 := ab_nn t
  obtain ⟨d, hd, k⟩ := h (ab s + ab t) (by grind)
  obtain ⟨n, hn⟩ := archimedes ((t - s) / (d / 2))
  refine halves tr hd k n s t (by grind) (by grind) hst ?_
  have := (Rat.div_lt_iff (show 0 < d / 2 by grind)).mp hn
  exact this
theorem dv_congr {p q : List Rat} (h : ∀ x, ev p x = ev q x) (x : Rat) : ev (pdv p) x = ev (pdv q) x := by
  refine Classical.byContradiction fun z => ?_
  have hB : 0 ≤ ab x + 1 := by have := ab_nn x; grind
  have t1 := tb_nn hB p
  have t2 := tb_nn hB q
  have c0 : 0 < ab (ev (pdv p) x - ev (pdv q) x) := ab_pos (by grind)
  obtain ⟨d, hd, hc⟩ := cell (B := 0) (show 0 ≤ tb (ab x + 1) p + tb (ab x + 1) q by grind) c0
  have hw : ∃ w : Rat, 0 < w ∧ w < d ∧ w ≤ 1 := by
    by_cases c : d ≤ 1
    · exact ⟨d / 2, by grind, by grind, by grind⟩
    · exact ⟨1, by grind, by grind, by grind⟩
  obtain ⟨w, w0, w1, w2⟩ := hw
  have hx : ab x ≤ ab x + 1 := by grind
  have hy : ab (x + w) ≤ ab x + 1 := by
    have := ab_add x w
    rw [ab_of_nn (show 0 ≤ w by grind)] at this
    grind
  have k1 := ab_tay_le hB hx hy p
  have k2 := ab_tay_le hB hx hy q
  have k3 := hc x (x + w) (by grind) (by grind)
  have e1 : ab (x + w - x) = w := by rw [show x + w - x = w by grind]; exact ab_of_nn (by grind)
  have e2 : ab (x - (x + w)) = w := by rw [show x - (x + w) = -w by grind, ab_neg]; exact ab_of_nn (by grind)
  rw [e1] at k1 k2
  rw [e2] at k3
  rw [h (x + w), h x] at k1
  have k4 := ab_add (ev q (x + w) - ev q x - (x + w - x) * ev (pdv q) x) (-(ev q (x + w) - ev q x - (x + w - x) * ev (pdv p) x))
  rw [ab_neg] at k4
  have e3 : ev q (x + w) - ev q x - (x + w - x) * ev (pdv q) x + -(ev q (x + w) - ev q x - (x + w - x) * ev (pdv p) x) = w * (ev (pdv p) x - ev (pdv q) x) := by grind
  rw [e3, ab_mul, ab_of_nn (show 0 ≤ w by grind)] at k4
  have k5 : w * ab (ev (pdv p) x - ev (pdv q) x) ≤ w * ((tb (ab x + 1) p + tb (ab x + 1) q) * w) := by grind
  have k6 := mul_le_cancel w0 k5
  grind
theorem dv_mul {f u w : List Rat} (h : ∀ x, ev f x = ev u x * ev w x) (x : Rat) : ev (pdv f) x = ev (pdv u) x * ev w x + ev u x * ev (pdv w) x := by
  rw [dv_congr (q := pmul u w) (fun x => by rw [h, ev_pmul]) x, dv_pmul]
theorem dv_sc {f u : List Rat} {c : Rat} (h : ∀ x, ev f x = c * ev u x) (x : Rat) : ev (pdv f) x = c * ev (pdv u) x := by
  rw [dv_congr (q := psc c u) (fun x => by rw [h, ev_psc]) x, dv_psc]
def Cop (f g : List Rat) : Prop := ∃ u v : List Rat, ∀ x, ev u x * ev f x + ev v x * ev g x = 1
def Sqf (f : List Rat) : Prop := Cop f (pdv f)
theorem Cop.symm {f g : List Rat} (h : Cop f g) : Cop g f := let ⟨u, v, e⟩ := h; ⟨v, u, fun x => by have := e x; grind⟩
theorem Cop.cells {f g : List Rat} (h : Cop f g) {B : Rat} (hB : 0 ≤ B) : Ev B fun s t => Same f s t ∨ Same g s t := let ⟨_, _, e⟩ := h; two hB e
theorem Cop.of_mul {f g u w : List Rat} (h : Cop f g) (e : ∀ x, ev f x = ev u x * ev w x) : Cop u g := by
  obtain ⟨a, b, k⟩ := h
  refine ⟨pmul a w, b, fun x => ?_⟩
  have := k x
  have := e x
  rw [ev_pmul]; grind
theorem Sqf.factors {f u w : List Rat} (h : Sqf f) (e : ∀ x, ev f x = ev u x * ev w x) : Cop u w := by
  obtain ⟨a, b, k⟩ := h
  refine ⟨padd (pmul a w) (pmul b (pdv w)), pmul b (pdv u), fun x => ?_⟩
  have := k x
  have := e x
  have := dv_mul e x
  rw [ev_padd, ev_pmul, ev_pmul, ev_pmul]; grind
theorem Sqf.factor {f u w : List Rat} (h : Sqf f) (e : ∀ x, ev f x = ev u x * ev w x) : Sqf u := by
  obtain ⟨a, b, k⟩ := h
  refine ⟨padd (pmul a w) (pmul b (pdv w)), pmul b w, fun x => ?_⟩
  have := k x
  have := e x
  have := dv_mul e x
  rw [ev_padd, ev_pmul, ev_pmul, ev_pmul]; grind
def z (f : List Rat) (t : Rat) : Int := if ev f t = 0 then 1 else 0
structure Cnt (f : List Rat) (W : Rat → Int) : Prop where
  at' : ∀ B, 0 ≤ B → Ev B fun s t => W s - W t = ind f s t ∧ (ev f s = 0 → ev f t ≠ 0)
theorem ind_nn (f : List Rat) (s t : Rat) : 0 ≤ ind f s t := by unfold ind; split <;> omega
theorem ind_le (f : List Rat) (s t : Rat) : ind f s t ≤ 1 := by unfold ind; split <;> omega
theorem ind_mul {f u w : List Rat} {s t : Rat} (e : ∀ x, ev f x = ev u x * ev w x) (h : Same w s t) : ind f s t = ind u s t := by
  have p := h.pos
  have hs : ev w s ≠ 0 := by intro y; rw [y] at p; grind
  unfold ind
  have e1 := e s
  have e2 := e t
  have e3 : ev f s * ev f t = (ev u s * ev u t) * (ev w s * ev w t) := by grind
  have e4 : ev f s ≠ 0 ↔ ev u s ≠ 0 := by
    rw [e1]
    constructor
    · intro a b; rw [b] at a; grind
    · intro a b; rcases mul_zero_cases b with b | b <;> contradiction
  have e5 : ev f s * ev f t ≤ 0 ↔ ev u s * ev u t ≤ 0 := by
    rw [e3]
    constructor
    · intro a
      refine Classical.byContradiction fun b => ?_
      have := mul_ps (show 0 < ev u s * ev u t by grind) p
      grind
    · intro a
      have := mul_nn (show 0 ≤ -(ev u s * ev u t) by grind) (show 0 ≤ ev w s * ev w t by grind)
      grind
  simp only [e4, e5]
theorem Cnt.mono {f : List Rat} {W : Rat → Int} (h : Cnt f W) {s t : Rat} (hst : s < t) : W t ≤ W s :=
  glob (F := fun s t => W t ≤ W s) (fun _ _ _ _ _ x y => by omega) (fun B hB => (h.at' B hB).mono fun s t _ x => by have := ind_nn f s t; omega) hst
theorem Cnt.of_const {f : List Rat} {W W' : Rat → Int} (h : Cnt f W) (h' : Cnt f W') {s t : Rat} (hst : s < t) : W s - W t = W' s - W' t :=
  glob (F := fun s t => W s - W t = W' s - W' t) (fun _ _ _ _ _ x y => by omega) (fun B hB => ((h.at' B hB).and (h'.at' B hB)).mono fun s t _ x => by omega) hst
theorem Cnt.of_chain {f : List Rat} {l : List (List Rat)} (k : Lk (f :: l)) (hd : ∀ g r, l = g :: r → ∀ x, ev g x = ev (pdv f) x) : Cnt f (V (f :: l)) := by
  refine ⟨fun B hB => (sturm_cell hB k hd).and ?_⟩
  match l, k, hd with
  | [], k, _ =>
    obtain ⟨c, hc, e⟩ := k.one
    exact Ev.of fun s t _ x => by rw [e] at x; contradiction
  | g :: l, k, hd =>
    obtain ⟨u, v, bz⟩ := k.bez
    refine (moves hB bz (hd g l rfl)).mono fun s t _ x e e2 => ?_
    rcases x with x | ⟨x, y⟩
    · have := x.2
      rw [e, sg_zero] at this
      exact this rfl
    · have := x.2
      rw [e, e2, show (0 : Rat) - 0 = 0 by grind, sg_zero] at y
      omega
theorem Cnt.dom {f u w : List Rat} {W U : Rat → Int} (sq : Sqf f) (e : ∀ x, ev f x = ev u x * ev w x) (h : Cnt f W) (k : Cnt u U) {s t : Rat} (hst : s < t) : U s - U t ≤ W s - W t :=
  glob (F := fun s t => U s - U t ≤ W s - W t) (fun _ _ _ _ _ x y => by omega) (fun B hB => ((sq.factors e).cells hB |>.and ((h.at' B hB).and (k.at' B hB))).mono fun s t _ ⟨x, y, y'⟩ => by
    have := ind_nn f s t
    rcases x with x | x
    · have := ind_same x; omega
    · have := ind_mul e x; omega) hst
theorem Cnt.left {f : List Rat} {W : Rat → Int} (h : Cnt f W) (t : Rat) : ∃ d : Rat, 0 < d ∧ ∀ s, s < t → t - s < d → W s = W t + z f t := by
  have a0 := ab_nn t
  have hB : 0 ≤ ab t + 1 := by grind
  obtain ⟨d, hd, k⟩ := h.at' (ab t + 1) hB
  have nb : ∀ s, s < t → t - s < 1 → ab s ≤ ab t + 1 := fun s h1 h2 => by
    have h3 := ab_add t (s - t)
    rw [show t + (s - t) = s by grind, show s - t = -(t - s) by grind, ab_neg, ab_of_nn (show 0 ≤ t - s by grind)] at h3
    grind
  have le1 : ∀ a b : Rat, 0 < a → 0 < b → ∃ c : Rat, 0 < c ∧ c ≤ a ∧ c ≤ b := fun a b ha hb => by
    by_cases c : a ≤ b
    · exact ⟨a, ha, by grind, c⟩
    · exact ⟨b, hb, by grind, by grind⟩
  by_cases c : ev f t = 0
  · obtain ⟨e, he, e1, e2⟩ := le1 d 1 hd (by grind)
    refine ⟨e, he, fun s h1 h2 => ?_⟩
    obtain ⟨k1, k2⟩ := k s t (nb s h1 (by grind)) (by grind) h1 (by grind)
    have k3 : ev f s ≠ 0 := fun q => k2 q c
    have k4 : ind f s t = 1 := by
      unfold ind
      rw [c, if_pos ⟨k3, by grind⟩]
    have k5 : z f t = 1 := if_pos c
    omega
  · obtain ⟨n, hn, hc⟩ := cell (B := 0) (lb_nn hB f) (ab_pos c)
    obtain ⟨e0, he0, e1, e2⟩ := le1 d 1 hd (by grind)
    obtain ⟨e, he, e3, e4⟩ := le1 e0 n he0 hn
    refine ⟨e, he, fun s h1 h2 => ?_⟩
    have hs := nb s h1 (by grind)
    obtain ⟨k1, k2⟩ := k s t hs (by grind) h1 (by grind)
    have k3 := ab_lip_le hB (show ab t ≤ ab t + 1 by grind) hs f
    have k4 := hc s t h1 (by grind)
    rw [ab_sub_comm s t] at k4
    have k5 := keeps (a := ev f t) (b := ev f s) Rat.le_refl (by grind)
    have k6 : ind f s t = 0 := ind_same ⟨k5.1.symm, by rw [← k5.1]; exact k5.2⟩
    have k7 : z f t = 0 := if_neg c
    omega
theorem z_nn (f : List Rat) (t : Rat) : 0 ≤ z f t := by unfold z; split <;> omega
theorem near {s t d : Rat} (h : s < t) (hd : 0 < d) : ∃ x, s < x ∧ x < t ∧ t - x < d := by
  by_cases c : t - s < d
  · exact ⟨(s + t) / 2, by grind, by grind, by grind⟩
  · exact ⟨t - d / 2, by grind, by grind, by grind⟩
theorem near2 {s t d e : Rat} (h : s < t) (hd : 0 < d) (he : 0 < e) : ∃ x, s < x ∧ x < t ∧ t - x < d ∧ t - x < e := by
  by_cases c : d ≤ e
  · obtain ⟨x, a, b, k⟩ := near h hd; exact ⟨x, a, b, k, by grind⟩
  · obtain ⟨x, a, b, k⟩ := near h he; exact ⟨x, a, b, by grind, k⟩
theorem Cnt.mono_left {f : List Rat} {W : Rat → Int} (h : Cnt f W) {s t : Rat} (hst : s < t) : W t + z f t ≤ W s := by
  obtain ⟨d, hd, k⟩ := h.left t
  obtain ⟨x, a, b, c⟩ := near hst hd
  have := k x b c
  have := h.mono a
  omega
theorem Cnt.dom_left {f u w : List Rat} {W U : Rat → Int} (sq : Sqf f) (e : ∀ x, ev f x = ev u x * ev w x) (h : Cnt f W) (k : Cnt u U) {s t : Rat} (hst : s < t) :
    U s - (U t + z u t) ≤ W s - (W t + z f t) := by
  obtain ⟨d, hd, hk⟩ := h.left t
  obtain ⟨d', hd', kk⟩ := k.left t
  obtain ⟨x, a, b, c, c'⟩ := near2 hst hd hd'
  have := hk x b c
  have := kk x b c'
  have := Cnt.dom sq e h k a
  omega
theorem z_dom {f u w : List Rat} (e : ∀ x, ev f x = ev u x * ev w x) (t : Rat) : z u t ≤ z f t := by
  unfold z
  by_cases c : ev u t = 0
  · have : ev f t = 0 := by rw [e, c]; grind
    rw [if_pos c, if_pos this]; omega
  · rw [if_neg c]; split <;> omega
theorem joint_cells {a b g p q J : List Rat} {c : Rat} (hc : c ≠ 0) (hab : Cop a b) (hag : Cop a g) (hbg : Cop b g)
    (hp : ∀ x, ev p x = ev a x * ev g x) (hq : ∀ x, ev q x = ev b x * ev g x) (hJ : ∀ x, ev J x = c * (ev a x * ev b x * ev g x)) {B : Rat} (hB : 0 ≤ B) :
    Ev B fun s t => ind J s t = ind p s t + ind q s t - ind g s t := by
  have sC : ∀ s t, Same [c] s t := fun s t => same_const hc (fun x => ev_one c x) s t
  have mul : ∀ {u w : List Rat} {s t : Rat}, Same u s t → Same w s t → Same (pmul u w) s t := fun {u w s t} h k => by
    refine ⟨by rw [ev_pmul, ev_pmul, sg_mul, sg_mul, h.1, k.1], ?_⟩
    rw [ev_pmul, sg_mul]
    exact Int.mul_ne_zero h.2 k.2
  refine (((hab.cells hB).and ((hag.cells hB).and (hbg.cells hB)))).mono fun s t _ ⟨x, y, w⟩ => ?_
  have jg : Same a s t → Same b s t → ind J s t = ind g s t := fun h k =>
    ind_mul (w := pmul [c] (pmul a b)) (fun x => by rw [hJ, ev_pmul, ev_pmul, ev_one]; grind) (mul (sC s t) (mul h k))
  have ja : Same b s t → Same g s t → ind J s t = ind a s t := fun h k =>
    ind_mul (w := pmul [c] (pmul b g)) (fun x => by rw [hJ, ev_pmul, ev_pmul, ev_one]; grind) (mul (sC s t) (mul h k))
  have jb : Same a s t → Same g s t → ind J s t = ind b s t := fun h k =>
    ind_mul (w := pmul [c] (pmul a g)) (fun x => by rw [hJ, ev_pmul, ev_pmul, ev_one]; grind) (mul (sC s t) (mul h k))
  have pa : Same g s t → ind p s t = ind a s t := fun h => ind_mul hp h
  have pg : Same a s t → ind p s t = ind g s t := fun h => ind_mul (fun x => by rw [hp]; grind) h
  have qb : Same g s t → ind q s t = ind b s t := fun h => ind_mul hq h
  have qg : Same b s t → ind q s t = ind g s t := fun h => ind_mul (fun x => by rw [hq]; grind) h
  by_cases hA : Same a s t
  · by_cases hBb : Same b s t
    · have := jg hA hBb; have := pg hA; have := qg hBb; omega
    · have hG : Same g s t := by rcases w with w | w; exact absurd w hBb; exact w
      have := jb hA hG; have := pa hG; have := qb hG; have := ind_same hA; have := ind_same hG; omega
  · have hBb : Same b s t := by rcases x with x | x; exact absurd x hA; exact x
    have hG : Same g s t := by rcases y with y | y; exact absurd y hA; exact y
    have := ja hBb hG; have := pa hG; have := qb hG; have := ind_same hBb; have := ind_same hG; omega
theorem Cnt.joint {a b g p q J : List Rat} {c : Rat} (hc : c ≠ 0) (hab : Cop a b) (hag : Cop a g) (hbg : Cop b g)
    (hp : ∀ x, ev p x = ev a x * ev g x) (hq : ∀ x, ev q x = ev b x * ev g x) (hJ : ∀ x, ev J x = c * (ev a x * ev b x * ev g x))
    {VJ Vp Vq Vg : Rat → Int} (kJ : Cnt J VJ) (kp : Cnt p Vp) (kq : Cnt q Vq) (kg : Cnt g Vg) {s t : Rat} (hst : s < t) :
    VJ s - VJ t = (Vp s - Vp t) + (Vq s - Vq t) - (Vg s - Vg t) :=
  glob (F := fun s t => VJ s - VJ t = (Vp s - Vp t) + (Vq s - Vq t) - (Vg s - Vg t)) (fun _ _ _ _ _ x y => by omega)
    (fun B hB => ((joint_cells hc hab hag hbg hp hq hJ hB).and ((kJ.at' B hB).and ((kp.at' B hB).and ((kq.at' B hB).and (kg.at' B hB))))).mono fun s t _ x => by omega) hst
end Kv
namespace Kv
abbrev ld (p : List Rat) : Rat := Kqg1.leadingCoefficient p
theorem ld_nil : ld [] = 0 := rfl
theorem ld_one (a : Rat) : ld [a] = a := rfl
theorem ld_cons2 (a b : Rat) (p : List Rat) : ld (a :: b :: p) = ld (b :: p) := by
  simp [ld, Kqg1.leadingCoefficient, List.getLast?_cons_cons]
theorem ld_cons (a : Rat) {p : List Rat} (h : p ≠ []) : ld (a :: p) = ld p := by
  match p, h with
  | b :: p, _ => exact ld_cons2 a b p
theorem ld_mem : ∀ {p : List Rat}, p ≠ [] → ld p ∈ p
  | [], h => absurd rfl h
  | [a], _ => by simp [ld_one]
  | a :: b :: p, _ => by rw [ld_cons2]; exact List.mem_cons_of_mem _ (ld_mem (by simp))
def Tr (p : List Rat) : Prop := p = [] ∨ ld p ≠ 0
theorem Tr.nil : Tr [] := .inl rfl
theorem Tr.ld {p : List Rat} (h : Tr p) (k : p ≠ []) : ld p ≠ 0 := by
  rcases h with h | h
  · contradiction
  · exact h
theorem Tr.tl {a : Rat} {p : List Rat} (h : Tr (a :: p)) : Tr p := by
  by_cases k : p = []
  · exact .inl k
  · right
    have := h.ld (by simp)
    rwa [ld_cons a k] at this
theorem Tr.cons {a : Rat} {p : List Rat} (h : Tr p) (k : p ≠ []) : Tr (a :: p) := .inr (by rw [ld_cons a k]; exact h.ld k)
theorem Tr.one {a : Rat} (h : a ≠ 0) : Tr [a] := .inr h
theorem trim_nil : Kqg1.trim [] = [] := rfl
theorem trim_cons (a : Rat) (p : List Rat) : Kqg1.trim (a :: p) = if Kqg1.trim p = [] then (if a = 0 then [] else [a]) else a :: Kqg1.trim p := by
  unfold Kqg1.trim
  rw [List.reverse_cons, List.dropWhile_append]
  by_cases h : List.dropWhile (fun c => c == 0) p.reverse = []
  · rw [h]
    simp only [List.isEmpty_nil, if_true, List.reverse_nil, List.dropWhile_cons, List.dropWhile_nil]
    by_cases k : a = 0
    · simp [k]
    · simp [k]
  · have : (List.dropWhile (fun c => c == 0) p.reverse).isEmpty = false := by simpa using h
    simp [this, h]
theorem ev_trim : ∀ (p : List Rat) (t : Rat), ev (Kqg1.trim p) t = ev p t
  | [], t => rfl
  | a :: p, t => by
    have ih := ev_trim p t
    rw [trim_cons]
    by_cases h : Kqg1.trim p = []
    · rw [h, ev_nil] at ih
      rw [if_pos h, ev_cons, ← ih]
      by_cases k : a = 0
      · rw [if_pos k, ev_nil, k]; grind
      · rw [if_neg k, ev_one]; grind
    · rw [if_neg h, ev_cons, ev_cons, ih]
theorem tr_trim : ∀ (p : List Rat), Tr (Kqg1.trim p)
  | [] => .inl rfl
  | a :: p => by
    rw [trim_cons]
    by_cases h : Kqg1.trim p = []
    · rw [if_pos h]
      by_cases k : a = 0
      · rw [if_pos k]; exact .nil
      · rw [if_neg k]; exact .one k
    · rw [if_neg h]; exact (tr_trim p).cons h
theorem trim_id : ∀ {p : List Rat}, Tr p → Kqg1.trim p = p
  | [], _ => rfl
  | a :: p, h => by
    have ih := trim_id h.tl
    rw [trim_cons, ih]
    by_cases k : p = []
    · subst k
      rw [if_pos rfl, if_neg (show ¬ a = 0 from h.ld (by simp))]
    · rw [if_neg k]
theorem trim_len : ∀ (p : List Rat), (Kqg1.trim p).length ≤ p.length
  | [] => Nat.le_refl _
  | a :: p => by
    have ih := trim_len p
    rw [trim_cons]
    split
    · split <;> simp
    · simpa using ih
theorem trim_len_lt : ∀ {p : List Rat}, p ≠ [] → ld p = 0 → (Kqg1.trim p).length < p.length
  | [], h, _ => absurd rfl h
  | a :: p, _, h => by
    rw [trim_cons]
    by_cases k : p = []
    · subst k
      have : a = 0 := h
      simp [trim_nil, this]
    · rw [ld_cons a k] at h
      have ih := trim_len_lt k h
      split
      · split
        · simp
        · have := List.length_pos_iff.mpr k
          simp; omega
      · simpa using ih
theorem trim_eq_nil : ∀ {p : List Rat}, Kqg1.trim p = [] → ∀ c ∈ p, c = 0
  | [], _, c, h => by simp at h
  | a :: p, h, c, hc => by
    rw [trim_cons] at h
    by_cases k : Kqg1.trim p = []
    · rw [if_pos k] at h
      have ha : a = 0 := by
        by_cases z : a = 0
        · exact z
        · rw [if_neg z] at h; simp at h
      rcases List.mem_cons.mp hc with e | e
      · rw [e, ha]
      · exact trim_eq_nil k c e
    · rw [if_neg k] at h; simp at h
theorem sg_ab {x y : Rat} (h : ab y < ab x) : sg (y + x) = sg x := by
  unfold ab at h
  rcases sg_cases x with ⟨a, e⟩ | ⟨a, e⟩ | ⟨a, e⟩ <;> rw [e]
  · exact sg_pos (by grind)
  · exact sg_neg (by grind)
  · grind
theorem dom : ∀ {p : List Rat}, p ≠ [] → ld p ≠ 0 → ∀ {M : Rat}, 0 ≤ M → (∀ c ∈ p, ab c ≤ M * ab (ld p)) → ∀ t, 1 + M ≤ ab t →
    ab (ld p) ≤ ab (ev p t) ∧ sg (ev p t) = sg (ld p) * (sg t) ^ (p.length - 1)
  | [], h, _, _, _, _, _, _ => absurd rfl h
  | [a], _, _, _, _, _, t, _ => by
    rw [ev_one]
    exact ⟨Rat.le_refl, by simp [ld_one]⟩
  | a :: b :: p, _, h, M, hM, hc, t, ht => by
    rw [ld_cons2] at h hc ⊢
    obtain ⟨i1, i2⟩ := dom (p := b :: p) (by simp) h hM (fun c z => hc c (List.mem_cons_of_mem _ z)) t ht
    have ha := hc a (by simp)
    have hl := ab_pos h
    have z1 := mul_le (show 0 ≤ 1 + M by grind) ht (show 0 ≤ ab (ld (b :: p)) by grind) i1
    rw [← ab_mul] at z1
    have z2 : ab a < ab (t * ev (b :: p) t) := by grind
    have z3 := ab_add (a + t * ev (b :: p) t) (-a)
    rw [show a + t * ev (b :: p) t + -a = t * ev (b :: p) t by grind, ab_neg] at z3
    rw [ev_cons]
    refine ⟨by grind, ?_⟩
    rw [sg_ab z2, sg_mul, i2]
    have e : (a :: b :: p).length - 1 = ((b :: p).length - 1) + 1 := by simp
    rw [e, Int.pow_succ, Int.mul_comm, Int.mul_assoc]
theorem sum_bound : ∀ (p : List Rat), ∃ S : Rat, 0 ≤ S ∧ ∀ c ∈ p, ab c ≤ S
  | [] => ⟨0, by grind, fun c h => by simp at h⟩
  | a :: p => by
    obtain ⟨S, h0, h⟩ := sum_bound p
    have := ab_nn a
    refine ⟨ab a + S, by grind, fun c hc => ?_⟩
    rcases List.mem_cons.mp hc with e | e
    · rw [e]; grind
    · have := h c e; grind
theorem far {p : List Rat} (hp : p ≠ []) (h : ld p ≠ 0) : ∃ T : Rat, 1 ≤ T ∧ ∀ t, T ≤ ab t → sg (ev p t) = sg (ld p) * (sg t) ^ (p.length - 1) ∧ ev p t ≠ 0 := by
  obtain ⟨S, h0, hS⟩ := sum_bound p
  have hl := ab_pos h
  have hM : 0 ≤ S / ab (ld p) := by
    by_cases c : S = 0
    · rw [c]; grind
    · have := div_ps (show 0 < S by grind) hl; grind
  have e : S / ab (ld p) * ab (ld p) = S := div_mul_self (by grind)
  refine ⟨1 + S / ab (ld p), by grind, fun t ht => ?_⟩
  obtain ⟨d1, d2⟩ := dom hp h hM (fun c hc => by rw [e]; exact hS c hc) t ht
  refine ⟨d2, fun z => ?_⟩
  rw [z, ab_zero] at d1; grind
theorem zero_of_ev {p : List Rat} (h : Tr p) (k : ∀ x, ev p x = 0) : p = [] := by
  refine Classical.byContradiction fun z => ?_
  obtain ⟨T, hT, q⟩ := far z (h.ld z)
  exact (q T (le_ab T)).2 (k T)
theorem diff_zero : ∀ {p q : List Rat}, Tr p → Tr q → (∀ c ∈ padd p (psc (-1) q), c = 0) → p = q
  | [], [], _, _, _ => rfl
  | [], b :: q, _, hq, h => by
    exfalso
    have e : padd [] (psc (-1) (b :: q)) = psc (-1) (b :: q) := by rw [padd]
    rw [e] at h
    have h2 : ∀ c ∈ b :: q, c = 0 := fun c hc => by
      have := h (-1 * c) (List.mem_map.mpr ⟨c, hc, rfl⟩)
      grind
    refine hq.ld (by simp) ?_
    exact h2 _ (ld_mem (by simp))
  | a :: p, [], hp, _, h => by
    exfalso
    have e : padd (a :: p) (psc (-1) []) = a :: p := by simp [psc, padd]
    rw [e] at h
    exact hp.ld (by simp) (h _ (ld_mem (by simp)))
  | a :: p, b :: q, hp, hq, h => by
    have e : padd (a :: p) (psc (-1) (b :: q)) = (a + -1 * b) :: padd p (psc (-1) q) := by simp [psc, padd]
    rw [e] at h
    have h1 := h _ List.mem_cons_self
    have h2 := diff_zero hp.tl hq.tl fun c hc => h c (List.mem_cons_of_mem _ hc)
    rw [h2, show a = b by grind]
theorem same_of_ev {p q : List Rat} (hp : Tr p) (hq : Tr q) (h : ∀ x, ev p x = ev q x) : p = q := by
  refine diff_zero hp hq (trim_eq_nil ?_)
  refine zero_of_ev (tr_trim _) fun x => ?_
  rw [ev_trim, ev_padd, ev_psc, h]; grind
theorem ld_padd : ∀ {p r : List Rat}, p.length < r.length → ld (padd p r) = ld r ∧ (padd p r).length = r.length
  | [], r, _ => by rw [padd]; exact ⟨rfl, rfl⟩
  | a :: p, [], h => by simp at h
  | a :: p, b :: r, h => by
    have hr : p.length < r.length := by simpa using h
    obtain ⟨i1, i2⟩ := ld_padd hr
    rw [padd]
    have n1 : r ≠ [] := by intro z; rw [z] at hr; simp at hr
    have n2 : padd p r ≠ [] := by intro z; rw [z] at i2; simp at i2; omega
    rw [ld_cons _ n1, ld_cons _ n2]
    exact ⟨i1, by simp [i2]⟩
theorem ld_psc {c : Rat} : ∀ {p : List Rat}, ld (psc c p) = c * ld p
  | [] => by simp [psc, ld_nil]
  | [a] => by simp [psc, ld_one]
  | a :: b :: p => by
    have ih := ld_psc (c := c) (p := b :: p)
    rw [ld_cons2, ← ih]
    show ld (c * a :: c * b :: psc c p) = ld (c * b :: psc c p)
    rw [ld_cons2]
theorem len_psc {c : Rat} {p : List Rat} : (psc c p).length = p.length := by simp [psc]
theorem pmul_len : ∀ {p q : List Rat}, p ≠ [] → q ≠ [] → ld p ≠ 0 → ld q ≠ 0 → ∃ m : List Rat, m.length + 1 = p.length + q.length ∧ ld m = ld p * ld q ∧ ∀ x, ev m x = ev p x * ev q x
  | [], _, h, _, _, _ => absurd rfl h
  | [a], q, _, _, _, _ => ⟨psc a q, by rw [len_psc]; simp; omega, by rw [ld_psc, ld_one], fun x => by rw [ev_psc, ev_one]⟩
  | a :: b :: p, q, _, hq, h1, h2 => by
    rw [ld_cons2] at h1 ⊢
    obtain ⟨m, e1, e2, e3⟩ := pmul_len (p := b :: p) (by simp) hq h1 h2
    have nm : m ≠ [] := by
      intro z; rw [z, ld_nil] at e2
      rcases mul_zero_cases e2.symm with k | k <;> contradiction
    have hl : (psc a q).length < (0 :: m).length := by
      rw [len_psc]; simp; simp at e1; omega
    obtain ⟨k1, k2⟩ := ld_padd hl
    refine ⟨padd (psc a q) (0 :: m), ?_, ?_, fun x => ?_⟩
    · rw [k2]; simp; simp at e1; omega
    · rw [k1, ld_cons _ nm, e2]
    · rw [ev_padd, ev_psc, ev_cons, e3, ev_cons a]; grind
theorem Tr.mul_len {p q m : List Rat} (hp : Tr p) (hq : Tr q) (hm : Tr m) (np : p ≠ []) (nq : q ≠ []) (e : ∀ x, ev m x = ev p x * ev q x) : m.length + 1 = p.length + q.length ∧ Kv.ld m = Kv.ld p * Kv.ld q := by
  obtain ⟨m', k1, k2, k3⟩ := pmul_len np nq (hp.ld np) (hq.ld nq)
  have : m = m' := same_of_ev hm (.inr (by rw [k2]; intro z; rcases mul_zero_cases z with z | z; exact hp.ld np z; exact hq.ld nq z)) fun x => by rw [e, k3]
  rw [this]; exact ⟨k1, k2⟩
end Kv
namespace Kv
open Kqg1 (coefficient)
abbrev tab (f : Nat → Rat) (n : Nat) : List Rat := (List.range n).map f
theorem tab_succ (f : Nat → Rat) (n : Nat) : tab f (n + 1) = f 0 :: tab (fun i => f (i + 1)) n := by
  simp [tab, List.range_succ_eq_map, List.map_map, Function.comp_def]
theorem ev_tab_add (f g : Nat → Rat) : ∀ (n : Nat) (t : Rat), ev (tab (fun i => f i + g i) n) t = ev (tab f n) t + ev (tab g n) t := by
  intro n
  induction n generalizing f g with
  | zero => intro t; simp [tab, ev_nil]; grind
  | succ n ih => intro t; rw [tab_succ, tab_succ, tab_succ, ev_cons, ev_cons, ev_cons, ih (fun i => f (i + 1)) (fun i => g (i + 1)) t]; grind
theorem ev_tab_zero {f : Nat → Rat} (n : Nat) (h : ∀ i, f i = 0) (t : Rat) : ev (tab f n) t = 0 := by
  induction n generalizing f with
  | zero => rfl
  | succ n ih => rw [tab_succ, ev_cons, ih (fun i => h (i + 1)), h]; grind
theorem ev_tab_mul (c : Rat) (f : Nat → Rat) : ∀ (n : Nat) (t : Rat), ev (tab (fun i => c * f i) n) t = c * ev (tab f n) t := by
  intro n
  induction n generalizing f with
  | zero => intro t; simp [tab, ev_nil]
  | succ n ih => intro t; rw [tab_succ, tab_succ, ev_cons, ev_cons, ih (fun i => f (i + 1)) t]; grind
theorem coef_nil (i : Nat) : coefficient [] i = 0 := by simp [coefficient]
theorem coef_zero (a : Rat) (p : List Rat) : coefficient (a :: p) 0 = a := by simp [coefficient]
theorem coef_succ (a : Rat) (p : List Rat) (i : Nat) : coefficient (a :: p) (i + 1) = coefficient p i := by simp [coefficient]
theorem ev_tab_coef : ∀ (p : List Rat) (n : Nat), p.length ≤ n → ∀ t, ev (tab (coefficient p) n) t = ev p t
  | [], n, _, t => by rw [ev_tab_zero n coef_nil, ev_nil]
  | a :: p, 0, h, t => by simp at h
  | a :: p, n + 1, h, t => by
    rw [tab_succ, ev_cons, ev_cons, coef_zero]
    have : (fun i => coefficient (a :: p) (i + 1)) = coefficient p := by funext i; rw [coef_succ]
    rw [this, ev_tab_coef p n (by simpa using h)]
theorem ev_add (p q : List Rat) (t : Rat) : ev (Kqg1.add p q) t = ev p t + ev q t := by
  unfold Kqg1.add
  rw [ev_trim, ev_tab_add, ev_tab_coef p _ (Nat.le_max_left _ _), ev_tab_coef q _ (Nat.le_max_right _ _)]
theorem ev_scale (c : Rat) (p : List Rat) (t : Rat) : ev (Kqg1.scale c p) t = c * ev p t := by
  unfold Kqg1.scale
  rw [ev_trim]; exact ev_psc c p t
def conv (p q : List Rat) (i : Nat) : Rat := ((List.range (i + 1)).map fun j => coefficient p j * coefficient q (i - j)).foldl (fun x y => x + y) 0
theorem foldl_add (l : List Rat) (a : Rat) : l.foldl (fun x y => x + y) a = a + l.foldl (fun x y => x + y) 0 := by
  induction l generalizing a with
  | nil => simp; grind
  | cons b l ih => rw [List.foldl_cons, List.foldl_cons, ih (a + b), ih (0 + b)]; grind
theorem conv_nil (q : List Rat) (i : Nat) : conv [] q i = 0 := by
  have : ∀ n : Nat, ((List.range n).map fun j => coefficient [] j * coefficient q (i - j)).foldl (fun x y => x + y) 0 = 0 := by
    intro n
    induction n with
    | zero => rfl
    | succ n ih => rw [List.range_succ, List.map_append, List.foldl_append, ih]; simp [coef_nil]; grind
  exact this _
theorem conv_zero (a : Rat) (p q : List Rat) : conv (a :: p) q 0 = a * coefficient q 0 := by
  simp [conv, coef_zero]; grind
theorem conv_succ (a : Rat) (p q : List Rat) (i : Nat) : conv (a :: p) q (i + 1) = a * coefficient q (i + 1) + conv p q i := by
  unfold conv
  rw [List.range_succ_eq_map (n := i + 1), List.map_cons, List.foldl_cons, foldl_add, List.map_map]
  have : ((fun j => coefficient (a :: p) j * coefficient q (i + 1 - j)) ∘ Nat.succ) = fun j => coefficient p j * coefficient q (i - j) := by
    funext j
    show coefficient (a :: p) (j + 1) * coefficient q (i + 1 - (j + 1)) = _
    rw [coef_succ, Nat.add_sub_add_right]
  rw [this, coef_zero, Nat.sub_zero]; grind
theorem ev_conv : ∀ (p q : List Rat) (n : Nat), p.length + q.length ≤ n + 1 → ∀ t, ev (tab (conv p q) n) t = ev p t * ev q t
  | [], q, n, _, t => by rw [ev_tab_zero n (conv_nil q), ev_nil]; grind
  | a :: p, q, 0, h, t => by
    have hq : q = [] := by
      refine List.length_eq_zero_iff.mp ?_
      simp at h; omega
    rw [hq, ev_nil]; simp [tab, ev_nil]
  | a :: p, q, n + 1, h, t => by
    rw [tab_succ, conv_zero]
    have : (fun i => conv (a :: p) q (i + 1)) = fun i => (fun i => a * coefficient q (i + 1)) i + conv p q i := by funext i; rw [conv_succ]
    rw [this, ev_cons, ev_tab_add, ev_conv p q n (by simp at h; omega), ev_tab_mul a (fun i => coefficient q (i + 1))]
    have e := ev_tab_coef q (n + 1) (by simp at h; omega) t
    rw [tab_succ, ev_cons] at e
    rw [ev_cons, ← e]; grind
theorem ev_multiply (p q : List Rat) (t : Rat) : ev (Kqg1.multiply p q) t = ev p t * ev q t := by
  unfold Kqg1.multiply
  rw [ev_trim]
  exact ev_conv p q _ (by omega) t
theorem ev_tab_dv : ∀ (p : List Rat) (n : Nat), p.length ≤ n → ∀ t, ev (tab (fun i => ((i + 1 : Nat) : Rat) * coefficient p i) n) t = ev p t + t * ev (pdv p) t
  | [], n, _, t => by
    rw [ev_tab_zero n (fun i => by rw [coef_nil]; grind)]
    simp [ev_nil, pdv]; grind
  | a :: p, 0, h, t => by simp at h
  | a :: p, n + 1, h, t => by
    rw [tab_succ, ev_cons]
    have : (fun i => ((i + 1 + 1 : Nat) : Rat) * coefficient (a :: p) (i + 1)) = fun i => (fun i => ((i + 1 : Nat) : Rat) * coefficient p i) i + coefficient p i := by
      funext i
      rw [coef_succ]
      have : ((i + 1 + 1 : Nat) : Rat) = ((i + 1 : Nat) : Rat) + 1 := by grind
      rw [this]; grind
    rw [this, ev_tab_add, ev_tab_dv p n (by simpa using h), ev_tab_coef p n (by simpa using h), coef_zero, ev_cons, ev_pdv_cons]
    grind
theorem ev_derivative (p : List Rat) (t : Rat) : ev (Kqg1.derivative p) t = ev (pdv p) t := by
  unfold Kqg1.derivative
  rw [ev_trim]
  match p with
  | [] => rfl
  | a :: p =>
    have : (fun i => ((i + 1 : Nat) : Rat) * coefficient (a :: p) (i + 1)) = fun i => ((i + 1 : Nat) : Rat) * coefficient p i := by funext i; rw [coef_succ]
    rw [this]
    refine (ev_tab_dv p _ (by simp) t).trans ?_
    rw [ev_pdv_cons]
theorem tr_add (p q : List Rat) : Tr (Kqg1.add p q) := tr_trim _
theorem tr_scale (c : Rat) (p : List Rat) : Tr (Kqg1.scale c p) := tr_trim _
theorem tr_multiply (p q : List Rat) : Tr (Kqg1.multiply p q) := tr_trim _
theorem tr_derivative (p : List Rat) : Tr (Kqg1.derivative p) := tr_trim _
theorem scale_psc {c : Rat} {p : List Rat} (hp : Tr p) (hc : c ≠ 0) : Kqg1.scale c p = psc c p := by
  unfold Kqg1.scale
  refine trim_id ?_
  by_cases h : p = []
  · left; simp [h]
  · right
    have := hp.ld h
    show ld (psc c p) ≠ 0
    rw [ld_psc]
    intro z; rcases mul_zero_cases z with z | z <;> contradiction
def zs (k : Nat) (p : List Rat) : List Rat := List.replicate k 0 ++ p
theorem zs_succ (k : Nat) (p : List Rat) : zs (k + 1) p = 0 :: zs k p := by simp [zs, List.replicate_succ]
theorem zs_ld {p : List Rat} (h : p ≠ []) : ∀ k, ld (zs k p) = ld p
  | 0 => rfl
  | k + 1 => by
    rw [zs_succ, ld_cons _ (by simp [zs, h]), zs_ld h k]
theorem ev_zs_mul (p q m : List Rat) (h : ∀ x, ev m x = ev p x * ev q x) : ∀ (k : Nat) (x : Rat), ev (zs k m) x = ev (zs k p) x * ev q x
  | 0, x => h x
  | k + 1, x => by rw [zs_succ, zs_succ, ev_cons, ev_cons, ev_zs_mul p q m h k]; grind
theorem ld_tab : ∀ (n : Nat) (f : Nat → Rat), ld (tab f (n + 1)) = f n
  | 0, f => by simp [tab, ld_one]
  | n + 1, f => by
    rw [tab_succ, ld_cons _ (by simp [tab, List.range_succ]), ld_tab n]
theorem ld_coef : ∀ {p : List Rat}, p ≠ [] → coefficient p (p.length - 1) = ld p
  | [], h => absurd rfl h
  | [a], _ => coef_zero a []
  | a :: b :: p, _ => by
    have ih := ld_coef (p := b :: p) (by simp)
    rw [ld_cons2, ← ih]
    have : (a :: b :: p).length - 1 = ((b :: p).length - 1) + 1 := by simp
    rw [this, coef_succ]
theorem step_len {p q : List Rat} (hp : Tr p) (hq : Tr q) (np : p ≠ []) (nq : q ≠ []) (h : q.length ≤ p.length) :
    (Kqg1.add p (Kqg1.scale (-1) (Kqg1.multiply (List.replicate (p.length - q.length) 0 ++ [ld p / ld q]) q))).length < p.length := by
  have lp := hp.ld np
  have lq := hq.ld nq
  have hc : ld p / ld q ≠ 0 := by
    intro z
    have : ld p = ld p / ld q * ld q := (div_mul_self lq).symm
    rw [z] at this; grind
  have em : Kqg1.multiply (List.replicate (p.length - q.length) 0 ++ [ld p / ld q]) q = zs (p.length - q.length) (psc (ld p / ld q) q) := by
    refine same_of_ev (tr_multiply _ _) (.inr ?_) fun x => ?_
    · rw [zs_ld (by simpa [psc] using nq), ld_psc, div_mul_self lq]; exact lp
    · rw [ev_multiply, ev_zs_mul [ld p / ld q] q _ (fun x => by rw [ev_psc, ev_one]) _ x]; rfl
  have np2 : zs (p.length - q.length) (psc (ld p / ld q) q) ≠ [] := by simp [zs, psc, nq]
  have tm : Tr (zs (p.length - q.length) (psc (ld p / ld q) q)) := .inr (by rw [zs_ld (by simpa [psc] using nq), ld_psc, div_mul_self lq]; exact lp)
  have ls : (psc (-1) (zs (p.length - q.length) (psc (ld p / ld q) q))).length = p.length := by
    simp [psc, zs]; omega
  rw [em, scale_psc tm (by grind)]
  unfold Kqg1.add
  rw [ls, Nat.max_self]
  obtain ⟨n, hn⟩ : ∃ n, p.length = n + 1 := ⟨p.length - 1, by have := List.length_pos_iff.mpr np; omega⟩
  have e : ld (tab (fun i => coefficient p i + coefficient (psc (-1) (zs (p.length - q.length) (psc (ld p / ld q) q))) i) p.length) = 0 := by
    rw [hn, ld_tab, ← hn]
    have e1 : coefficient p n = ld p := by
      have := ld_coef np
      rwa [show p.length - 1 = n by omega] at this
    have e2 : coefficient (psc (-1) (zs (p.length - q.length) (psc (ld p / ld q) q))) n = -ld p := by
      have k := ld_coef (p := psc (-1) (zs (p.length - q.length) (psc (ld p / ld q) q))) (by simpa [psc] using np2)
      rw [ls, show p.length - 1 = n by omega, ld_psc, zs_ld (by simpa [psc] using nq), ld_psc, div_mul_self lq] at k
      rw [k]; grind
    rw [e1, e2]; grind
  have := trim_len_lt (p := tab (fun i => coefficient p i + coefficient (psc (-1) (zs (p.length - q.length) (psc (ld p / ld q) q))) i) p.length) (by rw [hn]; simp [tab, List.range_succ]) e
  simpa [tab] using this
theorem divide_spec : ∀ (fuel : Nat) {q p a : List Rat}, Tr q → q ≠ [] → Tr p → p.length < fuel →
    (Tr (Kqg1.divide fuel q p a).2 ∧ (Kqg1.divide fuel q p a).2.length < q.length) ∧ (Tr a → Tr (Kqg1.divide fuel q p a).1) ∧
    ∀ x, ev (Kqg1.divide fuel q p a).1 x * ev q x + ev (Kqg1.divide fuel q p a).2 x = ev a x * ev q x + ev p x
  | 0, q, p, a, _, _, _, h => by omega
  | fuel + 1, q, p, a, hq, nq, hp, h => by
    rw [Kqg1.divide]
    by_cases c : p.length < q.length ∨ p = []
    · rw [if_pos c]
      refine ⟨⟨hp, ?_⟩, fun ha => ha, fun x => rfl⟩
      rcases c with c | c
      · exact c
      · rw [c]; exact List.length_pos_iff.mpr nq
    · rw [if_neg c]
      have c1 : q.length ≤ p.length := by omega
      have c2 : p ≠ [] := fun z => c (.inr z)
      have sl := step_len hp hq c2 nq c1
      obtain ⟨i1, i2, i3⟩ := divide_spec fuel (q := q) (p := Kqg1.add p (Kqg1.scale (-1) (Kqg1.multiply (List.replicate (p.length - q.length) 0 ++ [ld p / ld q]) q)))
        (a := Kqg1.add a (List.replicate (p.length - q.length) 0 ++ [ld p / ld q])) hq nq (tr_add _ _) (by omega)
      refine ⟨i1, fun _ => i2 (tr_add _ _), fun x => ?_⟩
      have := i3 x
      dsimp only
      rw [this, ev_add, ev_add, ev_scale, ev_multiply]; grind
theorem remainder_spec {p q : List Rat} (hp : Tr p) (hq : Tr q) (nq : q ≠ []) : Tr (Kqg1.remainder p q) ∧ (Kqg1.remainder p q).length < q.length ∧ Tr (Kqg1.quotient p q) ∧
    ∀ x, ev p x = ev (Kqg1.quotient p q) x * ev q x + ev (Kqg1.remainder p q) x := by
  obtain ⟨⟨a, b⟩, c, d⟩ := divide_spec (p.length + 1) (a := []) hq nq hp (by omega)
  refine ⟨a, b, c .nil, fun x => ?_⟩
  have := d x
  rw [ev_nil] at this
  show ev p x = ev (Kqg1.divide (p.length + 1) q p []).1 x * ev q x + ev (Kqg1.divide (p.length + 1) q p []).2 x
  rw [this]; grind
def Dv (d p : List Rat) : Prop := ∃ w, ∀ x, ev p x = ev d x * ev w x
theorem Dv.rfl' (p : List Rat) : Dv p p := ⟨[1], fun x => by rw [ev_one]; grind⟩
theorem Dv.trans {a b c : List Rat} (h : Dv a b) (k : Dv b c) : Dv a c := by
  obtain ⟨u, hu⟩ := h
  obtain ⟨v, hv⟩ := k
  exact ⟨pmul u v, fun x => by rw [hv, hu, ev_pmul]; grind⟩
theorem Dv.comb {d p q r u v : List Rat} (h : Dv d p) (k : Dv d q) (e : ∀ x, ev r x = ev u x * ev p x + ev v x * ev q x) : Dv d r := by
  obtain ⟨a, ha⟩ := h
  obtain ⟨b, hb⟩ := k
  exact ⟨padd (pmul u a) (pmul v b), fun x => by rw [e, ha, hb, ev_padd, ev_pmul, ev_pmul]; grind⟩
theorem Dv.congr {d p q : List Rat} (h : Dv d p) (e : ∀ x, ev q x = ev p x) : Dv d q := let ⟨w, hw⟩ := h; ⟨w, fun x => by rw [e, hw]⟩
theorem Dv.zero {d q : List Rat} (e : ∀ x, ev q x = 0) : Dv d q := ⟨[], fun x => by rw [e, ev_nil]; grind⟩
theorem Dv.tr {d p : List Rat} (h : Dv d p) : ∃ w, Tr w ∧ ∀ x, ev p x = ev d x * ev w x := let ⟨w, hw⟩ := h; ⟨Kqg1.trim w, tr_trim w, fun x => by rw [hw, ev_trim]⟩
theorem tr_zero {p : List Rat} (hp : Tr p) (h : ∀ x, ev p x = 0) : p = [] := zero_of_ev hp h
theorem Dv.len {d p : List Rat} (h : Dv d p) (hd : Tr d) (hp : Tr p) (np : p ≠ []) : d.length ≤ p.length ∧ d ≠ [] := by
  obtain ⟨w, hw, e⟩ := h.tr
  have nd : d ≠ [] := fun z => np (tr_zero hp fun x => by rw [e, z, ev_nil]; grind)
  have nw : w ≠ [] := fun z => np (tr_zero hp fun x => by rw [e, z, ev_nil]; grind)
  have := (Tr.mul_len hd hw hp nd nw e).1
  have := List.length_pos_iff.mpr nw
  exact ⟨by omega, nd⟩
structure Gcd (g p q : List Rat) : Prop where
  l : Dv g p
  r : Dv g q
  b : ∃ u v : List Rat, ∀ x, ev g x = ev u x * ev p x + ev v x * ev q x
theorem Gcd.dv {g p q d : List Rat} (h : Gcd g p q) (a : Dv d p) (b : Dv d q) : Dv d g := let ⟨_, _, e⟩ := h.b; a.comb b e
theorem euclid_spec : ∀ (fuel : Nat) {p q : List Rat}, Tr p → Tr q → q.length < fuel → Tr (Kqg1.euclid fuel p q) ∧ Gcd (Kqg1.euclid fuel p q) p q
  | 0, _, _, _, _, h => by omega
  | fuel + 1, p, q, hp, hq, h => by
    rw [Kqg1.euclid]
    by_cases c : q = []
    · rw [if_pos c]
      refine ⟨hp, Dv.rfl' p, Dv.zero fun x => by rw [c, ev_nil], [1], [], fun x => by rw [ev_one, ev_nil]; grind⟩
    · rw [if_neg c]
      obtain ⟨r1, r2, r3, r4⟩ := remainder_spec hp hq c
      obtain ⟨i1, i2⟩ := euclid_spec fuel hq r1 (by omega)
      refine ⟨i1, ?_, i2.l, ?_⟩
      · exact Dv.comb (u := Kqg1.quotient p q) (v := [1]) i2.l i2.r fun x => by rw [r4, ev_one]; grind
      · obtain ⟨u, v, e⟩ := i2.b
        refine ⟨v, padd u (psc (-1) (pmul v (Kqg1.quotient p q))), fun x => ?_⟩
        have := r4 x
        rw [e, ev_padd, ev_psc, ev_pmul]; grind
theorem monic_spec {p : List Rat} (hp : Tr p) (np : p ≠ []) : Tr (Kqg1.monic p) ∧ ∀ x, ev (Kqg1.monic p) x = 1 / ld p * ev p x := by
  unfold Kqg1.monic
  rw [if_neg np]
  exact ⟨tr_scale _ _, fun x => ev_scale _ _ x⟩
theorem gcd_spec {p q : List Rat} (hp : Tr p) (hq : Tr q) (np : p ≠ []) : Tr (Kqg1.gcd p q) ∧ Gcd (Kqg1.gcd p q) p q ∧ Kqg1.gcd p q ≠ [] := by
  obtain ⟨h1, h2⟩ := euclid_spec (p.length + q.length + 2) hp hq (by omega)
  have ne : Kqg1.euclid (p.length + q.length + 2) p q ≠ [] := (h2.l.len h1 hp np).2
  obtain ⟨m1, m2⟩ := monic_spec h1 ne
  have lne := h1.ld ne
  have hG : Gcd (Kqg1.gcd p q) p q := by
    refine ⟨?_, ?_, ?_⟩
    · obtain ⟨w, hw⟩ := h2.l
      refine ⟨psc (ld (Kqg1.euclid (p.length + q.length + 2) p q)) w, fun x => ?_⟩
      have := m2 x
      unfold Kqg1.gcd
      rw [hw, ev_psc, this]; grind
    · obtain ⟨w, hw⟩ := h2.r
      refine ⟨psc (ld (Kqg1.euclid (p.length + q.length + 2) p q)) w, fun x => ?_⟩
      have := m2 x
      unfold Kqg1.gcd
      rw [hw, ev_psc, this]; grind
    · obtain ⟨u, v, e⟩ := h2.b
      refine ⟨psc (1 / ld (Kqg1.euclid (p.length + q.length + 2) p q)) u, psc (1 / ld (Kqg1.euclid (p.length + q.length + 2) p q)) v, fun x => ?_⟩
      have := m2 x
      have := e x
      unfold Kqg1.gcd
      rw [ev_psc, ev_psc]; grind
  exact ⟨m1, hG, (hG.l.len m1 hp np).2⟩
end Kv
namespace Kv
theorem cancel {g h k : List Rat} (hg : Tr g) (ng : g ≠ []) (e : ∀ x, ev g x * ev h x = ev g x * ev k x) (x : Rat) : ev h x = ev k x := by
  have d : Kqg1.trim (padd h (psc (-1) k)) = [] := by
    refine Classical.byContradiction fun z => ?_
    have hm : Tr (Kqg1.trim (pmul g (Kqg1.trim (padd h (psc (-1) k))))) := tr_trim _
    have e2 : ∀ x, ev (Kqg1.trim (pmul g (Kqg1.trim (padd h (psc (-1) k))))) x = ev g x * ev (Kqg1.trim (padd h (psc (-1) k))) x := fun x => by rw [ev_trim, ev_pmul]
    have e3 := tr_zero hm fun x => by
      have := e x
      rw [e2, ev_trim, ev_padd, ev_psc]; grind
    have l := (Tr.mul_len hg (tr_trim _) hm ng z e2).1
    rw [e3] at l
    have := List.length_pos_iff.mpr ng
    have := List.length_pos_iff.mpr z
    simp at l; omega
  have := ev_trim (padd h (psc (-1) k)) x
  rw [d, ev_nil, ev_padd, ev_psc] at this; grind
theorem len_one {p : List Rat} (h : p.length = 1) : ∃ c, p = [c] := by
  match p, h with
  | [c], _ => exact ⟨c, rfl⟩
theorem unit_of {p w : List Rat} (hp : Tr p) (e : ∀ x, ev p x * ev w x = 1) : ∃ c, c ≠ 0 ∧ p = [c] := by
  have np : p ≠ [] := fun z => by have := e 0; rw [z, ev_nil] at this; grind
  have nw : Kqg1.trim w ≠ [] := fun z => by have := e 0; rw [← ev_trim w, z, ev_nil] at this; grind
  have l := (Tr.mul_len hp (tr_trim w) (m := [1]) (.one (by decide)) np nw fun x => by rw [ev_one, ev_trim, e]).1
  have := List.length_pos_iff.mpr np
  have := List.length_pos_iff.mpr nw
  obtain ⟨c, hc⟩ := len_one (p := p) (by simp at l; omega)
  exact ⟨c, fun z => by have := e 0; rw [hc, z, ev_one] at this; grind, hc⟩
theorem assoc {g h : List Rat} (hg : Tr g) (hh : Tr h) (ng : g ≠ []) (a : Dv g h) (b : Dv h g) : ∃ c, c ≠ 0 ∧ ∀ x, ev h x = c * ev g x := by
  obtain ⟨w, hw, e⟩ := a.tr
  obtain ⟨v, hv⟩ := b
  have k := cancel hg ng (h := pmul w v) (k := [1]) fun x => by
    have := hv x
    have := e x
    rw [ev_pmul, ev_one]; grind
  obtain ⟨c, hc, ew⟩ := unit_of (w := v) hw fun x => by have := k x; rwa [ev_pmul, ev_one] at this
  exact ⟨c, hc, fun x => by rw [e, ew, ev_one]; grind⟩
theorem Gcd.unique {g h p q : List Rat} (hg : Tr g) (hh : Tr h) (ng : g ≠ []) (a : Gcd g p q) (b : Gcd h p q) : ∃ c, c ≠ 0 ∧ ∀ x, ev h x = c * ev g x :=
  assoc hg hh ng (b.dv a.l a.r) (a.dv b.l b.r)
theorem rem_zero {p q : List Rat} (hp : Tr p) (hq : Tr q) (nq : q ≠ []) (h : Dv q p) : Kqg1.remainder p q = [] ∧ ∀ x, ev p x = ev (Kqg1.quotient p q) x * ev q x := by
  obtain ⟨r1, r2, r3, r4⟩ := remainder_spec hp hq nq
  have r0 : Kqg1.remainder p q = [] := by
    refine Classical.byContradiction fun z => ?_
    obtain ⟨w, hw⟩ := h
    have : Dv q (Kqg1.remainder p q) := ⟨padd w (psc (-1) (Kqg1.quotient p q)), fun x => by
      have := r4 x
      have := hw x
      rw [ev_padd, ev_psc]; grind⟩
    have := (this.len hq r1 z).1
    omega
  exact ⟨r0, fun x => by rw [r4, r0, ev_nil]; grind⟩
theorem cop_dv {d x y m : List Rat} (h : Cop d x) (e : ∀ t, ev m t = ev x t * ev y t) (k : Dv d m) : Dv d y := by
  obtain ⟨u, v, b⟩ := h
  obtain ⟨w, hw⟩ := k
  refine ⟨padd (pmul u y) (pmul v w), fun t => ?_⟩
  have := b t
  have := hw t
  have := e t
  rw [ev_padd, ev_pmul, ev_pmul]; grind
theorem Cop.mul {d x y m : List Rat} (h : Cop d x) (k : Cop d y) (e : ∀ t, ev m t = ev x t * ev y t) : Cop d m := by
  obtain ⟨u, v, b⟩ := h
  obtain ⟨u', v', b'⟩ := k
  refine ⟨padd (pmul u (padd (pmul u' d) (pmul v' y))) (pmul v (pmul x u')), pmul v v', fun t => ?_⟩
  have := b t
  have := b' t
  have := e t
  rw [ev_padd, ev_pmul, ev_pmul, ev_pmul, ev_pmul, ev_padd, ev_pmul, ev_pmul]; grind
def pw (d : List Rat) : Nat → List Rat
  | 0 => [1]
  | k + 1 => pmul d (pw d k)
theorem ev_pw (d : List Rat) (x : Rat) : ∀ k, ev (pw d k) x = (ev d x) ^ k
  | 0 => by rw [pw, ev_one, Rat.pow_zero]
  | k + 1 => by rw [pw, ev_pmul, ev_pw d x k, Rat.pow_succ, Rat.mul_comm]
theorem Cop.pw {d x : List Rat} (h : Cop d x) : ∀ k, Cop d (pw x k)
  | 0 => ⟨[], [1], fun t => by rw [ev_nil, Kv.pw, ev_one]; grind⟩
  | k + 1 => h.mul (h.pw k) fun t => by rw [Kv.pw, ev_pmul]
theorem dv_pw (d : List Rat) (x : Rat) : ∀ k : Nat, ev d x * ev (pdv (pw d k)) x = (k : Rat) * ev (pw d k) x * ev (pdv d) x
  | 0 => by
    rw [pw, ev_pdv_cons, ev_nil, pdv, ev_nil]; grind
  | k + 1 => by
    have ih := dv_pw d x k
    rw [pw, dv_pmul, ev_pmul]
    have : ((k + 1 : Nat) : Rat) = (k : Rat) + 1 := by grind
    rw [this]; grind
theorem pw_ne {d : List Rat} (hd : Tr d) (nd : d ≠ []) : ∀ k, ∃ m, Tr m ∧ m ≠ [] ∧ m.length = k * (d.length - 1) + 1 ∧ ∀ x, ev m x = ev (pw d k) x
  | 0 => ⟨[1], .one (by decide), by simp, by simp, fun x => rfl⟩
  | k + 1 => by
    obtain ⟨m, h1, h2, h3, h4⟩ := pw_ne hd nd k
    have tm := tr_trim (pmul d m)
    have e : ∀ x, ev (Kqg1.trim (pmul d m)) x = ev d x * ev m x := fun x => by rw [ev_trim, ev_pmul]
    have l : (Kqg1.trim (pmul d m)) ≠ [] := by
      intro z
      obtain ⟨w, k1, k2, k3⟩ := pmul_len nd h2 (hd.ld nd) (h1.ld h2)
      have tw : Tr w := .inr (by rw [k2]; intro y; rcases mul_zero_cases y with y | y; exact hd.ld nd y; exact h1.ld h2 y)
      have : w = Kqg1.trim (pmul d m) := same_of_ev tw tm fun x => by rw [k3, e]
      rw [z] at this
      rw [this] at k1
      have := List.length_pos_iff.mpr nd
      have := List.length_pos_iff.mpr h2
      simp at k1; omega
    have k := (Tr.mul_len hd h1 tm nd h2 e).1
    have := List.length_pos_iff.mpr nd
    refine ⟨_, tm, l, ?_, fun x => by rw [e, h4, pw, ev_pmul]⟩
    rw [Nat.add_mul, Nat.one_mul]; omega
theorem Sqf.const {c : Rat} (h : c ≠ 0) : Sqf [c] := ⟨[1 / c], [], fun x => by rw [ev_one, ev_one, ev_nil]; grind⟩
theorem Sqf.congr {s t : List Rat} {c : Rat} (hc : c ≠ 0) (h : Sqf s) (e : ∀ x, ev t x = c * ev s x) : Sqf t := by
  obtain ⟨u, v, b⟩ := h
  refine ⟨psc (1 / c) u, psc (1 / c) v, fun x => ?_⟩
  have := b x
  rw [ev_psc, ev_psc, e, dv_sc e]; grind
theorem sqf_quot {p g s : List Rat} (hp : Tr p) (np : p ≠ []) (hg : Tr g) (G : Gcd g p (pdv p)) (hs : Tr s) (e : ∀ x, ev p x = ev s x * ev g x) : Sqf s := by
  have ng : g ≠ [] := fun z => np (tr_zero hp fun x => by rw [e, z, ev_nil]; grind)
  have ns : s ≠ [] := fun z => np (tr_zero hp fun x => by rw [e, z, ev_nil]; grind)
  obtain ⟨w, hw⟩ := G.r
  have csw : Cop s w := by
    obtain ⟨u, v, b⟩ := G.b
    have k := cancel hg ng (h := padd (pmul u s) (pmul v w)) (k := [1]) fun x => by
      have := b x
      have := e x
      have := hw x
      rw [ev_padd, ev_pmul, ev_pmul, ev_one]; grind
    exact ⟨u, v, fun x => by have := k x; rwa [ev_padd, ev_pmul, ev_pmul, ev_one] at this⟩
  obtain ⟨td, D, nd⟩ := gcd_spec hs (tr_derivative s) ns
  obtain ⟨a, ha⟩ := D.l
  obtain ⟨b, hb'⟩ := D.r
  have hb : ∀ x, ev (pdv s) x = ev (Kqg1.gcd s (Kqg1.derivative s)) x * ev b x := fun x => by rw [← ev_derivative, hb']
  clear hb'
  generalize hdd : Kqg1.gcd s (Kqg1.derivative s) = d at *
  have cdw : Cop d w := csw.of_mul ha
  have main : ∀ k, Dv (pw d k) g := by
    intro k
    induction k with
    | zero => exact ⟨g, fun x => by rw [pw, ev_one]; grind⟩
    | succ k ih =>
      obtain ⟨h, hh⟩ := ih
      obtain ⟨m, m1, m2, _, m4⟩ := pw_ne td nd k
      have key := cancel m1 m2 (h := pmul w h) (k := pmul d (padd (pmul b h) (padd (psc (k : Rat) (pmul (padd b (psc (-1) (pdv a))) h)) (pmul a (pdv h))))) fun x => by
        have e1 := dv_mul e x
        have e2 := dv_mul hh x
        have e3 := dv_mul ha x
        have e4 := dv_pw d x k
        have e5 := hb x
        have e6 := hw x
        have e7 := hh x
        have e8 := ha x
        rw [m4, ev_pmul, ev_pmul, ev_padd, ev_pmul, ev_padd, ev_psc, ev_pmul, ev_padd, ev_psc, ev_pmul]
        generalize ev (pdv p) x = P' at *
        generalize ev (pdv s) x = S' at *
        generalize ev (pdv g) x = G' at *
        generalize ev (pdv h) x = H' at *
        generalize ev (pdv a) x = A' at *
        generalize ev (pdv d) x = D' at *
        generalize ev (pdv (pw d k)) x = K' at *
        generalize ev (pw d k) x = K0 at *
        generalize ev d x = d0 at *
        generalize ev s x = s0 at *
        generalize ev g x = g0 at *
        generalize ev h x = h0 at *
        generalize ev a x = a0 at *
        generalize ev b x = b0 at *
        generalize ev w x = w0 at *
        grind
      have : Dv d h := cop_dv cdw (m := pmul w h) (fun x => ev_pmul w h x) ⟨padd (pmul b h) (padd (psc (k : Rat) (pmul (padd b (psc (-1) (pdv a))) h)) (pmul a (pdv h))), fun x => by rw [key x, ev_pmul]⟩
      obtain ⟨h2, hh2⟩ := this
      exact ⟨h2, fun x => by rw [hh, hh2, pw, ev_pmul]; grind⟩
  have ld1 : d.length = 1 := by
    have := List.length_pos_iff.mpr nd
    refine Classical.byContradiction fun z => ?_
    obtain ⟨m, m1, m2, m3, m4⟩ := pw_ne td nd g.length
    have : Dv m g := by
      obtain ⟨v, hv⟩ := main g.length
      exact ⟨v, fun x => by rw [hv, m4]⟩
    have l := (this.len m1 hg ng).1
    rw [m3] at l
    have : g.length * 1 ≤ g.length * (d.length - 1) := Nat.mul_le_mul_left _ (by omega)
    omega
  obtain ⟨c, hc⟩ := len_one ld1
  have c0 : c ≠ 0 := by
    have := td.ld nd
    rwa [hc, ld_one] at this
  obtain ⟨u, v, q⟩ := D.b
  refine ⟨psc (1 / c) u, psc (1 / c) v, fun x => ?_⟩
  have := q x
  rw [hc, ev_one, ev_derivative] at this
  rw [ev_psc, ev_psc]; grind
theorem derivative_len {p : List Rat} (hp : Tr p) : (Kqg1.derivative p).length = p.length - 1 ∧ (1 < p.length → ld (Kqg1.derivative p) ≠ 0) := by
  by_cases h : p.length ≤ 1
  · have e : p.length - 1 = 0 := by omega
    unfold Kqg1.derivative
    rw [e]
    exact ⟨rfl, fun z => by omega⟩
  · obtain ⟨n, hn⟩ : ∃ n, p.length - 1 = n + 1 := ⟨p.length - 2, by omega⟩
    have np : p ≠ [] := fun z => by rw [z] at h; simp at h
    have l : ld (tab (fun i => ((i + 1 : Nat) : Rat) * Kqg1.coefficient p (i + 1)) (n + 1)) ≠ 0 := by
      rw [ld_tab]
      have := ld_coef np
      rw [hn] at this
      rw [this]
      intro z
      rcases mul_zero_cases z with z | z
      · have : (0 : Rat) < ((n + 1 : Nat) : Rat) := by
          have e : ((n + 1 : Nat) : Rat) = (n : Rat) + 1 := by grind
          have : (0 : Rat) ≤ (n : Rat) := by exact_mod_cast (Nat.zero_le n)
          grind
        grind
      · exact hp.ld np z
    have e : Kqg1.derivative p = tab (fun i => ((i + 1 : Nat) : Rat) * Kqg1.coefficient p (i + 1)) (n + 1) := by
      unfold Kqg1.derivative
      rw [hn]
      exact trim_id (.inr l)
    rw [e]
    exact ⟨by simp [tab, hn], fun _ => l⟩
def itd (g : List Rat) : Nat → List Rat
  | 0 => g
  | k + 1 => Kqg1.derivative (itd g k)
theorem itd_len {g : List Rat} (hg : Tr g) : ∀ k, Tr (itd g k) ∧ (itd g k).length = g.length - k
  | 0 => ⟨hg, by simp [itd]⟩
  | k + 1 => by
    obtain ⟨a, b⟩ := itd_len hg k
    have := (derivative_len a).1
    exact ⟨tr_derivative _, by rw [itd, this, b]; omega⟩
theorem rad {g s m : List Rat} (e : ∀ x, ev s x * ev (pdv g) x = ev m x * ev g x) : ∀ k, ∃ n, ∀ x, ev (pw s k) x * ev (itd g k) x = ev n x * ev g x
  | 0 => ⟨[1], fun x => by rw [pw, itd]⟩
  | k + 1 => by
    obtain ⟨n, hn⟩ := rad e k
    refine ⟨padd (pmul s (pdv n)) (padd (pmul n m) (psc (-(k : Rat)) (pmul (pdv s) n))), fun x => ?_⟩
    have d1 := dv_congr (p := pmul (pw s k) (itd g k)) (q := pmul n g) (fun x => by rw [ev_pmul, ev_pmul, hn]) x
    rw [dv_pmul, dv_pmul] at d1
    have d2 := dv_pw s x k
    have d3 := hn x
    have d4 := e x
    rw [pw, itd, ev_pmul, ev_derivative, ev_padd, ev_padd, ev_psc, ev_pmul, ev_pmul, ev_pmul]
    grind
theorem dv_rad {p g s : List Rat} (hp : Tr p) (np : p ≠ []) (hg : Tr g) (G : Gcd g p (pdv p)) (e : ∀ x, ev p x = ev s x * ev g x) : ∃ N, Dv p (pw s N) := by
  have ng : g ≠ [] := fun z => np (tr_zero hp fun x => by rw [e, z, ev_nil]; grind)
  obtain ⟨w, hw⟩ := G.r
  have e1 : ∀ x, ev s x * ev (pdv g) x = ev (padd w (psc (-1) (pdv s))) x * ev g x := fun x => by
    have := dv_mul e x
    have := hw x
    rw [ev_padd, ev_psc]; grind
  obtain ⟨n, hn⟩ := rad e1 (g.length - 1)
  obtain ⟨h1, h2⟩ := itd_len hg (g.length - 1)
  have := List.length_pos_iff.mpr ng
  obtain ⟨c, hc⟩ := len_one (p := itd g (g.length - 1)) (by omega)
  have c0 : c ≠ 0 := by
    have := h1.ld (by rw [hc]; simp)
    rwa [hc, ld_one] at this
  refine ⟨g.length - 1 + 1, psc (1 / c) n, fun x => ?_⟩
  have := hn x
  rw [hc, ev_one] at this
  rw [pw, ev_pmul, e, ev_psc]; grind
structure Sf (s p : List Rat) : Prop where
  tr : Tr s
  sq : Sqf s
  dv : Dv s p
  ra : ∃ N, Dv p (pw s N)
theorem Sf.of {p g s : List Rat} (hp : Tr p) (np : p ≠ []) (hg : Tr g) (G : Gcd g p (pdv p)) (hs : Tr s) (e : ∀ x, ev p x = ev s x * ev g x) : Sf s p :=
  ⟨hs, sqf_quot hp np hg G hs e, ⟨g, e⟩, dv_rad hp np hg G e⟩
theorem Gcd.congr {g p q r : List Rat} (h : Gcd g p q) (e : ∀ x, ev q x = ev r x) : Gcd g p r :=
  ⟨h.l, h.r.congr fun x => (e x).symm, let ⟨u, v, b⟩ := h.b; ⟨u, v, fun x => by rw [b, e]⟩⟩
theorem gcd_dv {p : List Rat} (hp : Tr p) (np : p ≠ []) : Tr (Kqg1.gcd p (Kqg1.derivative p)) ∧ Gcd (Kqg1.gcd p (Kqg1.derivative p)) p (pdv p) ∧ Kqg1.gcd p (Kqg1.derivative p) ≠ [] := by
  obtain ⟨a, b, c⟩ := gcd_spec hp (tr_derivative p) np
  exact ⟨a, b.congr (ev_derivative p), c⟩
theorem sf_spec {p : List Rat} (hp : Tr p) (np : p ≠ []) : Sf (Kqg1.squarefree p) p := by
  unfold Kqg1.squarefree
  by_cases h : p.length ≤ 1
  · rw [if_pos h]
    have := List.length_pos_iff.mpr np
    obtain ⟨c, hc⟩ := len_one (p := p) (by omega)
    have c0 : c ≠ 0 := by
      have := hp.ld np
      rwa [hc, ld_one] at this
    refine ⟨hp, by rw [hc]; exact .const c0, Dv.rfl' p, 1, [1], fun x => ?_⟩
    rw [pw, pw, ev_pmul]
  · rw [if_neg h]
    obtain ⟨a, b, c⟩ := gcd_dv hp np
    obtain ⟨_, _, r3, _⟩ := remainder_spec hp a c
    exact Sf.of hp np a b r3 (rem_zero hp a c b.l).2
theorem pw_one (c : Rat) (hc : c ≠ 0) : ∀ N, ∃ e, e ≠ 0 ∧ ∀ x, ev (pw [c] N) x = e
  | 0 => ⟨1, by decide, fun x => by rw [pw, ev_one]⟩
  | N + 1 => by
    obtain ⟨e, he, h⟩ := pw_one c hc N
    exact ⟨c * e, fun z => by rcases mul_zero_cases z with z | z <;> contradiction, fun x => by rw [pw, ev_pmul, ev_one, h]⟩
theorem sqf_dv {u v : List Rat} (hu : Tr u) (nu : u ≠ []) (hv : Tr v) (sq : Sqf u) {N : Nat} (h : Dv u (pw v N)) : Dv u v := by
  obtain ⟨td, D, nd⟩ := gcd_spec hu hv nu
  obtain ⟨e, te, he⟩ := D.l.tr
  have ne : e ≠ [] := fun z => nu (tr_zero hu fun x => by rw [he, z, ev_nil]; grind)
  have cde := sq.factors he
  have ev' : Cop e v := by
    obtain ⟨th, H, nh⟩ := gcd_spec te hv ne
    have h1 : Dv (Kqg1.gcd e v) (Kqg1.gcd u v) := D.dv (H.l.trans ⟨Kqg1.gcd u v, fun x => by rw [he]; grind⟩) H.r
    obtain ⟨a, b, q⟩ := cde
    have h2 : Dv (Kqg1.gcd e v) [1] := Dv.comb (u := a) (v := b) h1 H.l fun x => by rw [ev_one, q]
    obtain ⟨w, hw⟩ := h2
    obtain ⟨c, hc, ec⟩ := unit_of (w := w) th fun x => by rw [← hw, ev_one]
    obtain ⟨u', v', k⟩ := H.b
    refine ⟨psc (1 / c) u', psc (1 / c) v', fun x => ?_⟩
    have := k x
    rw [ec, ev_one] at this
    rw [ev_psc, ev_psc]; grind
  have h3 : Dv e [1] := by
    refine cop_dv (ev'.pw N) (m := pw v N) (fun t => by rw [ev_one]; grind) ?_
    exact Dv.trans ⟨Kqg1.gcd u v, fun x => by rw [he]; grind⟩ h
  obtain ⟨w, hw⟩ := h3
  obtain ⟨c, hc, ec⟩ := unit_of (w := w) te fun x => by rw [← hw, ev_one]
  obtain ⟨y, hy⟩ := D.r
  refine ⟨psc (1 / c) y, fun x => ?_⟩
  have := he x
  rw [ec, ev_one] at this
  rw [hy, ev_psc]; grind
theorem Dv.pw {a b : List Rat} (h : Dv a b) (N : Nat) : Dv (pw a N) (pw b N) := by
  obtain ⟨w, hw⟩ := h
  refine ⟨Kv.pw w N, fun x => ?_⟩
  rw [ev_pw, ev_pw, ev_pw, hw]
  induction N with
  | zero => rw [Rat.pow_zero, Rat.pow_zero, Rat.pow_zero]; grind
  | succ N ih => rw [Rat.pow_succ, Rat.pow_succ, Rat.pow_succ, ih]; grind
theorem pow_add' (a : Rat) (m n : Nat) : a ^ (m + n) = a ^ m * a ^ n := by
  induction n with
  | zero => rw [Nat.add_zero, Rat.pow_zero]; grind
  | succ n ih => rw [← Nat.add_assoc, Rat.pow_succ, ih, Rat.pow_succ]; grind
theorem pow_mul' (a b : Rat) (n : Nat) : (a * b) ^ n = a ^ n * b ^ n := by
  induction n with
  | zero => rw [Rat.pow_zero, Rat.pow_zero, Rat.pow_zero]; grind
  | succ n ih => rw [Rat.pow_succ, ih, Rat.pow_succ, Rat.pow_succ]; grind
theorem pow_pow' (a : Rat) (m n : Nat) : (a ^ m) ^ n = a ^ (m * n) := by
  induction n with
  | zero => rw [Nat.mul_zero, Rat.pow_zero, Rat.pow_zero]
  | succ n ih => rw [Rat.pow_succ, ih, Nat.mul_succ, pow_add']
theorem Dv.mul {a b c d : List Rat} (h : Dv a b) (k : Dv c d) : Dv (pmul a c) (pmul b d) := by
  obtain ⟨w, hw⟩ := h
  obtain ⟨v, hv⟩ := k
  exact ⟨pmul w v, fun x => by rw [ev_pmul, ev_pmul, ev_pmul, hw, hv]; grind⟩
theorem Dv.lcongr {a b c : List Rat} (h : Dv a b) (e : ∀ x, ev c x = ev a x) : Dv c b := let ⟨w, hw⟩ := h; ⟨w, fun x => by rw [hw, e]⟩
theorem Sf.dv_of {s p J m : List Rat} (h : Sf s p) (ns : s ≠ []) (k : Sf J m) (d : Dv p m) : Dv s J := by
  obtain ⟨N, hN⟩ := k.ra
  exact sqf_dv h.tr ns k.tr h.sq ((h.dv.trans d).trans hN)
theorem ne_of_dv {s p : List Rat} (hp : Tr p) (np : p ≠ []) (h : Dv s p) : s ≠ [] := fun z => np (tr_zero hp fun x => by
  obtain ⟨w, hw⟩ := h
  rw [hw, z, ev_nil]; grind)
theorem joint_split {s t p q J m : List Rat} (hp : Tr p) (np : p ≠ []) (hq : Tr q) (nq : q ≠ []) (hm : Tr m) (nm : m ≠ []) (em : ∀ x, ev m x = ev p x * ev q x)
    (S : Sf s p) (T : Sf t q) (K : Sf J m) : ∃ a b : List Rat, ∃ c : Rat, c ≠ 0 ∧ Cop a b ∧ Cop a (Kqg1.gcd s t) ∧ Cop b (Kqg1.gcd s t) ∧
      (∀ x, ev s x = ev a x * ev (Kqg1.gcd s t) x) ∧ (∀ x, ev t x = ev b x * ev (Kqg1.gcd s t) x) ∧ (∀ x, ev J x = c * (ev a x * ev b x * ev (Kqg1.gcd s t) x)) := by
  have ns := ne_of_dv hp np S.dv
  have nt := ne_of_dv hq nq T.dv
  have nJ := ne_of_dv hm nm K.dv
  obtain ⟨tg, G, ng⟩ := gcd_spec S.tr T.tr ns
  obtain ⟨a, ha'⟩ := G.l
  obtain ⟨b, hb'⟩ := G.r
  generalize Kqg1.gcd s t = g at *
  have ha : ∀ x, ev s x = ev a x * ev g x := fun x => by rw [ha']; grind
  have hb : ∀ x, ev t x = ev b x * ev g x := fun x => by rw [hb']; grind
  have cag : Cop a g := S.sq.factors ha
  have cbg : Cop b g := T.sq.factors hb
  have cab : Cop a b := by
    obtain ⟨u, v, e⟩ := G.b
    have k := cancel tg ng (h := padd (pmul u a) (pmul v b)) (k := [1]) fun x => by
      have := e x
      have := ha x
      have := hb x
      rw [ev_padd, ev_pmul, ev_pmul, ev_one]; grind
    exact ⟨u, v, fun x => by have := k x; rwa [ev_padd, ev_pmul, ev_pmul, ev_one] at this⟩
  have sJ : Dv s J := S.dv_of ns K ⟨q, em⟩
  have tJ : Dv t J := T.dv_of nt K ⟨p, fun x => by rw [em]; grind⟩
  obtain ⟨x, hx⟩ := sJ
  have cb : Cop b s := cab.symm.mul cbg ha
  have bx : Dv b x := cop_dv cb (m := J) hx (Dv.trans ⟨g, hb⟩ tJ)
  obtain ⟨y, hy⟩ := bx
  have J1 : ∃ N, Dv J (pw (Kqg1.trim (pmul a (pmul b g))) N) := by
    obtain ⟨N, hN⟩ := S.ra
    obtain ⟨M, hM⟩ := T.ra
    refine ⟨2 * (N + M), K.dv.trans (Dv.trans (b := pmul (pw s N) (pw t M)) ((Dv.lcongr (Dv.mul hN hM) fun x => by rw [em, ev_pmul])) ?_)⟩
    refine ⟨pmul (pw s M) (pmul (pw t N) (pmul (pw a (N + M)) (pw b (N + M)))), fun x => ?_⟩
    have e1 := ha x
    have e2 := hb x
    simp only [ev_pmul, ev_pw, ev_trim]
    rw [show 2 * (N + M) = (N + M) + (N + M) by omega, pow_add', pow_mul', pow_mul', e1, e2, pow_mul', pow_mul', pow_mul', pow_mul']
    simp only [pow_add']
    grind
  obtain ⟨N, hN⟩ := J1
  obtain ⟨w, hw⟩ := sqf_dv K.tr nJ (tr_trim _) K.sq hN
  have k := cancel K.tr nJ (h := pmul (Kqg1.trim y) w) (k := [1]) fun t => by
    have e1 := hw t
    have e2 := hx t
    have e3 := hy t
    have e4 := ha t
    rw [ev_trim, ev_pmul, ev_pmul] at e1
    rw [ev_pmul, ev_trim, ev_one]; grind
  obtain ⟨c, hc, ec⟩ := unit_of (w := w) (tr_trim y) fun t => by have := k t; rwa [ev_pmul, ev_one] at this
  refine ⟨a, b, c, hc, cab, cag, cbg, ha, hb, fun t => ?_⟩
  have e5 : ev y t = c := by rw [← ev_trim, ec, ev_one]
  rw [hx, hy, e5, ha]; grind
end Kv
namespace Kv
theorem chain_from : ∀ (fuel : Nat) {p q : List Rat}, Tr p → p ≠ [] → Tr q → q.length < fuel → Cop p q →
    Lk (Kqg1.sturmChainFrom fuel p q) ∧ (∀ f ∈ Kqg1.sturmChainFrom fuel p q, Tr f ∧ f ≠ []) ∧
    ∃ l, Kqg1.sturmChainFrom fuel p q = p :: l ∧ (∀ g r, l = g :: r → g = q)
  | 0, _, _, _, _, _, h, _ => by omega
  | fuel + 1, p, q, hp, np, hq, h, co => by
    rw [Kqg1.sturmChainFrom]
    by_cases c : q = []
    · rw [if_pos c]
      obtain ⟨u, v, b⟩ := co
      obtain ⟨d, hd, e⟩ := unit_of (w := u) hp fun x => by have := b x; rw [c, ev_nil] at this; grind
      refine ⟨?_, fun f hf => ?_, [], rfl, fun g r z => by simp at z⟩
      · exact ⟨d, hd, fun x => by rw [e, ev_one]⟩
      · simp at hf
        rw [hf]
        exact ⟨hp, by rw [e]; simp⟩
    · rw [if_neg c]
      obtain ⟨r1, r2, r3, r4⟩ := remainder_spec hp hq c
      have hr : ∀ x, ev p x = ev (Kqg1.quotient p q) x * ev q x - ev (Kqg1.scale (-1) (Kqg1.remainder p q)) x := fun x => by rw [r4, ev_scale]; grind
      have lr : (Kqg1.scale (-1) (Kqg1.remainder p q)).length < q.length := by
        have : (Kqg1.scale (-1) (Kqg1.remainder p q)).length ≤ (Kqg1.remainder p q).length := by
          unfold Kqg1.scale
          exact Nat.le_trans (trim_len _) (by simp)
        omega
      have co' : Cop q (Kqg1.scale (-1) (Kqg1.remainder p q)) := by
        obtain ⟨u, v, b⟩ := co
        refine ⟨padd v (pmul u (Kqg1.quotient p q)), psc (-1) u, fun x => ?_⟩
        have := b x
        have := hr x
        rw [ev_padd, ev_pmul, ev_psc]; grind
      obtain ⟨i1, i2, l, i3, i4⟩ := chain_from fuel hq c (tr_scale _ _) (by omega) co'
      rw [i3] at i1 i2 ⊢
      refine ⟨⟨?_, i1⟩, fun f hf => ?_, q :: l, rfl, fun g r z => by simp at z; exact z.1.symm⟩
      · match l, i4 with
        | [], _ => trivial
        | g :: l, i4 =>
          have := i4 g l rfl
          exact ⟨Kqg1.quotient p q, fun x => by rw [hr, this]⟩
      · rcases List.mem_cons.mp hf with e | e
        · rw [e]; exact ⟨hp, np⟩
        · exact i2 f e
theorem chain_spec {p : List Rat} (hp : Tr p) (np : p ≠ []) : Lk (Kqg1.sturmChain p) ∧ (∀ f ∈ Kqg1.sturmChain p, Tr f ∧ f ≠ []) ∧
    ∃ l, Kqg1.sturmChain p = Kqg1.squarefree p :: l ∧ (∀ g r, l = g :: r → ∀ x, ev g x = ev (pdv (Kqg1.squarefree p)) x) := by
  have S := sf_spec hp np
  have co : Cop (Kqg1.squarefree p) (Kqg1.derivative (Kqg1.squarefree p)) := by
    obtain ⟨u, v, b⟩ := S.sq
    exact ⟨u, v, fun x => by rw [ev_derivative, b]⟩
  have l := (derivative_len S.tr).1
  obtain ⟨a, b, r, c, d⟩ := chain_from ((Kqg1.squarefree p).length + 1) S.tr (ne_of_dv hp np S.dv) (tr_derivative _) (by omega) co
  exact ⟨a, b, r, c, fun g r' z x => by rw [d g r' z, ev_derivative]⟩
theorem chain_cnt {p : List Rat} (hp : Tr p) (np : p ≠ []) : Cnt (Kqg1.squarefree p) (V (Kqg1.sturmChain p)) := by
  obtain ⟨a, _, l, c, d⟩ := chain_spec hp np
  rw [c] at a ⊢
  exact Cnt.of_chain a d
theorem V_at (l : List (List Rat)) (t : Rat) : (Kqg1.changesAt l (.at t) : Int) = V l t := by
  unfold Kqg1.changesAt V
  rw [vr_sc0]
  rfl
def Vp (l : List (List Rat)) : Int := (Kqg1.changesAt l .plusInfinity : Int)
def Vm (l : List (List Rat)) : Int := (Kqg1.changesAt l .minusInfinity : Int)
theorem sg_one : sg 1 = 1 := sg_pos (by decide)
theorem neg_one_even : ∀ n : Nat, (-1 : Int) ^ (2 * n) = 1
  | 0 => rfl
  | n + 1 => by rw [show 2 * (n + 1) = 2 * n + 1 + 1 by omega, Int.pow_succ, Int.pow_succ, neg_one_even n]; rfl
theorem far_signs : ∀ {l : List (List Rat)}, (∀ f ∈ l, Tr f ∧ f ≠ []) → ∃ T : Rat, 1 ≤ T ∧ (∀ t, T ≤ t → sgs l t = l.map fun q => Kqg1.signAt q .plusInfinity) ∧ (∀ t, t ≤ -T → sgs l t = l.map fun q => Kqg1.signAt q .minusInfinity)
  | [], _ => ⟨1, by decide, fun _ _ => rfl, fun _ _ => rfl⟩
  | f :: l, h => by
    obtain ⟨T, hT, h1, h2⟩ := far_signs (l := l) fun g hg => h g (List.mem_cons_of_mem _ hg)
    obtain ⟨tf, nf⟩ := h f List.mem_cons_self
    obtain ⟨S, hS, k⟩ := far nf (tf.ld nf)
    refine ⟨T + S, by grind, fun t ht => ?_, fun t ht => ?_⟩
    · show sg (ev f t) :: sgs l t = _
      rw [h1 t (by grind), (k t (by have := le_ab t; grind)).1, sg_pos (show 0 < t by grind), Int.one_pow, Int.mul_one]
      rfl
    · show sg (ev f t) :: sgs l t = _
      rw [h2 t (by grind), (k t (by have := neg_le_ab t; grind)).1, sg_neg (show t < 0 by grind)]
      show _ = Kqg1.signAt f .minusInfinity :: _
      have : sg (ld f) * (-1) ^ (f.length - 1) = Kqg1.signAt f .minusInfinity := by
        unfold Kqg1.signAt Kqg1.degree
        by_cases c : (f.length - 1) % 2 = 0
        · rw [if_pos c]
          have e : f.length - 1 = 2 * ((f.length - 1) / 2) := by omega
          rw [e, neg_one_even, Int.mul_one]
        · rw [if_neg c]
          have e : f.length - 1 = 2 * ((f.length - 1) / 2) + 1 := by omega
          rw [e, Int.pow_succ, neg_one_even, Int.one_mul, Int.mul_neg, Int.mul_one]
      rw [this]
theorem far_V {l : List (List Rat)} (h : ∀ f ∈ l, Tr f ∧ f ≠ []) : ∃ T : Rat, 1 ≤ T ∧ (∀ t, T ≤ t → V l t = Vp l) ∧ (∀ t, t ≤ -T → V l t = Vm l) := by
  obtain ⟨T, hT, h1, h2⟩ := far_signs h
  refine ⟨T, hT, fun t ht => ?_, fun t ht => ?_⟩
  · unfold V Vp Kqg1.changesAt
    rw [h1 t ht, vr_sc0]
  · unfold V Vm Kqg1.changesAt
    rw [h2 t ht, vr_sc0]
structure Ct (f : List Rat) (l : List (List Rat)) : Prop where
  cnt : Cnt f (V l)
  far : ∃ T : Rat, 1 ≤ T ∧ (∀ t, T ≤ t → V l t = Vp l) ∧ (∀ t, t ≤ -T → V l t = Vm l)
theorem ct_spec {p : List Rat} (hp : Tr p) (np : p ≠ []) : Ct (Kqg1.squarefree p) (Kqg1.sturmChain p) :=
  ⟨chain_cnt hp np, far_V (chain_spec hp np).2.1⟩
theorem Cnt.still {f : List Rat} {W : Rat → Int} (h : Cnt f W) {s t : Rat} (hst : s < t) (k : ∀ x, s ≤ x → x ≤ t → 0 < ev f s * ev f x) : W s = W t := by
  have hss : 0 < ev f s * ev f s := k s (by grind) (by grind)
  have hs0 : ev f s ≠ 0 := fun q => by rw [q] at hss; grind
  have key : ∀ x y, s ≤ x → y ≤ t → x < y → ind f x y = 0 := fun x y hx hy hxy => by
    have p1 := k x hx (by grind)
    have p2 := k y (by grind) hy
    have p3 := mul_ps p1 p2
    have : 0 < ev f x * ev f y := by
      refine mul_lt_cancel (a := ev f s * ev f s) (by grind) ?_
      grind
    unfold ind
    rw [if_neg (by grind)]
  have := glob (F := fun x y => s ≤ x → y ≤ t → W x = W y) (fun a b c h1 h2 x y p q => by
      have := x p (by grind)
      have := y (by grind) q
      omega)
    (fun B hB => (h.at' B hB).mono fun x y hxy z p q => by have := key x y p q hxy; omega) hst
  exact this (by grind) (by grind)
theorem pos_of_sg {x y : Rat} (h : sg x = sg y) (hx : sg x ≠ 0) : 0 < x * y := by
  rcases sg_cases x with ⟨a, e⟩ | ⟨a, e⟩ | ⟨a, e⟩ <;> rcases sg_cases y with ⟨b, k⟩ | ⟨b, k⟩ | ⟨b, k⟩ <;> rw [e] at h hx <;> rw [k] at h <;>
    first | exact mul_ps a b | exact mul_neg_neg a b | (exfalso; omega)
theorem sg_ne {x : Rat} (h : x ≠ 0) : sg x ≠ 0 := by
  rcases sg_cases x with ⟨_, e⟩ | ⟨_, e⟩ | ⟨a, e⟩
  · rw [e]; decide
  · rw [e]; decide
  · exact absurd a h
def Bound (f : List Rat) (b : Rat) : Prop := 1 ≤ b ∧ ∀ t, b ≤ ab t → sg (ev f t) = sg (ld f) * (sg t) ^ (f.length - 1) ∧ ev f t ≠ 0
theorem Ct.above {f : List Rat} {l : List (List Rat)} (h : Ct f l) {b : Rat} (hb : Bound f b) {t : Rat} (ht : b ≤ t) : V l t = Vp l ∧ V l (-t) = Vm l := by
  obtain ⟨T, hT, h1, h2⟩ := h.far
  have b1 := hb.1
  constructor
  · by_cases c : T ≤ t
    · exact h1 t c
    · rw [← h1 T (by grind)]
      refine h.cnt.still (by grind) fun x hx hx2 => ?_
      have k1 := hb.2 t (by have := le_ab t; grind)
      have k2 := hb.2 x (by have := le_ab x; grind)
      refine pos_of_sg ?_ (sg_ne k1.2)
      rw [k1.1, k2.1, sg_pos (show 0 < t by grind), sg_pos (show 0 < x by grind)]
  · by_cases c : T ≤ t
    · exact h2 (-t) (by grind)
    · rw [← h2 (-T) (by grind)]
      refine (h.cnt.still (s := -T) (t := -t) (by grind) fun x hx hx2 => ?_).symm
      have k1 := hb.2 (-T) (by have := neg_le_ab (-T); grind)
      have k2 := hb.2 x (by have := neg_le_ab x; grind)
      refine pos_of_sg ?_ (sg_ne k1.2)
      rw [k1.1, k2.1, sg_neg (show -T < 0 by grind), sg_neg (show x < 0 by grind)]
theorem Ct.between {f : List Rat} {l : List (List Rat)} (h : Ct f l) (t : Rat) : V l t ≤ Vm l ∧ Vp l ≤ V l t ∧ V l t + z f t ≤ Vm l := by
  obtain ⟨T, hT, h1, h2⟩ := h.far
  have e1 := h1 (T + ab t + 1) (by have := ab_nn t; grind)
  have e2 := h2 (-(T + ab t + 1)) (by have := ab_nn t; grind)
  have k1 := le_ab t
  have k2 := neg_le_ab t
  have m1 := h.cnt.mono (s := t) (t := T + ab t + 1) (by grind)
  have m2 := h.cnt.mono (s := -(T + ab t + 1)) (t := t) (by grind)
  have m3 := h.cnt.mono_left (s := -(T + ab t + 1)) (t := t) (by grind)
  omega
end Kv
namespace Kv
def Far (p : List Rat) (b : Rat) : Prop := 1 ≤ b ∧ ∃ m : Rat, 0 < m ∧ ∀ t, b ≤ ab t → m ≤ ab (ev p t)
theorem far_of_dom {p : List Rat} (np : p ≠ []) (hp : Tr p) {M b : Rat} (hM : 0 ≤ M) (hc : ∀ c ∈ p, ab c ≤ M * ab (ld p)) (hb : 1 + M ≤ b) : Far p b :=
  ⟨by grind, ab (ld p), ab_pos (hp.ld np), fun t ht => (dom np (hp.ld np) hM hc t (by grind)).1⟩
theorem Ct.beyond {f p : List Rat} {l : List (List Rat)} (h : Ct f l) (d : Dv f p) {b : Rat} (hb : Far p b) {t : Rat} (ht : b ≤ t) : V l t = Vp l ∧ V l (-t) = Vm l := by
  obtain ⟨T, hT, h1, h2⟩ := h.far
  obtain ⟨b1, m, hm, hb⟩ := hb
  obtain ⟨w, hw⟩ := d
  have key : ∀ B : Rat, 0 ≤ B → Ev B fun x y => (b ≤ ab x → Same f x y) := fun B hB => by
    have hk := mb_nn hB w
    have hn : 0 < m / (mb B w + 1) := div_ps hm (by grind)
    have en : m / (mb B w + 1) * (mb B w + 1) = m := div_mul_self (by grind)
    obtain ⟨d, hd, hc⟩ := cell (B := B) (lb_nn hB f) hn
    refine ⟨d, hd, fun x y hx hy hxy hd2 hbx => ?_⟩
    have k1 := hb x hbx
    rw [hw, ab_mul] at k1
    have k2 := mul_le (ab_nn (ev f x)) (Rat.le_refl) (ab_nn (ev w x)) (ab_ev_le hB hx w)
    have k3 : m / (mb B w + 1) ≤ ab (ev f x) := by
      refine Classical.byContradiction fun z => ?_
      have z1 := mul_lt_l (show 0 < mb B w + 1 by grind) (show ab (ev f x) < m / (mb B w + 1) by grind)
      have := ab_nn (ev f x)
      grind
    have k4 := ab_lip_le hB hx hy f
    have k5 := hc x y hxy hd2
    exact keeps k3 (by grind)
  have g : ∀ x y, x < y → (∀ r, x ≤ r → r ≤ y → b ≤ ab r) → V l x = V l y := fun x y hxy hr => by
    refine glob (F := fun r s => (x ≤ r → s ≤ y → V l r = V l s)) (fun a b c h1 h2 p q u v => ?_) (fun B hB => ((h.cnt.at' B hB).and (key B hB)).mono fun r s hrs ⟨⟨c1, _⟩, c2⟩ u v => ?_) hxy (by grind) (by grind)
    · rw [p u (by grind), q (by grind) v]
    · rw [ind_same (c2 (hr r u (by grind)))] at c1; omega
  constructor
  · by_cases c : T ≤ t
    · exact h1 t c
    · rw [← h1 T (by grind)]
      exact g t T (by grind) fun r h3 _ => by have := le_ab r; grind
  · by_cases c : T ≤ t
    · exact h2 (-t) (by grind)
    · rw [← h2 (-T) (by grind)]
      exact (g (-T) (-t) (by grind) fun r _ h3 => by have := neg_le_ab r; grind).symm
abbrev hd (l : List (List Rat)) : List Rat := l.headD []
def sum (l : List Int) : Int := l.foldr (· + ·) 0
theorem sum_nil : sum [] = 0 := rfl
theorem sum_cons (a : Int) (l : List Int) : sum (a :: l) = a + sum l := rfl
theorem sum_map_le {α : Type} {f g : α → Int} : ∀ {l : List α}, (∀ x ∈ l, f x ≤ g x) → sum (l.map f) ≤ sum (l.map g)
  | [], _ => by simp [sum]
  | a :: l, h => by
    have := h a List.mem_cons_self
    have := sum_map_le (l := l) fun x hx => h x (List.mem_cons_of_mem _ hx)
    rw [List.map_cons, List.map_cons, sum_cons, sum_cons]; omega
theorem sum_map_eq {α : Type} {f g : α → Int} {l : List α} (h : ∀ x ∈ l, f x = g x) : sum (l.map f) = sum (l.map g) := by
  rw [List.map_congr_left h]
theorem sum_map_sub {α : Type} (f g : α → Int) : ∀ (l : List α), sum (l.map fun x => f x - g x) = sum (l.map f) - sum (l.map g)
  | [] => rfl
  | a :: l => by rw [List.map_cons, List.map_cons, List.map_cons, sum_cons, sum_cons, sum_cons, sum_map_sub f g l]; omega
def cu (L : List (List (List Rat))) (t : Rat) : Int := sum (L.map fun l => Vm l - V l t)
def cb (L : List (List (List Rat))) (t : Rat) : Int := sum (L.map fun l => Vm l - V l t - z (hd l) t)
def tot (L : List (List (List Rat))) : Int := sum (L.map fun l => Vm l - Vp l)
def Fam (L : List (List (List Rat))) : Prop := ∀ l ∈ L, Ct (hd l) l
theorem foldl_nat (l : List Nat) (a : Nat) : l.foldl (fun x y => x + y) a = a + l.foldl (fun x y => x + y) 0 := by
  induction l generalizing a with
  | nil => simp
  | cons b l ih => rw [List.foldl_cons, List.foldl_cons, ih (a + b), ih (0 + b)]; omega
theorem sum_nat {α : Type} (f : α → Nat) : ∀ (l : List α), (((l.map f).foldl (fun x y => x + y) 0 : Nat) : Int) = sum (l.map fun x => (f x : Int))
  | [] => rfl
  | a :: l => by
    rw [List.map_cons, List.foldl_cons, foldl_nat, List.map_cons, sum_cons, ← sum_nat f l]
    omega
theorem count_up {L : List (List (List Rat))} (h : Fam L) (t : Rat) : (Kqg1.countByChains L .minusInfinity (.at t) : Int) = cu L t := by
  unfold Kqg1.countByChains cu
  rw [sum_nat]
  refine sum_map_eq fun l hl => ?_
  have := (h l hl).between t
  unfold Kqg1.countByChain
  have e := V_at l t
  unfold Vm at this ⊢
  omega
theorem count_all {L : List (List (List Rat))} (h : Fam L) : (Kqg1.countByChains L .minusInfinity .plusInfinity : Int) = tot L := by
  unfold Kqg1.countByChains tot
  rw [sum_nat]
  refine sum_map_eq fun l hl => ?_
  have := (h l hl).between 0
  unfold Kqg1.countByChain
  unfold Vm Vp at this ⊢
  omega
theorem count_above {L : List (List (List Rat))} (h : Fam L) (t : Rat) : (Kqg1.countByChains L (.at t) .plusInfinity : Int) = tot L - cu L t := by
  unfold Kqg1.countByChains tot cu
  rw [sum_nat, ← sum_map_sub]
  refine sum_map_eq fun l hl => ?_
  have := (h l hl).between t
  unfold Kqg1.countByChain
  have e := V_at l t
  unfold Vm Vp at this ⊢
  omega
theorem count_mult (L : List (List (List Rat))) (t : Rat) : (Kqg1.multiplicityByChains L t : Int) = sum (L.map fun l => z (hd l) t) := by
  unfold Kqg1.multiplicityByChains
  induction L with
  | nil => rfl
  | cons l L ih =>
    rw [List.filter_cons, List.map_cons, sum_cons]
    by_cases c : ev (hd l) t = 0
    · have : (Kqg1.evaluate (l.headD []) t == 0) = true := by simpa using c
      rw [if_pos this, List.length_cons]
      have : z (hd l) t = 1 := if_pos c
      omega
    · have : ¬ (Kqg1.evaluate (l.headD []) t == 0) = true := by simpa using c
      rw [if_neg this]
      have : z (hd l) t = 0 := if_neg c
      omega
theorem count_below {L : List (List (List Rat))} (h : Fam L) (t : Rat) : (Kqg1.countBelowByChains L t : Int) = cb L t := by
  unfold Kqg1.countBelowByChains
  have e1 := count_up h t
  have e2 := count_mult L t
  have e3 : cb L t = cu L t - sum (L.map fun l => z (hd l) t) := by
    unfold cb cu; rw [← sum_map_sub]
  have e4 : 0 ≤ cb L t := by
    unfold cb
    have := sum_map_le (f := fun _ => 0) (g := fun l => Vm l - V l t - z (hd l) t) (l := L) fun l hl => by have := (h l hl).between t; omega
    have e : ∀ (L : List (List (List Rat))), sum (L.map fun _ => 0) = 0 := by
      intro L
      induction L with
      | nil => rfl
      | cons a L ih => rw [List.map_cons, sum_cons, ih]; rfl
    rw [e] at this
    exact this
  omega
theorem cb_mono {L : List (List (List Rat))} (h : Fam L) {s t : Rat} (hst : s < t) : cb L s ≤ cb L t := sum_map_le fun l hl => by
  have := (h l hl).cnt.mono_left hst
  have := z_nn (hd l) s
  omega
theorem cb_mono' {L : List (List (List Rat))} (h : Fam L) {s t : Rat} (hst : s ≤ t) : cb L s ≤ cb L t := by
  by_cases c : s = t
  · rw [c]; exact Int.le_refl _
  · exact cb_mono h (by grind)
theorem cb_le_cu (L : List (List (List Rat))) (t : Rat) : cb L t ≤ cu L t := sum_map_le fun l _ => by have := z_nn (hd l) t; omega
theorem cu_le_cb {L : List (List (List Rat))} (h : Fam L) {s t : Rat} (hst : s < t) : cu L s ≤ cb L t := sum_map_le fun l hl => by
  have := (h l hl).cnt.mono_left hst
  omega
theorem cb_tot {L : List (List (List Rat))} (h : Fam L) (t : Rat) : cb L t ≤ tot L ∧ cu L t ≤ tot L := by
  constructor
  · exact sum_map_le fun l hl => by have := (h l hl).between t; have := z_nn (hd l) t; omega
  · exact sum_map_le fun l hl => by have := (h l hl).between t; omega
def Part (L : List (List (List Rat))) (p : List Rat) : Prop := ∀ l ∈ L, Dv (hd l) p
theorem z_far {p f : List Rat} {b t : Rat} (d : Dv f p) (hb : Far p b) (ht : b ≤ ab t) : z f t = 0 := by
  obtain ⟨_, m, hm, hb⟩ := hb
  have := hb t ht
  unfold z
  by_cases c : ev f t = 0
  · exfalso
    obtain ⟨w, hw⟩ := d
    rw [hw, c] at this
    have : ab (0 * ev w t) = 0 := by rw [show 0 * ev w t = 0 by grind, ab_zero]
    grind
  · rw [if_neg c]
theorem cb_far {L : List (List (List Rat))} {p : List Rat} (h : Fam L) (k : Part L p) {b : Rat} (hb : Far p b) {t : Rat} (ht : b ≤ t) :
    cb L t = tot L ∧ cb L (-t) = 0 ∧ cu L t = tot L ∧ cu L (-t) = 0 := by
  have a1 : b ≤ ab t := by have := le_ab t; grind
  have a2 : b ≤ ab (-t) := by rw [ab_neg]; exact a1
  have e : ∀ (L : List (List (List Rat))), sum (L.map fun _ => (0 : Int)) = 0 := by
    intro L
    induction L with
    | nil => rfl
    | cons a L ih => rw [List.map_cons, sum_cons, ih]; rfl
  refine ⟨sum_map_eq fun l hl => ?_, (sum_map_eq (g := fun _ => 0) fun l hl => ?_).trans (e L), sum_map_eq fun l hl => ?_, (sum_map_eq (g := fun _ => 0) fun l hl => ?_).trans (e L)⟩
  · rw [z_far (k l hl) hb a1, ((h l hl).beyond (k l hl) hb ht).1]; omega
  · rw [z_far (k l hl) hb a2, ((h l hl).beyond (k l hl) hb ht).2]; omega
  · rw [((h l hl).beyond (k l hl) hb ht).1]
  · rw [((h l hl).beyond (k l hl) hb ht).2]; omega
theorem bisect_spec (f : Int → Bool) : ∀ (fuel : Nat) (low high : Int), low < high → high - low ≤ 2 ^ fuel → f low = true → f high = false →
    f (Kqg1.bisect f fuel low high) = true ∧ f (Kqg1.bisect f fuel low high + 1) = false
  | 0, low, high, h, k, h1, h2 => by
    rw [Kqg1.bisect]
    have : high = low + 1 := by simp at k; omega
    rw [← this]; exact ⟨h1, h2⟩
  | fuel + 1, low, high, h, k, h1, h2 => by
    rw [Kqg1.bisect]
    by_cases c : high ≤ low + 1
    · rw [if_pos c]
      have : high = low + 1 := by omega
      rw [← this]; exact ⟨h1, h2⟩
    · rw [if_neg c]
      have e : (2 : Int) ^ (fuel + 1) = 2 * 2 ^ fuel := by rw [Int.pow_succ]; omega
      dsimp only
      by_cases d : f ((low + high) / 2) = true
      · rw [if_pos d]
        exact bisect_spec f fuel _ _ (by omega) (by omega) d h2
      · rw [if_neg d]
        exact bisect_spec f fuel _ _ (by omega) (by omega) h1 (by simpa using d)
theorem cast_le {a b : Int} (h : a ≤ b) : (a : Rat) ≤ (b : Rat) := Rat.intCast_le_intCast.mpr h
theorem cast_lt {a b : Int} (h : a < b) : (a : Rat) < (b : Rat) := Rat.intCast_lt_intCast.mpr h
theorem pow2_pos (n : Nat) : (0 : Rat) < ((2 ^ n : Nat) : Rat) := by
  have : 0 < 2 ^ n := Nat.two_pow_pos n
  have : ((0 : Nat) : Rat) < ((2 ^ n : Nat) : Rat) := Rat.natCast_lt_natCast.mpr this
  exact this
theorem dyadic_lt {m n : Int} (b : Nat) (h : m < n) : Kqg1.dyadic m b < Kqg1.dyadic n b := by
  unfold Kqg1.dyadic
  have := pow2_pos b
  rw [Rat.lt_div_iff this]
  have e : (m : Rat) / ((2 ^ b : Nat) : Rat) * ((2 ^ b : Nat) : Rat) = m := div_mul_self (by grind)
  rw [e]; exact cast_lt h
theorem dyadic_le {m n : Int} (b : Nat) (h : m ≤ n) : Kqg1.dyadic m b ≤ Kqg1.dyadic n b := by
  by_cases c : m = n
  · rw [c]; exact Rat.le_refl
  · have := dyadic_lt b (show m < n by omega); grind
theorem rootFloor_spec {L : List (List (List Rat))} {p : List Rat} (h : Fam L) (hp : Part L p) {bound : Nat} (hb : Far p (bound : Rat)) {k : Nat} (hk : (k : Int) < tot L) (bits : Nat) :
    cb L (Kqg1.dyadic (Kqg1.rootFloorByChains L bound k bits) bits) ≤ k ∧ (k : Int) < cb L (Kqg1.dyadic (Kqg1.rootFloorByChains L bound k bits + 1) bits) := by
  have hc : ∀ m : Int, (decide (Kqg1.countBelowByChains L (Kqg1.dyadic m bits) ≤ k) = true ↔ cb L (Kqg1.dyadic m bits) ≤ k) := fun m => by
    have := count_below h (Kqg1.dyadic m bits)
    rw [decide_eq_true_iff]; omega
  have d1 : (bound : Rat) ≤ Kqg1.dyadic ((bound * 2 ^ bits + 1 : Nat) : Int) bits := by
    unfold Kqg1.dyadic
    have q := pow2_pos bits
    have e : ((((bound * 2 ^ bits + 1 : Nat) : Int)) : Rat) = (bound : Rat) * ((2 ^ bits : Nat) : Rat) + 1 := by
      rw [Rat.intCast_natCast, Rat.natCast_add, Rat.natCast_mul]; rfl
    rw [e]
    have := Rat.div_lt_iff q (a := (bound : Rat) * ((2 ^ bits : Nat) : Rat)) (c := ((bound : Rat) * ((2 ^ bits : Nat) : Rat) + 1) / ((2 ^ bits : Nat) : Rat))
    have e2 : ((bound : Rat) * ((2 ^ bits : Nat) : Rat) + 1) / ((2 ^ bits : Nat) : Rat) * ((2 ^ bits : Nat) : Rat) = (bound : Rat) * ((2 ^ bits : Nat) : Rat) + 1 := div_mul_self (by grind)
    have e3 : (bound : Rat) * ((2 ^ bits : Nat) : Rat) / ((2 ^ bits : Nat) : Rat) = (bound : Rat) := by grind
    rw [e3, e2] at this
    have := this.mpr (by grind)
    grind
  have d2 : Kqg1.dyadic (-((bound * 2 ^ bits + 1 : Nat) : Int)) bits = -Kqg1.dyadic ((bound * 2 ^ bits + 1 : Nat) : Int) bits := by
    unfold Kqg1.dyadic
    rw [Rat.intCast_neg]; grind
  obtain ⟨f1, f2, _, _⟩ := cb_far h hp hb d1
  have lo : decide (Kqg1.countBelowByChains L (Kqg1.dyadic (-((bound * 2 ^ bits + 1 : Nat) : Int)) bits) ≤ k) = true := (hc _).mpr (by rw [d2, f2]; omega)
  have hi : decide (Kqg1.countBelowByChains L (Kqg1.dyadic ((bound * 2 ^ bits + 1 : Nat) : Int) bits) ≤ k) = false := by
    have := hc ((bound * 2 ^ bits + 1 : Nat) : Int)
    rw [f1] at this
    cases e : decide (Kqg1.countBelowByChains L (Kqg1.dyadic ((bound * 2 ^ bits + 1 : Nat) : Int) bits) ≤ k) with
    | false => rfl
    | true => rw [e] at this; have := this.mp rfl; omega
  have fuel : ((bound * 2 ^ bits + 1 : Nat) : Int) - -((bound * 2 ^ bits + 1 : Nat) : Int) ≤ 2 ^ (Nat.log2 (2 * (bound * 2 ^ bits + 1)) + 2) := by
    have := Nat.lt_log2_self (n := 2 * (bound * 2 ^ bits + 1))
    have e : (2 : Nat) ^ (Nat.log2 (2 * (bound * 2 ^ bits + 1)) + 2) = 2 * 2 ^ (Nat.log2 (2 * (bound * 2 ^ bits + 1)) + 1) := by rw [Nat.pow_succ]; omega
    have e2 : ((2 : Int) ^ (Nat.log2 (2 * (bound * 2 ^ bits + 1)) + 2)) = ((2 ^ (Nat.log2 (2 * (bound * 2 ^ bits + 1)) + 2) : Nat) : Int) := by simp
    rw [e2]; omega
  obtain ⟨r1, r2⟩ := bisect_spec (fun m => decide (Kqg1.countBelowByChains L (Kqg1.dyadic m bits) ≤ k)) _ _ _ (by omega) fuel lo hi
  refine ⟨(hc _).mp r1, ?_⟩
  have := hc (Kqg1.rootFloorByChains L bound k bits + 1)
  have r2' : decide (Kqg1.countBelowByChains L (Kqg1.dyadic (Kqg1.rootFloorByChains L bound k bits + 1) bits) ≤ k) = false := r2
  rw [r2'] at this
  have : ¬ cb L (Kqg1.dyadic (Kqg1.rootFloorByChains L bound k bits + 1) bits) ≤ k := fun q => by have := this.mpr q; cases this
  omega
theorem floor_unique {L : List (List (List Rat))} (h : Fam L) {k : Int} {bits : Nat} {m n : Int} (h1 : cb L (Kqg1.dyadic m bits) ≤ k) (h2 : k < cb L (Kqg1.dyadic (m + 1) bits))
    (k1 : cb L (Kqg1.dyadic n bits) ≤ k) (k2 : k < cb L (Kqg1.dyadic (n + 1) bits)) : m = n := by
  rcases Int.lt_trichotomy m n with c | c | c
  · have := cb_mono' h (dyadic_le bits (show m + 1 ≤ n by omega)); omega
  · exact c
  · have := cb_mono' h (dyadic_le bits (show n + 1 ≤ m by omega)); omega
end Kv
namespace Kv
theorem layers_spec : ∀ (n : Nat) {p : List Rat}, Tr p → p ≠ [] → ∀ f ∈ Kqg1.multiplicityLayers n p, Tr f ∧ f ≠ [] ∧ Dv f p
  | 0, p, _, _, f, hf => by simp [Kqg1.multiplicityLayers] at hf
  | n + 1, p, hp, np, f, hf => by
    rw [Kqg1.multiplicityLayers] at hf
    by_cases c : p.length ≤ 1
    · rw [if_pos c] at hf; simp at hf
    · rw [if_neg c] at hf
      obtain ⟨a, b, d⟩ := gcd_dv hp np
      rcases List.mem_cons.mp hf with e | e
      · rw [e]; exact ⟨hp, np, Dv.rfl' p⟩
      · obtain ⟨x, y, w⟩ := layers_spec n a d f e
        exact ⟨x, y, w.trans b.l⟩
theorem hd_chain {p : List Rat} (hp : Tr p) (np : p ≠ []) : hd (Kqg1.sturmChain p) = Kqg1.squarefree p := by
  obtain ⟨_, _, l, e, _⟩ := chain_spec hp np
  rw [e]; rfl
theorem fam_layers {p : List Rat} (hp : Tr p) (np : p ≠ []) : Fam (Kqg1.layerChains p) ∧ Part (Kqg1.layerChains p) p := by
  constructor <;> intro l hl <;> obtain ⟨f, hf, rfl⟩ := List.mem_map.mp hl <;> obtain ⟨a, b, c⟩ := layers_spec _ hp np f hf <;> rw [hd_chain a b]
  · exact ct_spec a b
  · exact (sf_spec a b).dv.trans c
theorem absolute_ab (x : Rat) : Kqg1.absolute x = ab x := rfl
theorem le_foldl_max : ∀ (l : List Rat) (a : Rat), a ≤ l.foldl (fun x y => if x < y then y else x) a ∧ ∀ c ∈ l, c ≤ l.foldl (fun x y => if x < y then y else x) a
  | [], a => ⟨Rat.le_refl, fun c h => by simp at h⟩
  | b :: l, a => by
    obtain ⟨h1, h2⟩ := le_foldl_max l (if a < b then b else a)
    rw [List.foldl_cons]
    refine ⟨by split at h1 <;> grind, fun c hc => ?_⟩
    rcases List.mem_cons.mp hc with e | e
    · rw [e]; split at h1 <;> grind
    · exact h2 c e
theorem rat_eq (x : Rat) : x * (x.den : Rat) = (x.num : Rat) := by
  have e : x = (x.num : Rat) / (x.den : Rat) := by rw [← Rat.mkRat_eq_div, Rat.mkRat_self]
  have hd : (0 : Rat) < (x.den : Rat) := by
    have : ((0 : Nat) : Rat) < (x.den : Rat) := Rat.natCast_lt_natCast.mpr x.den_pos
    exact this
  have := div_mul_self (x := (x.num : Rat)) (y := (x.den : Rat)) (by grind)
  rw [← e] at this
  exact this
theorem le_ceiling (x : Rat) : x ≤ (Kqg1.ceiling x : Rat) := by
  have hd : (0 : Rat) < (x.den : Rat) := by
    have : ((0 : Nat) : Rat) < (x.den : Rat) := Rat.natCast_lt_natCast.mpr x.den_pos
    exact this
  have hdi : (0 : Int) < (x.den : Int) := by have := x.den_pos; omega
  have e := rat_eq x
  unfold Kqg1.ceiling
  have h1 : x.num ≤ (((x.num + (x.den : Int) - 1) / (x.den : Int)).toNat : Int) * (x.den : Int) := by
    have k := Int.lt_ediv_add_one_mul_self (x.num + (x.den : Int) - 1) hdi
    have k2 : (x.num + (x.den : Int) - 1) / (x.den : Int) ≤ (((x.num + (x.den : Int) - 1) / (x.den : Int)).toNat : Int) := by omega
    have k3 := Int.mul_le_mul_of_nonneg_right k2 (show 0 ≤ (x.den : Int) by omega)
    rw [Int.add_mul] at k
    omega
  have h2 := cast_le h1
  rw [Rat.intCast_mul, Rat.intCast_natCast, Rat.intCast_natCast, ← e] at h2
  refine mul_le_cancel hd ?_
  grind
theorem far_rootBound {p : List Rat} (hp : Tr p) (np : p ≠ []) : Far p (Kqg1.rootBound p : Rat) := by
  have hl := ab_pos (hp.ld np)
  obtain ⟨h1, h2⟩ := le_foldl_max (p.map fun c => Kqg1.absolute (c / Kqg1.leadingCoefficient p)) 0
  refine far_of_dom np hp h1 (fun c hc => ?_) ?_
  · have := h2 _ (List.mem_map.mpr ⟨c, hc, rfl⟩)
    rw [absolute_ab] at this
    have k := mul_le (ab_nn (c / Kqg1.leadingCoefficient p)) this (ab_nn (ld p)) Rat.le_refl
    rw [← ab_mul, div_mul_self (hp.ld np)] at k
    exact k
  · unfold Kqg1.rootBound
    have := le_ceiling ((p.map fun c => Kqg1.absolute (c / Kqg1.leadingCoefficient p)).foldl (fun x y => if x < y then y else x) 0)
    rw [Rat.natCast_add]
    have e : ((1 : Nat) : Rat) = 1 := rfl
    rw [e]; grind
theorem gcd_one {p : List Rat} (hp : Tr p) (np : p ≠ []) (sq : Sqf p) : Kqg1.gcd p (Kqg1.derivative p) = [1] := by
  obtain ⟨a, b, c⟩ := gcd_dv hp np
  obtain ⟨u, v, e⟩ := sq
  have : Dv (Kqg1.gcd p (Kqg1.derivative p)) [1] := Dv.comb (u := u) (v := v) b.l b.r fun x => by rw [ev_one, e]
  obtain ⟨w, hw⟩ := this
  obtain ⟨k, hk, ek⟩ := unit_of (w := w) a fun x => by rw [← hw, ev_one]
  have l1 : ld (Kqg1.gcd p (Kqg1.derivative p)) = 1 := by
    obtain ⟨h1, h2⟩ := euclid_spec (p.length + (Kqg1.derivative p).length + 2) hp (tr_derivative p) (by omega)
    have ne : Kqg1.euclid (p.length + (Kqg1.derivative p).length + 2) p (Kqg1.derivative p) ≠ [] := (h2.l.len h1 hp np).2
    have q := h1.ld ne
    show ld (Kqg1.monic (Kqg1.euclid (p.length + (Kqg1.derivative p).length + 2) p (Kqg1.derivative p))) = 1
    unfold Kqg1.monic
    have q2 : 1 / Kqg1.leadingCoefficient (Kqg1.euclid (p.length + (Kqg1.derivative p).length + 2) p (Kqg1.derivative p)) ≠ 0 := by
      intro y
      have := div_mul_self (x := 1) q
      have e2 : (1 : Rat) = 1 / Kqg1.leadingCoefficient (Kqg1.euclid (p.length + (Kqg1.derivative p).length + 2) p (Kqg1.derivative p)) * Kqg1.leadingCoefficient (Kqg1.euclid (p.length + (Kqg1.derivative p).length + 2) p (Kqg1.derivative p)) := this.symm
      rw [y] at e2; grind
    rw [if_neg ne, scale_psc h1 q2, ld_psc]
    exact div_mul_self q
  rw [ek, ld_one] at l1
  rw [ek, l1]
theorem squarefree_id {p : List Rat} (hp : Tr p) (np : p ≠ []) (sq : Sqf p) : Kqg1.squarefree p = p := by
  unfold Kqg1.squarefree
  by_cases h : p.length ≤ 1
  · rw [if_pos h]
  · rw [if_neg h, gcd_one hp np sq]
    have t1 : Tr [(1 : Rat)] := .one (by decide)
    have := rem_zero hp t1 (by simp) ⟨p, fun x => by rw [ev_one]; grind⟩
    refine same_of_ev (remainder_spec hp t1 (by simp)).2.2.1 hp fun x => ?_
    rw [this.2, ev_one]; grind
theorem layers_sq {p : List Rat} (hp : Tr p) (np : p ≠ []) (sq : Sqf p) : Kqg1.layerChains p = if p.length ≤ 1 then [] else [Kqg1.sturmChain p] := by
  unfold Kqg1.layerChains
  match h : p.length with
  | 0 => exact absurd (List.length_eq_zero_iff.mp h) np
  | n + 1 =>
    rw [Kqg1.multiplicityLayers, h]
    by_cases c : n + 1 ≤ 1
    · rw [if_pos c, if_pos c]; rfl
    · rw [if_neg c, if_neg c, gcd_one hp np sq]
      have : Kqg1.multiplicityLayers n [1] = [] := by
        match n with
        | 0 => rfl
        | n + 1 => rw [Kqg1.multiplicityLayers]; rfl
      rw [this]; rfl
def val (L : List (List (List Rat))) (t : Rat) (up : Bool) : Int := if up then cu L t else cb L t
theorem val_le {L : List (List (List Rat))} {lJ : List (List Rat)} {J : List Rat} (hL : Fam L) (hJ : Ct J lJ) (eJ : hd lJ = J) (sq : Sqf J) (d : ∀ l ∈ L, Dv (hd l) J)
    {s t : Rat} {a b : Bool} (h : s < t ∨ (s = t ∧ a = false ∧ b = true)) (e : val [lJ] s a = val [lJ] t b) : val L s a = val L t b := by
  unfold val cu cb at e ⊢
  have key : ∀ l ∈ L, (if a = true then Vm l - V l s else Vm l - V l s - z (hd l) s) = (if b = true then Vm l - V l t else Vm l - V l t - z (hd l) t) := fun l hl => by
    obtain ⟨w, hw⟩ := d l hl
    have k1 := z_dom hw s
    have k2 := z_dom hw t
    have k3 := z_nn (hd l) s
    have k4 := z_nn (hd l) t
    rcases h with h | ⟨rfl, rfl, rfl⟩
    · have k5 := Cnt.dom sq hw hJ.cnt (hL l hl).cnt h
      have k6 := Cnt.dom_left sq hw hJ.cnt (hL l hl).cnt h
      have k7 := (hL l hl).cnt.mono h
      have k8 := (hL l hl).cnt.mono_left h
      cases a <;> cases b <;> simp only [List.map_cons, List.map_nil, sum_cons, sum_nil, eJ, if_true, if_false, Bool.false_eq_true] at e ⊢ <;> omega
    · simp only [List.map_cons, List.map_nil, sum_cons, sum_nil, eJ, if_true, if_false, Bool.false_eq_true] at e ⊢
      omega
  have e2 : (if a = true then sum (L.map fun l => Vm l - V l s) else sum (L.map fun l => Vm l - V l s - z (hd l) s)) = sum (L.map fun l => if a = true then Vm l - V l s else Vm l - V l s - z (hd l) s) := by
    cases a <;> simp
  have e3 : (if b = true then sum (L.map fun l => Vm l - V l t) else sum (L.map fun l => Vm l - V l t - z (hd l) t)) = sum (L.map fun l => if b = true then Vm l - V l t else Vm l - V l t - z (hd l) t) := by
    cases b <;> simp
  rw [e2, e3]
  exact sum_map_eq key
theorem val_eq {L : List (List (List Rat))} {lJ : List (List Rat)} {J : List Rat} (hL : Fam L) (hJ : Ct J lJ) (eJ : hd lJ = J) (sq : Sqf J) (d : ∀ l ∈ L, Dv (hd l) J)
    {s t : Rat} {a b : Bool} (e : val [lJ] s a = val [lJ] t b) : val L s a = val L t b := by
  by_cases h : s < t
  · exact val_le hL hJ eJ sq d (.inl h) e
  · by_cases k : t < s
    · exact (val_le hL hJ eJ sq d (.inl k) e.symm).symm
    · have : s = t := by grind
      subst this
      cases a <;> cases b
      · rfl
      · exact val_le hL hJ eJ sq d (.inr ⟨rfl, rfl, rfl⟩) e
      · exact (val_le hL hJ eJ sq d (.inr ⟨rfl, rfl, rfl⟩) e.symm).symm
      · rfl
theorem prec_mem : 32768 ∈ Kqg2.precisions := by decide +kernel
theorem bits_nodup (F : Nat → List Int) (h : (F 32768).Nodup) : (F ((Kqg2.precisions.find? fun bits => decide (F bits).Nodup).getD 32768)).Nodup := by
  cases e : Kqg2.precisions.find? fun bits => decide (F bits).Nodup with
  | none =>
    have := List.find?_eq_none.mp e 32768 prec_mem
    simp only [decide_eq_true_eq] at this
    exact absurd h this
  | some b =>
    have := List.find?_some e
    simpa using this
theorem nodup_ne {f : Nat → Int} {n : Nat} (h : ((List.range n).map f).Nodup) {i j : Nat} (hi : i < n) (hj : j < n) (e : f i = f j) : i = j := by
  have k := List.pairwise_map.mp h
  rw [List.pairwise_iff_getElem] at k
  rcases Nat.lt_trichotomy i j with c | c | c
  · have := k i j (by simpa using hi) (by simpa using hj) c
    simp at this; exact absurd e this
  · exact c
  · have := k j i (by simpa using hj) (by simpa using hi) c
    simp at this; exact absurd e.symm this
theorem nodup_of {f : Nat → Int} {n : Nat} (h : ∀ i j, i < j → j < n → f i ≠ f j) : ((List.range n).map f).Nodup := by
  refine List.pairwise_map.mpr ?_
  rw [List.pairwise_iff_getElem]
  intro i j hi hj hij
  simp only [List.getElem_range]
  exact h i j hij (by simpa using hj)
theorem cells_of_nodup {L : List (List (List Rat))} (h : Fam L) {f : Nat → Int} {n bits : Nat} (hn : (n : Int) = tot L) (hf : ∀ k : Nat, k < n → cb L (Kqg1.dyadic (f k) bits) ≤ k ∧ (k : Int) < cb L (Kqg1.dyadic (f k + 1) bits))
    (nd : ((List.range n).map f).Nodup) {k : Nat} (hk : k < n) : cb L (Kqg1.dyadic (f k) bits) = k ∧ cb L (Kqg1.dyadic (f k + 1) bits) = k + 1 := by
  obtain ⟨h1, h2⟩ := hf k hk
  have nn : 0 ≤ cb L (Kqg1.dyadic (f k) bits) := by
    rw [← count_below h]; omega
  constructor
  · refine Classical.byContradiction fun c => ?_
    have e : ((cb L (Kqg1.dyadic (f k) bits)).toNat : Int) = cb L (Kqg1.dyadic (f k) bits) := by omega
    have hj : (cb L (Kqg1.dyadic (f k) bits)).toNat < n := by omega
    obtain ⟨k1, k2⟩ := hf _ hj
    have := floor_unique h k1 k2 (n := f k) (by omega) (by omega)
    have := nodup_ne nd hj hk this
    omega
  · refine Classical.byContradiction fun c => ?_
    have t := (cb_tot h (Kqg1.dyadic (f k + 1) bits)).1
    have hj : k + 1 < n := by omega
    obtain ⟨k1, k2⟩ := hf (k + 1) hj
    have := floor_unique h k1 k2 (n := f k) (by omega) (by omega)
    have := nodup_ne nd hj hk this
    omega
def JP (p q : List Rat) : List Rat := Kqg2.jointPolynomial p q
theorem sf_joint {p q : List Rat} (hp : Tr p) (np : p ≠ []) (hq : Tr q) (nq : q ≠ []) : Kqg1.multiply p q ≠ [] ∧ Sf (JP p q) (Kqg1.multiply p q) ∧ JP p q ≠ [] := by
  have hm := tr_multiply p q
  have nm : Kqg1.multiply p q ≠ [] := by
    intro zz
    obtain ⟨m, k1, k2, k3⟩ := pmul_len np nq (hp.ld np) (hq.ld nq)
    have tm : Tr m := .inr (by rw [k2]; intro y; rcases mul_zero_cases y with y | y; exact hp.ld np y; exact hq.ld nq y)
    have : m = Kqg1.multiply p q := same_of_ev tm hm fun x => by rw [k3, ev_multiply]
    rw [zz] at this
    rw [this] at k1
    have := List.length_pos_iff.mpr np
    have := List.length_pos_iff.mpr nq
    simp at k1; omega
  have S := sf_spec hm nm
  exact ⟨nm, S, ne_of_dv hm nm S.dv⟩
theorem layers_joint {p q : List Rat} (hp : Tr p) (np : p ≠ []) (hq : Tr q) (nq : q ≠ []) :
    (∀ l ∈ Kqg1.layerChains p, Dv (hd l) (JP p q)) ∧ (∀ l ∈ Kqg1.layerChains q, Dv (hd l) (JP p q)) := by
  obtain ⟨nm, S, nJ⟩ := sf_joint hp np hq nq
  constructor <;> intro l hl <;> obtain ⟨f, hf, rfl⟩ := List.mem_map.mp hl
  · obtain ⟨a, b, c⟩ := layers_spec _ hp np f hf
    rw [hd_chain a b]
    have T := sf_spec a b
    exact T.dv_of (ne_of_dv a b T.dv) S (c.trans ⟨q, fun x => ev_multiply p q x⟩)
  · obtain ⟨a, b, c⟩ := layers_spec _ hq nq f hf
    rw [hd_chain a b]
    have T := sf_spec a b
    exact T.dv_of (ne_of_dv a b T.dv) S (c.trans ⟨p, fun x => by rw [ev_multiply]; grind⟩)
def Sep (J : List Rat) : Prop := ∀ m : Int, cb (Kqg1.layerChains J) (Kqg1.dyadic (m + 1) 32768) - cb (Kqg1.layerChains J) (Kqg1.dyadic m 32768) ≤ 1
theorem joint_spec {p q : List Rat} (hp : Tr p) (np : p ≠ []) (hq : Tr q) (nq : q ≠ []) (sep : Sep (JP p q)) {n : Nat} (hn : (n : Int) = tot (Kqg1.layerChains (JP p q))) {lo hi : Nat → Rat}
    (hl : ∀ k : Nat, k < n → cu (Kqg1.layerChains (JP p q)) (lo k) = k ∧ cu (Kqg1.layerChains (JP p q)) (hi k) = k + 1) :
    Kqg2.jointMultiplicities p q = (List.range n).map fun k => ((cu (Kqg1.layerChains p) (hi k) - cu (Kqg1.layerChains p) (lo k)).toNat, (cu (Kqg1.layerChains q) (hi k) - cu (Kqg1.layerChains q) (lo k)).toNat) := by
  obtain ⟨nm, S, nJ⟩ := sf_joint hp np hq nq
  obtain ⟨dp, dq⟩ := layers_joint hp np hq nq
  obtain ⟨fp, _⟩ := fam_layers hp np
  obtain ⟨fq, _⟩ := fam_layers hq nq
  obtain ⟨fJ, pJ⟩ := fam_layers S.tr nJ
  have bJ := far_rootBound S.tr nJ
  have en : Kqg1.countByChains (Kqg1.layerChains (JP p q)) .minusInfinity .plusInfinity = n := by
    have := count_all fJ; omega
  have fl : ∀ bits (k : Nat), k < n → cb (Kqg1.layerChains (JP p q)) (Kqg1.dyadic (Kqg1.rootFloorByChains (Kqg1.layerChains (JP p q)) (Kqg1.rootBound (JP p q)) k bits) bits) ≤ k ∧
      (k : Int) < cb (Kqg1.layerChains (JP p q)) (Kqg1.dyadic (Kqg1.rootFloorByChains (Kqg1.layerChains (JP p q)) (Kqg1.rootBound (JP p q)) k bits + 1) bits) :=
    fun bits k hk => rootFloor_spec fJ pJ bJ (by omega) bits
  have nd32 : (Kqg2.rootFloors (Kqg1.layerChains (JP p q)) (Kqg1.rootBound (JP p q)) n 32768).Nodup := by
    refine nodup_of fun i j hij hj e => ?_
    have a := fl 32768 i (by omega)
    have b := fl 32768 j hj
    rw [← e] at b
    have := sep (Kqg1.rootFloorByChains (Kqg1.layerChains (JP p q)) (Kqg1.rootBound (JP p q)) i 32768)
    omega
  have nd := bits_nodup (fun bits => Kqg2.rootFloors (Kqg1.layerChains (JP p q)) (Kqg1.rootBound (JP p q)) n bits) nd32
  have un : Kqg2.jointMultiplicities p q = (Kqg2.rootFloors (Kqg1.layerChains (JP p q)) (Kqg1.rootBound (JP p q)) n ((Kqg2.precisions.find? fun bits => decide (Kqg2.rootFloors (Kqg1.layerChains (JP p q)) (Kqg1.rootBound (JP p q)) n bits).Nodup).getD 32768)).map fun m =>
      (Kqg1.countBelowByChains (Kqg1.layerChains p) (Kqg1.dyadic (m + 1) ((Kqg2.precisions.find? fun bits => decide (Kqg2.rootFloors (Kqg1.layerChains (JP p q)) (Kqg1.rootBound (JP p q)) n bits).Nodup).getD 32768)) - Kqg1.countBelowByChains (Kqg1.layerChains p) (Kqg1.dyadic m ((Kqg2.precisions.find? fun bits => decide (Kqg2.rootFloors (Kqg1.layerChains (JP p q)) (Kqg1.rootBound (JP p q)) n bits).Nodup).getD 32768)),
       Kqg1.countBelowByChains (Kqg1.layerChains q) (Kqg1.dyadic (m + 1) ((Kqg2.precisions.find? fun bits => decide (Kqg2.rootFloors (Kqg1.layerChains (JP p q)) (Kqg1.rootBound (JP p q)) n bits).Nodup).getD 32768)) - Kqg1.countBelowByChains (Kqg1.layerChains q) (Kqg1.dyadic m ((Kqg2.precisions.find? fun bits => decide (Kqg2.rootFloors (Kqg1.layerChains (JP p q)) (Kqg1.rootBound (JP p q)) n bits).Nodup).getD 32768))) := by
    rw [← en]; rfl
  rw [un]
  generalize (Kqg2.precisions.find? fun bits => decide (Kqg2.rootFloors (Kqg1.layerChains (JP p q)) (Kqg1.rootBound (JP p q)) n bits).Nodup).getD 32768 = bits at nd ⊢
  unfold Kqg2.rootFloors at nd ⊢
  rw [List.map_map]
  refine List.map_congr_left fun k hk => ?_
  have hk : k < n := by simpa using hk
  obtain ⟨c1, c2⟩ := cells_of_nodup fJ (f := fun k => Kqg1.rootFloorByChains (Kqg1.layerChains (JP p q)) (Kqg1.rootBound (JP p q)) k bits) hn (fl bits) nd hk
  obtain ⟨l1, l2⟩ := hl k hk
  have lJ : Kqg1.layerChains (JP p q) = [Kqg1.sturmChain (JP p q)] := by
    rw [layers_sq S.tr nJ S.sq] at hn ⊢
    by_cases c : (JP p q).length ≤ 1
    · rw [if_pos c] at hn
      have : tot [] = 0 := rfl
      omega
    · rw [if_neg c]
  have ctJ := ct_spec S.tr nJ
  rw [squarefree_id S.tr nJ S.sq] at ctJ
  have eJ : hd (Kqg1.sturmChain (JP p q)) = JP p q := by rw [hd_chain S.tr nJ, squarefree_id S.tr nJ S.sq]
  rw [lJ] at c1 c2 l1 l2
  rw [lJ]
  rw [lJ] at nd
  have g : ∀ {L : List (List (List Rat))} (hL : Fam L) (d : ∀ l ∈ L, Dv (hd l) (JP p q)),
      cb L (Kqg1.dyadic (Kqg1.rootFloorByChains [Kqg1.sturmChain (JP p q)] (Kqg1.rootBound (JP p q)) k bits) bits) = cu L (lo k) ∧
      cb L (Kqg1.dyadic (Kqg1.rootFloorByChains [Kqg1.sturmChain (JP p q)] (Kqg1.rootBound (JP p q)) k bits + 1) bits) = cu L (hi k) := fun hL d =>
    ⟨val_eq (a := false) (b := true) hL ctJ eJ S.sq d (c1.trans l1.symm), val_eq (a := false) (b := true) hL ctJ eJ S.sq d (c2.trans l2.symm)⟩
  obtain ⟨g1, g2⟩ := g fp dp
  obtain ⟨g3, g4⟩ := g fq dq
  dsimp only [Function.comp_apply]
  have b1 := count_below fp (Kqg1.dyadic (Kqg1.rootFloorByChains [Kqg1.sturmChain (JP p q)] (Kqg1.rootBound (JP p q)) k bits) bits)
  have b2 := count_below fp (Kqg1.dyadic (Kqg1.rootFloorByChains [Kqg1.sturmChain (JP p q)] (Kqg1.rootBound (JP p q)) k bits + 1) bits)
  have b3 := count_below fq (Kqg1.dyadic (Kqg1.rootFloorByChains [Kqg1.sturmChain (JP p q)] (Kqg1.rootBound (JP p q)) k bits) bits)
  have b4 := count_below fq (Kqg1.dyadic (Kqg1.rootFloorByChains [Kqg1.sturmChain (JP p q)] (Kqg1.rootBound (JP p q)) k bits + 1) bits)
  refine Prod.ext ?_ ?_
  · dsimp only
    omega
  · dsimp only
    omega
end Kv
namespace Kv
abbrev zr (p : List Int) : List Rat := p.map fun (x : Int) => (x : Rat)
def cf (p : List Int) (i : Nat) : Int := p.getD i 0
theorem cf_nil (i : Nat) : cf [] i = 0 := by simp [cf]
theorem cf_zero (a : Int) (p : List Int) : cf (a :: p) 0 = a := by simp [cf]
theorem cf_succ (a : Int) (p : List Int) (i : Nat) : cf (a :: p) (i + 1) = cf p i := by simp [cf]
theorem coef_zr : ∀ (p : List Int) (i : Nat), Kqg1.coefficient (zr p) i = (cf p i : Rat)
  | [], i => by rw [cf_nil]; simp [zr, coef_nil]
  | a :: p, 0 => by rw [cf_zero]; exact coef_zero _ _
  | a :: p, i + 1 => by rw [cf_succ, ← coef_zr p i]; exact coef_succ _ _ _
theorem cf_mem {p : List Int} {i : Nat} (h : i < p.length) : cf p i ∈ p := by
  unfold cf
  rw [List.getD_eq_getElem?_getD, List.getElem?_eq_getElem h]
  exact List.getElem_mem h
theorem mem_cf {p : List Int} {c : Int} (h : c ∈ p) : ∃ i, i < p.length ∧ cf p i = c := by
  obtain ⟨i, hi, e⟩ := List.mem_iff_getElem.mp h
  refine ⟨i, hi, ?_⟩
  unfold cf
  rw [List.getD_eq_getElem?_getD, List.getElem?_eq_getElem hi]; exact e
theorem cf_out {p : List Int} {i : Nat} (h : p.length ≤ i) : cf p i = 0 := by
  unfold cf
  rw [List.getD_eq_getElem?_getD, List.getElem?_eq_none h]; rfl
theorem coef_congr {p q : List Rat} (h : ∀ x, ev p x = ev q x) (i : Nat) : Kqg1.coefficient p i = Kqg1.coefficient q i := by
  have t : ∀ (p : List Rat) (i : Nat), Kqg1.coefficient (Kqg1.trim p) i = Kqg1.coefficient p i := by
    intro p
    induction p with
    | nil => intro i; rfl
    | cons a p ih =>
      intro i
      rw [trim_cons]
      by_cases c : Kqg1.trim p = []
      · rw [if_pos c]
        have z := trim_eq_nil c
        have zz : ∀ i, Kqg1.coefficient p i = 0 := fun i => by
          have := ih i
          rw [c, coef_nil] at this
          exact this.symm
        by_cases d : a = 0
        · rw [if_pos d, coef_nil]
          match i with
          | 0 => rw [coef_zero, d]
          | i + 1 => rw [coef_succ, zz]
        · rw [if_neg d]
          match i with
          | 0 => rw [coef_zero, coef_zero]
          | i + 1 => rw [coef_succ, coef_succ, zz, coef_nil]
      · rw [if_neg c]
        match i with
        | 0 => rw [coef_zero, coef_zero]
        | i + 1 => rw [coef_succ, coef_succ, ih]
  have e : Kqg1.trim p = Kqg1.trim q := same_of_ev (tr_trim p) (tr_trim q) fun x => by rw [ev_trim, ev_trim, h]
  rw [← t p, ← t q, e]
def ic : List Int → List Int → Nat → Int
  | [], _, _ => 0
  | a :: _, q, 0 => a * cf q 0
  | a :: p, q, i + 1 => a * cf q (i + 1) + ic p q i
theorem conv_zr : ∀ (p q : List Int) (i : Nat), conv (zr p) (zr q) i = (ic p q i : Rat)
  | [], q, i => by rw [ic]; exact conv_nil _ _
  | a :: p, q, 0 => by
    rw [ic]
    show conv ((a : Rat) :: zr p) (zr q) 0 = _
    rw [conv_zero, coef_zr, Rat.intCast_mul]
  | a :: p, q, i + 1 => by
    rw [ic]
    show conv ((a : Rat) :: zr p) (zr q) (i + 1) = _
    rw [conv_succ, coef_zr, conv_zr p q i, Rat.intCast_add, Rat.intCast_mul]
theorem tab_coef (f : Nat → Rat) : ∀ (n i : Nat), i < n → Kqg1.coefficient (tab f n) i = f i := by
  intro n i h
  unfold Kqg1.coefficient tab
  rw [List.getD_eq_getElem?_getD, List.getElem?_map, List.getElem?_range h]; rfl
theorem ic_of_ev {p q r : List Int} {d c : Rat} (h : ∀ x, d * ev (zr r) x = c * (ev (zr p) x * ev (zr q) x)) (i : Nat) : d * (cf r i : Rat) = c * (ic p q i : Rat) := by
  have h2 : ∀ x, ev (psc d (zr r)) x = ev (psc c (tab (conv (zr p) (zr q)) (p.length + q.length + i + 1))) x := fun x => by
    rw [ev_psc, ev_psc, ev_conv _ _ _ (by simp; omega), h]
  have k := coef_congr h2 i
  have m : ∀ (c : Rat) (l : List Rat) (i : Nat), Kqg1.coefficient (psc c l) i = c * Kqg1.coefficient l i := by
    intro c l
    induction l with
    | nil => intro i; show Kqg1.coefficient [] i = _; rw [coef_nil]; grind
    | cons a l ih =>
      intro i
      show Kqg1.coefficient (c * a :: psc c l) i = _
      match i with
      | 0 => rw [coef_zero, coef_zero]
      | i + 1 => rw [coef_succ, coef_succ, ih]
  rw [m, m, coef_zr, tab_coef _ _ _ (by omega), conv_zr] at k
  exact k
theorem ic_right : ∀ (p : List Int) (b : Int) (q : List Int) (k : Nat), ic p (b :: q) (k + 1) = cf p (k + 1) * b + ic p q k
  | [], b, q, k => by rw [ic, ic, cf_nil]; omega
  | a :: p, b, q, 0 => by
    rw [ic, ic, cf_succ, cf_succ]
    match p with
    | [] => rw [ic, cf_nil]; omega
    | c :: p => rw [ic, cf_zero, cf_zero]; omega
  | a :: p, b, q, k + 1 => by
    rw [ic, ic, ic_right p b q k, cf_succ, cf_succ]; omega
theorem ndvd {m : Nat} {n : Int} : (m : Int) ∣ n ↔ m ∣ n.natAbs := Int.ofNat_dvd_left
def content (p : List Int) : Nat := p.foldl (fun d c => Nat.gcd d c.natAbs) 0
theorem fold_gcd_dvd (d : Nat) : ∀ (p : List Int) (a : Nat), (d ∣ p.foldl (fun d c => Nat.gcd d c.natAbs) a) ↔ (d ∣ a ∧ ∀ c ∈ p, d ∣ c.natAbs)
  | [], a => by simp
  | c :: p, a => by
    rw [List.foldl_cons, fold_gcd_dvd d p, Nat.dvd_gcd_iff]
    constructor
    · rintro ⟨⟨h1, h2⟩, h3⟩
      refine ⟨h1, fun x hx => ?_⟩
      rcases List.mem_cons.mp hx with e | e
      · rw [e]; exact h2
      · exact h3 x e
    · rintro ⟨h1, h2⟩
      exact ⟨⟨h1, h2 c List.mem_cons_self⟩, fun x hx => h2 x (List.mem_cons_of_mem _ hx)⟩
theorem dvd_content {d : Nat} {p : List Int} : d ∣ content p ↔ ∀ c ∈ p, d ∣ c.natAbs := by
  unfold content
  rw [fold_gcd_dvd]; simp
theorem content_dvd {p : List Int} {c : Int} (h : c ∈ p) : content p ∣ c.natAbs := dvd_content.mp (Nat.dvd_refl _) c h
def Prim (p : List Int) : Prop := content p = 1
theorem content_eq_zero {p : List Int} (h : content p = 0) : ∀ c ∈ p, c = 0 := fun c hc => by
  have := content_dvd hc
  rw [h] at this
  have := Nat.eq_zero_of_zero_dvd this
  omega
theorem has_prime {n : Nat} (h : n ≠ 1) : ∃ d, 1 < d ∧ d ∣ n ∧ ∀ a b : Nat, d ∣ a * b → d ∣ a ∨ d ∣ b := by
  have ex : ∃ d, 1 < d ∧ d ∣ n := by
    by_cases c : n = 0
    · exact ⟨2, by omega, by rw [c]; exact Nat.dvd_zero 2⟩
    · exact ⟨n, by omega, Nat.dvd_refl n⟩
  have least : ∀ (N d : Nat), d ≤ N → 1 < d → d ∣ n → ∃ d, 1 < d ∧ d ∣ n ∧ ∀ e, 1 < e → e ∣ n → d ≤ e := by
    intro N
    induction N with
    | zero => intro d h1 h2; omega
    | succ N ih =>
      intro d h1 h2 h3
      by_cases c : ∃ e, 1 < e ∧ e ∣ n ∧ e < d
      · obtain ⟨e, e1, e2, e3⟩ := c
        exact ih e (by omega) e1 e2
      · exact ⟨d, h2, h3, fun e e1 e2 => Classical.byContradiction fun z => c ⟨e, e1, e2, by omega⟩⟩
  obtain ⟨d0, x, y⟩ := ex
  obtain ⟨d, h1, h2, h3⟩ := least d0 d0 (Nat.le_refl _) x y
  refine ⟨d, h1, h2, fun a b hab => ?_⟩
  by_cases c : Nat.gcd d a = 1
  · exact .inr (Nat.Coprime.dvd_of_dvd_mul_left c hab)
  · left
    have g1 : Nat.gcd d a ∣ d := Nat.gcd_dvd_left d a
    have g0 : 0 < Nat.gcd d a := Nat.gcd_pos_of_pos_left a (by omega)
    have := h3 (Nat.gcd d a) (by omega) (Nat.dvd_trans g1 h2)
    have le := Nat.le_of_dvd (by omega) g1
    have e : Nat.gcd d a = d := by omega
    rw [← e]; exact Nat.gcd_dvd_right d a
theorem prime_int {d : Nat} (h : ∀ a b : Nat, d ∣ a * b → d ∣ a ∨ d ∣ b) {a b : Int} (k : (d : Int) ∣ a * b) : (d : Int) ∣ a ∨ (d : Int) ∣ b := by
  rw [ndvd, Int.natAbs_mul] at k
  rcases h _ _ k with e | e
  · exact .inl (ndvd.mpr e)
  · exact .inr (ndvd.mpr e)
theorem all_cf {d : Int} {p : List Int} (h : ∀ i, d ∣ cf p i) : ∀ c ∈ p, d ∣ c := fun c hc => by
  obtain ⟨i, _, e⟩ := mem_cf hc
  rw [← e]; exact h i
theorem gauss_prime {d : Nat} (hd : ∀ a b : Nat, d ∣ a * b → d ∣ a ∨ d ∣ b) : ∀ (n : Nat) (p q : List Int), p.length + q.length ≤ n → (∀ k, (d : Int) ∣ ic p q k) →
    (∀ c ∈ p, (d : Int) ∣ c) ∨ (∀ c ∈ q, (d : Int) ∣ c)
  | _, [], _, _, _ => .inl fun c hc => by simp at hc
  | _, _ :: _, [], _, _ => .inr fun c hc => by simp at hc
  | 0, _ :: _, _ :: _, h, _ => by simp at h
  | n + 1, a :: p, b :: q, h, k => by
    by_cases ha : (d : Int) ∣ a
    · have k2 : ∀ i, (d : Int) ∣ ic p (b :: q) i := fun i => by
        have := k (i + 1)
        rw [ic] at this
        exact (Int.dvd_add_right (Int.dvd_mul_of_dvd_left ha)).mp this
      rcases gauss_prime hd n p (b :: q) (by simp at h ⊢; omega) k2 with r | r
      · left; intro c hc
        rcases List.mem_cons.mp hc with e | e
        · rw [e]; exact ha
        · exact r c e
      · exact .inr r
    · by_cases hb : (d : Int) ∣ b
      · have k2 : ∀ i, (d : Int) ∣ ic (a :: p) q i := fun i => by
          have := k (i + 1)
          rw [ic_right] at this
          exact (Int.dvd_add_right (Int.dvd_mul_of_dvd_right hb)).mp this
        rcases gauss_prime hd n (a :: p) q (by simp at h ⊢; omega) k2 with r | r
        · exact .inl r
        · right; intro c hc
          rcases List.mem_cons.mp hc with e | e
          · rw [e]; exact hb
          · exact r c e
      · exfalso
        have := k 0
        rw [ic, cf_zero] at this
        rcases prime_int hd this with e | e <;> contradiction
theorem gauss {p q : List Int} (hp : Prim p) (hq : Prim q) {d : Nat} (h : ∀ k, (d : Int) ∣ ic p q k) : d = 1 := by
  refine Classical.byContradiction fun z => ?_
  obtain ⟨e, e1, e2, e3⟩ := has_prime z
  rcases gauss_prime e3 _ p q (Nat.le_refl _) fun k => Int.dvd_trans (Int.ofNat_dvd.mpr e2) (h k) with r | r
  · have : e ∣ content p := dvd_content.mpr fun c hc => ndvd.mp (r c hc)
    rw [hp] at this
    have := Nat.dvd_one.mp this
    omega
  · have : e ∣ content q := dvd_content.mpr fun c hc => ndvd.mp (r c hc)
    rw [hq] at this
    have := Nat.dvd_one.mp this
    omega
theorem ev_zr_mul (c : Int) (p : List Int) (x : Rat) : ev (zr (p.map fun a => c * a)) x = (c : Rat) * ev (zr p) x := by
  rw [← ev_psc]
  show ev ((p.map fun a => c * a).map _) x = ev ((p.map _).map _) x
  rw [List.map_map, List.map_map]
  congr 1
  refine List.map_congr_left fun a _ => ?_
  exact Rat.intCast_mul c a
theorem prim_part {p : List Int} (h : ∃ c ∈ p, c ≠ 0) : ∃ (d : Nat) (q : List Int), 0 < d ∧ Prim q ∧ p = q.map fun a => (d : Int) * a := by
  have d0 : content p ≠ 0 := fun z => by
    obtain ⟨c, hc, h0⟩ := h
    exact h0 (content_eq_zero z c hc)
  refine ⟨content p, p.map fun c => c / (content p : Int), by omega, ?_, ?_⟩
  · refine Classical.byContradiction fun z => ?_
    obtain ⟨e, e1, e2, _⟩ := has_prime z
    have : content p * e ∣ content p := dvd_content.mpr fun c hc => by
      have k1 := dvd_content.mp e2 (c / (content p : Int)) (List.mem_map.mpr ⟨c, hc, rfl⟩)
      obtain ⟨w, hw⟩ := k1
      obtain ⟨v, hv⟩ := ndvd.mpr (content_dvd hc)
      have e3 : c / (content p : Int) = v := by rw [hv]; exact Int.mul_ediv_cancel_left v (by omega)
      rw [e3] at hw
      refine ⟨w, ?_⟩
      rw [hv, Int.natAbs_mul, hw, Int.natAbs_natCast, Nat.mul_assoc]
    have le := Nat.le_of_dvd (by omega) this
    have : content p * 2 ≤ content p * e := Nat.mul_le_mul_left _ (by omega)
    omega
  · rw [List.map_map]
    have : ∀ c ∈ p, ((fun a => (content p : Int) * a) ∘ fun c => c / (content p : Int)) c = id c := fun c hc => by
      show (content p : Int) * (c / (content p : Int)) = c
      exact Int.mul_ediv_cancel' (ndvd.mpr (content_dvd hc))
    rw [List.map_congr_left this, List.map_id]
theorem whole : ∀ (p : List Rat), ∃ (D : Nat) (q : List Int), 0 < D ∧ zr q = psc (D : Rat) p ∧ q.length = p.length
  | [] => ⟨1, [], by omega, rfl, rfl⟩
  | c :: p => by
    obtain ⟨D, q, h0, h1, h2⟩ := whole p
    refine ⟨c.den * D, (c.num * D) :: q.map fun a => (c.den : Int) * a, Nat.mul_pos c.den_pos h0, ?_, by simp [h2]⟩
    show ((c.num * (D : Int) : Int) : Rat) :: zr (q.map fun a => (c.den : Int) * a) = ((c.den * D : Nat) : Rat) * c :: psc ((c.den * D : Nat) : Rat) p
    have e := rat_eq c
    congr 1
    · rw [Rat.intCast_mul, Rat.intCast_natCast, ← e, Rat.natCast_mul]; grind
    · have e2 : zr (q.map fun a => (c.den : Int) * a) = psc (c.den : Rat) (zr q) := by
        show (q.map _).map _ = (q.map _).map _
        rw [List.map_map, List.map_map]
        refine List.map_congr_left fun a _ => ?_
        show (((c.den : Int) * a : Int) : Rat) = (c.den : Rat) * (a : Rat)
        rw [Rat.intCast_mul, Rat.intCast_natCast]
      rw [e2, h1]
      show (p.map _).map _ = p.map _
      rw [List.map_map]
      refine List.map_congr_left fun a _ => ?_
      show (c.den : Rat) * ((D : Rat) * a) = ((c.den * D : Nat) : Rat) * a
      rw [Rat.natCast_mul]; grind
theorem nonzero_of_ev {q : List Int} (h : ¬ ∀ x, ev (zr q) x = 0) : ∃ c ∈ q, c ≠ 0 := by
  refine Classical.byContradiction fun z => h fun x => ?_
  have : ∀ (q : List Int), (∀ c ∈ q, c = 0) → ev (zr q) x = 0 := by
    intro q
    induction q with
    | nil => intro _; rfl
    | cons a q ih =>
      intro k
      show ev ((a : Rat) :: zr q) x = 0
      rw [ev_cons, ih fun c hc => k c (List.mem_cons_of_mem _ hc), k a List.mem_cons_self]
      have : ((0 : Int) : Rat) = 0 := rfl
      rw [this]; grind
  exact this q fun c hc => Classical.byContradiction fun k => z ⟨c, hc, k⟩
theorem primitive_of {p : List Rat} (h : ¬ ∀ x, ev p x = 0) : ∃ (q : List Int) (c : Rat), 0 < c ∧ Prim q ∧ q.length = p.length ∧ ∀ x, ev p x = c * ev (zr q) x := by
  obtain ⟨D, q, h0, h1, h2⟩ := whole p
  have hD : (0 : Rat) < (D : Rat) := Rat.natCast_lt_natCast.mpr h0
  have e1 : ∀ x, ev (zr q) x = (D : Rat) * ev p x := fun x => by rw [h1, ev_psc]
  have nz : ¬ ∀ x, ev (zr q) x = 0 := fun k => h fun x => by
    have := k x
    rw [e1] at this
    rcases mul_zero_cases this with y | y
    · grind
    · exact y
  obtain ⟨d, r, d0, pr, e⟩ := prim_part (nonzero_of_ev nz)
  have hd : (0 : Rat) < (d : Rat) := Rat.natCast_lt_natCast.mpr d0
  refine ⟨r, (d : Rat) / (D : Rat), div_ps hd hD, pr, by rw [← h2, e]; simp, fun x => ?_⟩
  have e2 := e1 x
  rw [e, ev_zr_mul, Rat.intCast_natCast] at e2
  have e3 : (d : Rat) / (D : Rat) * (D : Rat) = (d : Rat) := div_mul_self (by grind)
  have e4 : (D : Rat) * ev p x = (D : Rat) * ((d : Rat) / (D : Rat) * ev (zr r) x) := by grind
  rcases mul_zero_cases (x := (D : Rat)) (y := ev p x - (d : Rat) / (D : Rat) * ev (zr r) x) (by grind) with y | y <;> grind
theorem whole_quotient {P s : List Int} {w : List Rat} (hs : Prim s) (h : ∀ x, ev (zr P) x = ev (zr s) x * ev w x) : ∃ W : List Int, W.length = w.length ∧ ∀ x, ev w x = ev (zr W) x := by
  by_cases z : ∀ x, ev w x = 0
  · refine ⟨List.replicate w.length 0, by simp, fun x => ?_⟩
    rw [z]
    have : ∀ n : Nat, ev (zr (List.replicate n 0)) x = 0 := by
      intro n
      induction n with
      | zero => rfl
      | succ n ih =>
        rw [List.replicate_succ]
        show ev (((0 : Int) : Rat) :: zr (List.replicate n 0)) x = 0
        have : ((0 : Int) : Rat) = 0 := rfl
        rw [ev_cons, ih, this]; grind
    rw [this]
  · obtain ⟨D, q, h0, h1, h2⟩ := whole w
    have hD : (0 : Rat) < (D : Rat) := Rat.natCast_lt_natCast.mpr h0
    have e1 : ∀ x, ev (zr q) x = (D : Rat) * ev w x := fun x => by rw [h1, ev_psc]
    have nz : ¬ ∀ x, ev (zr q) x = 0 := fun k => z fun x => by
      have := k x
      rw [e1] at this
      rcases mul_zero_cases this with y | y
      · grind
      · exact y
    obtain ⟨d, r, d0, pr, e⟩ := prim_part (nonzero_of_ev nz)
    have e2 : ∀ x, (D : Rat) * ev (zr P) x = (d : Rat) * (ev (zr s) x * ev (zr r) x) := fun x => by
      have a1 := h x
      have a2 := e1 x
      rw [e, ev_zr_mul, Rat.intCast_natCast] at a2
      grind
    have e3 : ∀ k, (D : Int) * cf P k = (d : Int) * ic s r k := fun k => by
      have := ic_of_ev e2 k
      rw [← Rat.intCast_natCast, ← Rat.intCast_natCast, ← Rat.intCast_mul, ← Rat.intCast_mul] at this
      exact Rat.intCast_inj.mp this
    have e4 : D ∣ d := by
      have g0 : 0 < Nat.gcd D d := Nat.gcd_pos_of_pos_left d h0
      obtain ⟨D', hD'⟩ := Nat.gcd_dvd_left D d
      obtain ⟨d', hd'⟩ := Nat.gcd_dvd_right D d
      have co : Nat.Coprime D' d' := by
        have a := Nat.gcd_mul_left (Nat.gcd D d) D' d'
        rw [← hD', ← hd'] at a
        have : Nat.gcd D d * 1 = Nat.gcd D d * Nat.gcd D' d' := by rw [Nat.mul_one]; exact a
        exact (Nat.eq_of_mul_eq_mul_left g0 this).symm
      have k : ∀ j, (D' : Int) ∣ ic s r j := fun j => by
        have a := e3 j
        have a2 : (Nat.gcd D d : Int) * ((D' : Int) * cf P j) = (Nat.gcd D d : Int) * ((d' : Int) * ic s r j) := by
          rw [← Int.mul_assoc, ← Int.mul_assoc, ← Int.natCast_mul, ← Int.natCast_mul, ← hD', ← hd']; exact a
        have a3 := Int.eq_of_mul_eq_mul_left (by omega) a2
        have a4 : D' ∣ d' * (ic s r j).natAbs := by
          have : ((d' : Int) * ic s r j).natAbs = d' * (ic s r j).natAbs := by rw [Int.natAbs_mul, Int.natAbs_natCast]
          rw [← this, ← a3, Int.natAbs_mul, Int.natAbs_natCast]
          exact Nat.dvd_mul_right _ _
        exact ndvd.mpr (Nat.Coprime.dvd_of_dvd_mul_left co a4)
      have := gauss hs pr k
      rw [this, Nat.mul_one] at hD'
      rw [hD']
      exact Nat.gcd_dvd_right D d
    obtain ⟨m, hm⟩ := e4
    refine ⟨r.map fun a => (m : Int) * a, by rw [List.length_map, ← h2, e, List.length_map], fun x => ?_⟩
    have a := e1 x
    rw [e, ev_zr_mul, Rat.intCast_natCast, hm, Rat.natCast_mul] at a
    rw [ev_zr_mul, Rat.intCast_natCast]
    rcases mul_zero_cases (x := (D : Rat)) (y := ev w x - (m : Rat) * ev (zr r) x) (by grind) with y | y <;> grind
end Kv
namespace Kv
theorem pigeon : ∀ (L K : Nat) (f : Nat → Nat), (∀ i, i < K → f i < L) → L < K → ∃ i j, i < j ∧ j < K ∧ f i = f j
  | 0, K, f, h, k => by have := h 0 (by omega); omega
  | L + 1, K, f, h, k => by
    by_cases c : ∃ i, i < K - 1 ∧ f i = f (K - 1)
    · obtain ⟨i, h1, h2⟩ := c
      exact ⟨i, K - 1, h1, by omega, h2⟩
    · have c' : ∀ i, i < K - 1 → f i ≠ f (K - 1) := fun i h1 h2 => c ⟨i, h1, h2⟩
      obtain ⟨i, j, h1, h2, h3⟩ := pigeon L (K - 1) (fun i => if f i = L then f (K - 1) else f i) (fun i hi => by
        have a := h i (by omega)
        have b := h (K - 1) (by omega)
        have d := c' i hi
        split <;> omega) (by omega)
      refine ⟨i, j, h1, by omega, ?_⟩
      have a := c' i (by omega)
      have b := c' j h2
      split at h3 <;> split at h3 <;> omega
def enc (M : Nat) : List Nat → Nat
  | [] => 0
  | a :: l => a + M * enc M l
theorem enc_lt {M : Nat} : ∀ {l : List Nat}, (∀ a ∈ l, a < M) → enc M l < M ^ l.length
  | [], _ => by simp [enc]
  | a :: l, h => by
    have h1 := h a List.mem_cons_self
    have h2 := enc_lt (l := l) fun b hb => h b (List.mem_cons_of_mem _ hb)
    have h3 : M * (enc M l + 1) ≤ M * M ^ l.length := Nat.mul_le_mul_left _ h2
    rw [enc, List.length_cons, Nat.pow_succ, Nat.mul_comm (M ^ l.length)]
    rw [Nat.mul_add] at h3
    omega
theorem enc_inj {M : Nat} : ∀ {l k : List Nat}, l.length = k.length → (∀ a ∈ l, a < M) → (∀ a ∈ k, a < M) → enc M l = enc M k → l = k
  | [], [], _, _, _, _ => rfl
  | [], _ :: _, h, _, _, _ => by simp at h
  | _ :: _, [], h, _, _, _ => by simp at h
  | a :: l, b :: k, h, h1, h2, e => by
    have a1 := h1 a List.mem_cons_self
    have b1 := h2 b List.mem_cons_self
    rw [enc, enc] at e
    have m1 : (a + M * enc M l) % M = a := by rw [Nat.add_mul_mod_self_left, Nat.mod_eq_of_lt a1]
    have m2 : (b + M * enc M k) % M = b := by rw [Nat.add_mul_mod_self_left, Nat.mod_eq_of_lt b1]
    have d1 : (a + M * enc M l) / M = enc M l := by rw [Nat.add_mul_div_left _ _ (by omega), Nat.div_eq_of_lt a1]; omega
    have d2 : (b + M * enc M k) / M = enc M k := by rw [Nat.add_mul_div_left _ _ (by omega), Nat.div_eq_of_lt b1]; omega
    have e1 : a = b := by rw [← m1, ← m2, e]
    have e2 : enc M l = enc M k := by rw [← d1, ← d2, e]
    rw [e1, enc_inj (by simpa using h) (fun c hc => h1 c (List.mem_cons_of_mem _ hc)) (fun c hc => h2 c (List.mem_cons_of_mem _ hc)) e2]
def dig (Y : Nat) : Nat → Nat → List Nat
  | 0, _ => []
  | n + 1, i => (i % Y) :: dig Y n (i / Y)
theorem dig_len (Y : Nat) : ∀ (n i : Nat), (dig Y n i).length = n
  | 0, _ => rfl
  | n + 1, i => by rw [dig, List.length_cons, dig_len Y n]
theorem dig_lt {Y : Nat} (hY : 0 < Y) : ∀ (n i : Nat), ∀ a ∈ dig Y n i, a < Y
  | 0, _, a, h => by simp [dig] at h
  | n + 1, i, a, h => by
    rw [dig] at h
    rcases List.mem_cons.mp h with e | e
    · rw [e]; exact Nat.mod_lt _ hY
    · exact dig_lt hY n _ a e
theorem dig_inj {Y : Nat} (hY : 0 < Y) : ∀ (n i j : Nat), i < Y ^ n → j < Y ^ n → dig Y n i = dig Y n j → i = j
  | 0, i, j, h1, h2, _ => by simp at h1 h2; omega
  | n + 1, i, j, h1, h2, e => by
    rw [dig, dig] at e
    have e1 := (List.cons.inj e).1
    have e2 := dig_inj hY n (i / Y) (j / Y) (Nat.div_lt_of_lt_mul (by rw [Nat.mul_comm]; exact h1)) (Nat.div_lt_of_lt_mul (by rw [Nat.mul_comm]; exact h2)) (List.cons.inj e).2
    rw [← Nat.div_add_mod i Y, ← Nat.div_add_mod j Y, e1, e2]
def lsub : List Int → List Int → List Int
  | a :: p, b :: q => (a - b) :: lsub p q
  | _, _ => []
theorem lsub_len : ∀ {p q : List Int}, p.length = q.length → (lsub p q).length = p.length
  | [], [], _ => rfl
  | [], _ :: _, h => by simp at h
  | _ :: _, [], h => by simp at h
  | a :: p, b :: q, h => by rw [lsub, List.length_cons, lsub_len (by simpa using h), List.length_cons]
theorem ic_lsub : ∀ {p q : List Int} (f : List Int) (k : Nat), p.length = q.length → ic (lsub p q) f k = ic p f k - ic q f k
  | [], [], f, k, _ => by rw [lsub, ic]; rfl; simp
  | [], _ :: _, _, _, h => by simp at h
  | _ :: _, [], _, _, h => by simp at h
  | a :: p, b :: q, f, 0, _ => by rw [lsub, ic, ic, ic, Int.sub_mul]
  | a :: p, b :: q, f, k + 1, h => by
    rw [lsub, ic, ic, ic, ic_lsub f k (by simpa using h), Int.sub_mul]; omega
theorem lsub_bound {Y : Nat} : ∀ {p q : List Int}, (∀ c ∈ p, 0 ≤ c ∧ c < Y) → (∀ c ∈ q, 0 ≤ c ∧ c < Y) → ∀ c ∈ lsub p q, c.natAbs ≤ Y
  | [], q, _, _, c, h => by simp [lsub] at h
  | _ :: _, [], _, _, c, h => by simp [lsub] at h
  | a :: p, b :: q, h1, h2, c, h => by
    rw [lsub] at h
    rcases List.mem_cons.mp h with e | e
    · have := h1 a List.mem_cons_self
      have := h2 b List.mem_cons_self
      omega
    · exact lsub_bound (fun c hc => h1 c (List.mem_cons_of_mem _ hc)) (fun c hc => h2 c (List.mem_cons_of_mem _ hc)) c e
theorem lsub_zero : ∀ {p q : List Int}, p.length = q.length → (∀ c ∈ lsub p q, c = 0) → p = q
  | [], [], _, _ => rfl
  | [], _ :: _, h, _ => by simp at h
  | _ :: _, [], h, _ => by simp at h
  | a :: p, b :: q, h, k => by
    rw [lsub] at k
    have := k (a - b) List.mem_cons_self
    rw [lsub_zero (p := p) (q := q) (by simpa using h) fun c hc => k c (List.mem_cons_of_mem _ hc), show a = b by omega]
theorem ic_bound {H X : Nat} {f : List Int} (hf : ∀ c ∈ f, c.natAbs ≤ H) : ∀ {u : List Int}, (∀ c ∈ u, c.natAbs ≤ X) → ∀ k, (ic u f k).natAbs ≤ u.length * (X * H)
  | [], _, k => by rw [ic]; simp
  | a :: u, h, k => by
    have ha := h a List.mem_cons_self
    have cfb : ∀ i, (cf f i).natAbs ≤ H := fun i => by
      by_cases c : i < f.length
      · exact hf _ (cf_mem c)
      · rw [cf_out (by omega)]; simp
    have e : ∀ i, (a * cf f i).natAbs ≤ X * H := fun i => by rw [Int.natAbs_mul]; exact Nat.mul_le_mul ha (cfb i)
    match k with
    | 0 =>
      rw [ic, List.length_cons, Nat.add_mul]
      have := e 0; omega
    | k + 1 =>
      have ih := ic_bound hf (u := u) (fun c hc => h c (List.mem_cons_of_mem _ hc)) k
      rw [ic, List.length_cons, Nat.add_mul]
      have := e (k + 1); omega
theorem ev_tab_zero' {f : Nat → Rat} : ∀ (n : Nat), (∀ i, i < n → f i = 0) → ∀ t, ev (tab f n) t = 0
  | 0, _, _ => rfl
  | n + 1, h, t => by
    rw [tab_succ, ev_cons, h 0 (by omega), ev_tab_zero' n (fun i hi => h (i + 1) (by omega)) t]; grind
theorem siegel {f g : List Int} {m n H : Nat} (lf : f.length = n + 1) (lg : g.length = m + 1) (hN : 0 < m + n) (hH : 0 < H) (hf : ∀ c ∈ f, c.natAbs ≤ H) (hg : ∀ c ∈ g, c.natAbs ≤ H) :
    ∃ u v : List Int, u.length = m ∧ v.length = n ∧ (∀ c ∈ u, c.natAbs ≤ (2 * (m + n) * H) ^ (m + n)) ∧ (∀ c ∈ v, c.natAbs ≤ (2 * (m + n) * H) ^ (m + n)) ∧ (∃ c ∈ u ++ v, c ≠ 0) ∧
      ∃ R : Int, ∀ x, ev (zr u) x * ev (zr f) x + ev (zr v) x * ev (zr g) x = (R : Rat) := by
  generalize hNN : m + n = N at *
  generalize hY : (2 * N * H) ^ N = Y
  have NH : 0 < N * H := Nat.mul_pos hN hH
  have assoc : 2 * N * H = 2 * (N * H) := Nat.mul_assoc _ _ _
  have Y0 : 0 < Y := by rw [← hY]; exact Nat.pow_pos (by omega)
  let x : Nat → List Int := fun i => (dig Y N i).map fun (a : Nat) => (a : Int)
  have xl : ∀ i, (x i).length = N := fun i => by simp [x, dig_len]
  have xb : ∀ i, ∀ c ∈ x i, 0 ≤ c ∧ c < Y := fun i c hc => by
    obtain ⟨a, ha, rfl⟩ := List.mem_map.mp hc
    have := dig_lt Y0 N i a ha
    omega
  let T : List Int → Nat → Int := fun l k => ic (l.take m) f k + ic (l.drop m) g k
  have Tb : ∀ i k, (T (x i) k).natAbs ≤ N * ((Y - 1) * H) := fun i k => by
    have t1 := ic_bound (X := Y - 1) hf (u := (x i).take m) (fun c hc => by have := xb i c (List.mem_of_mem_take hc); omega) k
    have t2 := ic_bound (X := Y - 1) hg (u := (x i).drop m) (fun c hc => by have := xb i c (List.mem_of_mem_drop hc); omega) k
    rw [List.length_take, xl] at t1
    rw [List.length_drop, xl] at t2
    have e : min m N + (N - m) = N := by omega
    have e2 : N * ((Y - 1) * H) = min m N * ((Y - 1) * H) + (N - m) * ((Y - 1) * H) := by rw [← Nat.add_mul, e]
    show (ic _ _ _ + ic _ _ _).natAbs ≤ _
    omega
  have e4 : N * (Y * H) = N * ((Y - 1) * H) + N * H := by
    have e3 : Y * H = (Y - 1) * H + H := by
      have : (Y - 1 + 1) * H = (Y - 1) * H + H := by rw [Nat.add_mul, Nat.one_mul]
      rwa [show Y - 1 + 1 = Y by omega] at this
    rw [e3, Nat.mul_add]
  let im : Nat → List Nat := fun i => (List.range (N - 1)).map fun k => (T (x i) (k + 1) + (N * (Y * H) : Nat)).toNat
  have imb : ∀ i, ∀ a ∈ im i, a < 2 * N * H * Y := fun i a ha => by
    obtain ⟨k, _, rfl⟩ := List.mem_map.mp ha
    have := Tb i (k + 1)
    have e5 : 2 * N * H * Y = 2 * (N * (Y * H)) := by rw [Nat.mul_comm Y H, Nat.mul_assoc, Nat.mul_assoc]
    omega
  have iml : ∀ i, (im i).length = N - 1 := fun i => by simp [im]
  have small : (2 * N * H * Y) ^ (N - 1) < Y ^ N := by
    have e : N = (N - 1) + 1 := by omega
    have h1 : (2 * N * H) ^ (N - 1) < Y := by
      rw [← hY]
      exact Nat.pow_lt_pow_right (by omega) (by omega)
    rw [Nat.mul_pow]
    have e6 : Y ^ N = Y * Y ^ (N - 1) := by
      rw [Nat.mul_comm, ← Nat.pow_succ, Nat.succ_eq_add_one, ← e]
    rw [e6]
    exact Nat.mul_lt_mul_of_pos_right h1 (Nat.pow_pos Y0)
  obtain ⟨i, j, hij, hj, e⟩ := pigeon ((2 * N * H * Y) ^ (N - 1)) (Y ^ N) (fun i => enc (2 * N * H * Y) (im i)) (fun i _ => by
    have := enc_lt (imb i)
    rwa [iml] at this) small
  have ei : im i = im j := enc_inj (by rw [iml, iml]) (imb i) (imb j) e
  have tk : ∀ k, k < N - 1 → T (x i) (k + 1) = T (x j) (k + 1) := fun k hk => by
    have h1 := List.map_inj_left.mp ei k (by simpa using hk)
    have a := Tb i (k + 1)
    have b := Tb j (k + 1)
    omega
  have l1 : ((x i).take m).length = ((x j).take m).length := by rw [List.length_take, List.length_take, xl, xl]
  have l2 : ((x i).drop m).length = ((x j).drop m).length := by rw [List.length_drop, List.length_drop, xl, xl]
  have lu : (lsub ((x i).take m) ((x j).take m)).length = m := by rw [lsub_len l1, List.length_take, xl]; omega
  have lv : (lsub ((x i).drop m) ((x j).drop m)).length = n := by rw [lsub_len l2, List.length_drop, xl]; omega
  refine ⟨lsub ((x i).take m) ((x j).take m), lsub ((x i).drop m) ((x j).drop m), lu, lv,
    lsub_bound (fun c hc => xb i c (List.mem_of_mem_take hc)) (fun c hc => xb j c (List.mem_of_mem_take hc)),
    lsub_bound (fun c hc => xb i c (List.mem_of_mem_drop hc)) (fun c hc => xb j c (List.mem_of_mem_drop hc)), ?_,
    T (x i) 0 - T (x j) 0, fun t => ?_⟩
  · refine Classical.byContradiction fun z => ?_
    have z' : ∀ c ∈ lsub ((x i).take m) ((x j).take m) ++ lsub ((x i).drop m) ((x j).drop m), c = 0 := fun c hc => Classical.byContradiction fun k => z ⟨c, hc, k⟩
    have a := lsub_zero l1 fun c hc => z' c (List.mem_append_left _ hc)
    have b := lsub_zero l2 fun c hc => z' c (List.mem_append_right _ hc)
    have : x i = x j := by rw [← List.take_append_drop m (x i), ← List.take_append_drop m (x j), a, b]
    have : dig Y N i = dig Y N j := by
      have inj : ∀ (l k : List Nat), l.map (fun (a : Nat) => (a : Int)) = k.map (fun (a : Nat) => (a : Int)) → l = k := by
        intro l
        induction l with
        | nil => intro k h; simp at h; exact h.symm
        | cons a l ih =>
          intro k h
          match k with
          | [] => simp at h
          | b :: k =>
            have h' := List.cons.inj h
            rw [ih k h'.2, Int.ofNat.inj h'.1]
      exact inj _ _ this
    have := dig_inj Y0 N i j (by omega) hj this
    omega
  · rw [← ev_conv _ _ N (by simp; omega), ← ev_conv _ _ N (by simp; omega), ← ev_tab_add]
    obtain ⟨N', hN'⟩ : ∃ N', N = N' + 1 := ⟨N - 1, by omega⟩
    have val : ∀ k, conv (zr (lsub ((x i).take m) ((x j).take m))) (zr f) k + conv (zr (lsub ((x i).drop m) ((x j).drop m))) (zr g) k = ((T (x i) k - T (x j) k : Int) : Rat) := fun k => by
      rw [conv_zr, conv_zr, ic_lsub f k l1, ic_lsub g k l2, ← Rat.intCast_add]
      congr 1
      show _ = (ic _ _ _ + ic _ _ _) - (ic _ _ _ + ic _ _ _)
      omega
    rw [hN', tab_succ, ev_cons, ev_tab_zero' N' (fun k hk => by
      rw [val, tk k (by omega), Int.sub_self]; rfl), val]
    grind
end Kv
namespace Kv
def iv : List Int → Int → Int
  | [], _ => 0
  | c :: p, x => c + x * iv p x
theorem ev_iv : ∀ (p : List Int) (x : Int), ev (zr p) (x : Rat) = (iv p x : Rat)
  | [], x => rfl
  | c :: p, x => by
    show ev ((c : Rat) :: zr p) (x : Rat) = _
    rw [ev_cons, ev_iv p x, iv, Rat.intCast_add, Rat.intCast_mul]
def syn (r : Int) : List Int → List Int
  | [] => []
  | [_] => []
  | _ :: b :: p => iv (b :: p) r :: syn r (b :: p)
theorem syn_len (r : Int) : ∀ (p : List Int), (syn r p).length = p.length - 1
  | [] => rfl
  | [_] => rfl
  | a :: b :: p => by rw [syn, List.length_cons, syn_len r (b :: p)]; simp
theorem iv_syn (r x : Int) : ∀ (p : List Int), iv p x = iv p r + (x - r) * iv (syn r p) x
  | [] => by simp [iv, syn]
  | [a] => by simp [iv, syn]
  | a :: b :: p => by
    have ih := iv_syn r x (b :: p)
    have e1 : iv (a :: b :: p) x = a + x * iv (b :: p) x := rfl
    have e2 : iv (a :: b :: p) r = a + r * iv (b :: p) r := rfl
    have e3 : iv (syn r (a :: b :: p)) x = iv (b :: p) r + x * iv (syn r (b :: p)) x := rfl
    rw [e1, e2, e3, ih]
    generalize iv (b :: p) r = P at *
    generalize iv (syn r (b :: p)) x = S at *
    grind
theorem syn_coef {r : Int} {X H M : Nat} (hr : r.natAbs ≤ X) : ∀ {p : List Int}, (iv p r).natAbs ≤ M → (∀ c ∈ syn r p, c.natAbs ≤ H) → ∀ c ∈ p, c.natAbs ≤ M + X * H + H
  | [], _, _, c, h => by simp at h
  | [a], h1, _, c, h => by
    simp at h
    simp [iv] at h1
    rw [h]
    have := Nat.zero_le (X * H)
    omega
  | a :: b :: p, h1, h2, c, h => by
    rw [syn] at h2
    have h3 := h2 _ List.mem_cons_self
    have rb : (r * iv (b :: p) r).natAbs ≤ X * H := by rw [Int.natAbs_mul]; exact Nat.mul_le_mul hr h3
    rcases List.mem_cons.mp h with e | e
    · rw [iv] at h1
      rw [e]; omega
    ·
      have := syn_coef (M := H) (X := X) (H := H) hr (p := b :: p) h3 (fun d hd => h2 d (List.mem_cons_of_mem _ hd)) c e
      exact Nat.le_trans (syn_tail hr (fun d hd => h2 d (List.mem_cons_of_mem _ hd)) h3 c e) (by omega)
where
  syn_tail {r : Int} {X H : Nat} (hr : r.natAbs ≤ X) : ∀ {p : List Int}, (∀ c ∈ syn r p, c.natAbs ≤ H) → (iv p r).natAbs ≤ H → ∀ c ∈ p, c.natAbs ≤ X * H + H
  | [], _, _, c, h => by simp at h
  | [a], _, h1, c, h => by
    simp at h
    simp [iv] at h1
    rw [h]; omega
  | a :: b :: p, h2, h1, c, h => by
    rw [syn] at h2
    have h3 := h2 _ List.mem_cons_self
    have rb : (r * iv (b :: p) r).natAbs ≤ X * H := by rw [Int.natAbs_mul]; exact Nat.mul_le_mul hr h3
    rcases List.mem_cons.mp h with e | e
    · rw [iv] at h1
      rw [e]; omega
    · exact syn_tail hr (fun d hd => h2 d (List.mem_cons_of_mem _ hd)) h3 c e
theorem interp {X M : Nat} : ∀ (n : Nat) {p : List Int} {xs : List Int}, p.length ≤ n → xs.Nodup → n ≤ xs.length → (∀ x ∈ xs, x.natAbs ≤ X ∧ (iv p x).natAbs ≤ M) → ∀ c ∈ p, c.natAbs ≤ (2 * X + 3) ^ n * M
  | 0, p, xs, h, _, _, _, c, hc => by
    have : p = [] := List.length_eq_zero_iff.mp (by omega)
    rw [this] at hc; simp at hc
  | n + 1, p, [], _, _, h, _, c, _ => by simp at h
  | n + 1, p, r :: xs, h, nd, hl, hv, c, hc => by
    obtain ⟨r1, r2⟩ := hv r List.mem_cons_self
    have nd' := List.nodup_cons.mp nd
    have sv : ∀ x ∈ xs, x.natAbs ≤ X ∧ (iv (syn r p) x).natAbs ≤ 2 * M := fun x hx => by
      obtain ⟨x1, x2⟩ := hv x (List.mem_cons_of_mem _ hx)
      refine ⟨x1, ?_⟩
      have e := iv_syn r x p
      have ne : x - r ≠ 0 := fun z => nd'.1 (by rw [show r = x by omega]; exact hx)
      have k : ((x - r) * iv (syn r p) x).natAbs ≤ 2 * M := by omega
      rw [Int.natAbs_mul] at k
      have : 1 * (iv (syn r p) x).natAbs ≤ (x - r).natAbs * (iv (syn r p) x).natAbs := Nat.mul_le_mul_right _ (by omega)
      omega
    have ih := interp n (p := syn r p) (xs := xs) (M := 2 * M) (X := X) (by rw [syn_len]; omega) nd'.2 (by simpa using hl) sv
    have := syn_coef r1 r2 ih c hc
    have e : (2 * X + 3) ^ (n + 1) * M = (2 * X + 3) * ((2 * X + 3) ^ n * M) := by rw [Nat.pow_succ, Nat.mul_comm ((2 * X + 3) ^ n), Nat.mul_assoc]
    have e2 : (2 * X + 3) ^ n * (2 * M) = 2 * ((2 * X + 3) ^ n * M) := by rw [Nat.mul_left_comm]
    have e3 : X * (2 * ((2 * X + 3) ^ n * M)) = 2 * X * ((2 * X + 3) ^ n * M) := by rw [← Nat.mul_assoc, Nat.mul_comm X 2]
    have p1 : M ≤ (2 * X + 3) ^ n * M := Nat.le_mul_of_pos_left _ (Nat.pow_pos (by omega))
    rw [e2, e3] at this
    rw [e, Nat.add_mul]
    omega
theorem zeros_lt : ∀ (n : Nat) {p : List Int} {xs : List Int}, p.length ≤ n → (¬ ∀ x : Int, iv p x = 0) → xs.Nodup → (∀ x ∈ xs, iv p x = 0) → xs.length < n
  | 0, p, xs, h, nz, _, _ => by
    have : p = [] := List.length_eq_zero_iff.mp (by omega)
    exact absurd (fun x => by rw [this]; rfl) nz
  | n + 1, p, [], _, _, _, _ => by simp
  | n + 1, p, r :: xs, h, nz, nd, hz => by
    have nd' := List.nodup_cons.mp nd
    have r0 := hz r List.mem_cons_self
    have := zeros_lt n (p := syn r p) (xs := xs) (by rw [syn_len]; omega) (fun z => nz fun x => by
      rw [iv_syn r x p, r0, z]; simp) nd'.2 fun x hx => by
        have e := iv_syn r x p
        rw [r0, hz x (List.mem_cons_of_mem _ hx), Int.zero_add] at e
        rcases Int.mul_eq_zero.mp e.symm with z | z
        · exact absurd (by rw [show r = x by omega]; exact hx) nd'.1
        · exact z
    simp; omega
theorem iv_bound {X H : Nat} {x : Int} (hx : x.natAbs ≤ X) : ∀ {p : List Int}, (∀ c ∈ p, c.natAbs ≤ H) → (iv p x).natAbs ≤ H * (X + 1) ^ p.length
  | [], _ => by simp [iv]
  | c :: p, h => by
    have ih := iv_bound hx (p := p) fun d hd => h d (List.mem_cons_of_mem _ hd)
    have hc := h c List.mem_cons_self
    have k : (x * iv p x).natAbs ≤ X * (H * (X + 1) ^ p.length) := by rw [Int.natAbs_mul]; exact Nat.mul_le_mul hx ih
    have p1 : H ≤ H * (X + 1) ^ p.length := Nat.le_mul_of_pos_right _ (Nat.pow_pos (by omega))
    rw [iv, List.length_cons, Nat.pow_succ, ← Nat.mul_assoc, Nat.mul_comm _ (X + 1), Nat.add_mul]
    omega
theorem divisor_bound {P s W : List Int} {H : Nat} (hP : P.length ≤ 7) (hs : s.length ≤ 7) (hH : ∀ c ∈ P, c.natAbs ≤ H) (nz : ¬ ∀ x, ev (zr P) x = 0) (h : ∀ x, ev (zr P) x = ev (zr s) x * ev (zr W) x) :
    ∀ c ∈ s, c.natAbs ≤ 27 ^ 7 * (H * 13 ^ 7) := by
  have nz' : ¬ ∀ x : Int, iv P x = 0 := fun z => nz fun x => by
    have : ∀ c ∈ P, c = 0 := by
      refine fun c hc => ?_
      have := interp (X := 7) (M := 0) 7 (p := P) (xs := [0, 1, 2, 3, 4, 5, 6]) hP (by decide) (by decide) (fun x hx => ⟨by
        simp at hx; omega, by rw [z]; simp⟩) c hc
      omega
    have g : ∀ (q : List Int), (∀ c ∈ q, c = 0) → ev (zr q) x = 0 := by
      intro q
      induction q with
      | nil => intro _; rfl
      | cons a q ih =>
        intro k
        show ev ((a : Rat) :: zr q) x = 0
        rw [ev_cons, ih fun c hc => k c (List.mem_cons_of_mem _ hc), k a List.mem_cons_self]
        have : ((0 : Int) : Rat) = 0 := rfl
        rw [this]; grind
    exact g P this
  have places : ∃ xs : List Int, xs.Nodup ∧ 7 ≤ xs.length ∧ ∀ x ∈ xs, x.natAbs ≤ 12 ∧ iv P x ≠ 0 := by
    have nd : ([0, 1, 2, 3, 4, 5, 6, 7, 8, 9, 10, 11, 12] : List Int).Nodup := by decide
    refine ⟨([0, 1, 2, 3, 4, 5, 6, 7, 8, 9, 10, 11, 12] : List Int).filter fun x => decide (iv P x ≠ 0), nd.filter _, ?_, fun x hx => ?_⟩
    · have k := zeros_lt 7 (p := P) (xs := ([0, 1, 2, 3, 4, 5, 6, 7, 8, 9, 10, 11, 12] : List Int).filter fun x => !(decide (iv P x ≠ 0))) hP nz' (nd.filter _) fun x hx => by
        have := (List.mem_filter.mp hx).2
        simpa using this
      have len : ∀ (l : List Int) (f : Int → Bool), (l.filter f).length + (l.filter fun x => !(f x)).length = l.length := by
        intro l f
        induction l with
        | nil => rfl
        | cons a l ih =>
          rw [List.filter_cons, List.filter_cons]
          cases f a <;> simp <;> omega
      have := len [0, 1, 2, 3, 4, 5, 6, 7, 8, 9, 10, 11, 12] fun x => decide (iv P x ≠ 0)
      have : ([0, 1, 2, 3, 4, 5, 6, 7, 8, 9, 10, 11, 12] : List Int).length = 13 := rfl
      omega
    · obtain ⟨a, b⟩ := List.mem_filter.mp hx
      exact ⟨by simp at a; omega, by simpa using b⟩
  obtain ⟨xs, n1, n2, n3⟩ := places
  have := interp (X := 12) (M := H * 13 ^ 7) 7 (p := s) (xs := xs) hs n1 n2 fun x hx => by
    obtain ⟨a, b⟩ := n3 x hx
    refine ⟨a, ?_⟩
    have e := h (x : Rat)
    rw [ev_iv, ev_iv, ev_iv, ← Rat.intCast_mul] at e
    have e2 : iv P x = iv s x * iv W x := Rat.intCast_inj.mp e
    have e3 : (iv P x).natAbs = (iv s x).natAbs * (iv W x).natAbs := by rw [e2, Int.natAbs_mul]
    have w0 : 0 < (iv W x).natAbs := by
      refine Nat.pos_of_ne_zero fun z => b ?_
      rw [e2, show iv W x = 0 by omega]; simp
    have k := iv_bound a hH
    have le : (iv s x).natAbs * 1 ≤ (iv s x).natAbs * (iv W x).natAbs := Nat.mul_le_mul_left _ w0
    have pw : H * (12 + 1) ^ P.length ≤ H * 13 ^ 7 := Nat.mul_le_mul_left _ (Nat.pow_le_pow_right (by omega) hP)
    omega
  exact this
end Kv
namespace Kv
def e2 (n : Nat) : Rat := ((2 ^ n : Nat) : Rat)
theorem e2_pos (n : Nat) : 0 < e2 n := pow2_pos n
theorem e2_add (a b : Nat) : e2 (a + b) = e2 a * e2 b := by
  unfold e2
  rw [Nat.pow_add, Rat.natCast_mul]
theorem e2_le {a b : Nat} (h : a ≤ b) : e2 a ≤ e2 b := by
  unfold e2
  exact Rat.natCast_le_natCast.mpr (Nat.pow_le_pow_right (by omega) h)
theorem e2_one : e2 1 = 2 := rfl
theorem e2_zero : e2 0 = 1 := rfl
theorem e2_ge (n : Nat) : 1 ≤ e2 n := by rw [← e2_zero]; exact e2_le (by omega)
theorem ab_cast (c : Int) : ab (c : Rat) = ((c.natAbs : Nat) : Rat) := by
  by_cases h : 0 ≤ c
  · have : ((0 : Int) : Rat) ≤ (c : Rat) := cast_le h
    rw [ab_of_nn this, ← Rat.intCast_natCast, show ((c.natAbs : Nat) : Int) = c by omega]
  · have : (c : Rat) < ((0 : Int) : Rat) := cast_lt (by omega)
    have z : ((0 : Int) : Rat) = 0 := rfl
    rw [z] at this
    rw [← ab_neg, ab_of_nn (by grind), ← Rat.intCast_natCast, ← Rat.intCast_neg, show ((c.natAbs : Nat) : Int) = -c by omega]
def Ht (p : List Int) (h : Nat) : Prop := ∀ c ∈ p, c.natAbs ≤ 2 ^ h
theorem Ht.ab {p : List Int} {h : Nat} (k : Ht p h) : ∀ c ∈ zr p, ab c ≤ e2 h := fun c hc => by
  obtain ⟨a, ha, rfl⟩ := List.mem_map.mp hc
  rw [ab_cast]
  exact Rat.natCast_le_natCast.mpr (k a ha)
def qp (x : Rat) : Nat → Rat
  | 0 => 1
  | n + 1 => x * qp x n
theorem qp_ge {x : Rat} (h : 1 ≤ x) : ∀ n, 1 ≤ qp x n
  | 0 => by rw [qp]; grind
  | n + 1 => by
    have := mul_le (show 0 ≤ (1 : Rat) by decide) h (show 0 ≤ (1 : Rat) by decide) (qp_ge h n)
    rw [qp]; grind
theorem mb_le {B H : Rat} (hB : 0 ≤ B) (hH : 0 ≤ H) : ∀ {p : List Rat}, (∀ c ∈ p, ab c ≤ H) → mb B p ≤ H * qp (B + 1) p.length
  | [], _ => by rw [mb]; exact mul_nn hH (by have := qp_ge (x := B + 1) (by grind) 0; exact (show (0 : Rat) ≤ qp (B + 1) 0 by grind))
  | c :: p, h => by
    have ih := mb_le hB hH (p := p) fun d hd => h d (List.mem_cons_of_mem _ hd)
    have hc := h c List.mem_cons_self
    have k1 := mul_le_l hB ih
    have k2 := mul_le_l hH (qp_ge (x := B + 1) (by grind) p.length)
    rw [mb, List.length_cons, qp]; grind
theorem lb_le {B H : Rat} (hB : 0 ≤ B) (hH : 0 ≤ H) : ∀ {p : List Rat}, (∀ c ∈ p, ab c ≤ H) → lb B p ≤ (p.length : Rat) * (H * qp (B + 1) p.length)
  | [], _ => by rw [lb]; simp
  | c :: p, h => by
    have ih := lb_le hB hH (p := p) fun d hd => h d (List.mem_cons_of_mem _ hd)
    have k0 := mb_le hB hH (p := p) fun d hd => h d (List.mem_cons_of_mem _ hd)
    have k1 := mul_le_l hB ih
    have q0 := qp_ge (x := B + 1) (by grind) p.length
    have n0 : (0 : Rat) ≤ (p.length : Rat) := Rat.natCast_le_natCast.mpr (Nat.zero_le p.length)
    have e : ((p.length + 1 : Nat) : Rat) = (p.length : Rat) + 1 := by grind
    have k3 : 0 ≤ H * qp (B + 1) p.length := mul_nn hH (by grind)
    have k4 := mul_nn hB k3
    have k5 := mul_nn n0 k3
    rw [lb, List.length_cons, qp, e]; grind
theorem tb_le {B H : Rat} (hB : 0 ≤ B) (hH : 0 ≤ H) : ∀ {p : List Rat}, (∀ c ∈ p, ab c ≤ H) → tb B p ≤ (p.length : Rat) * ((p.length : Rat) * (H * qp (B + 1) p.length))
  | [], _ => by rw [tb]; simp
  | c :: p, h => by
    have ih := tb_le hB hH (p := p) fun d hd => h d (List.mem_cons_of_mem _ hd)
    have k0 := lb_le hB hH (p := p) fun d hd => h d (List.mem_cons_of_mem _ hd)
    have k1 := mul_le_l hB ih
    have q0 := qp_ge (x := B + 1) (by grind) p.length
    have n0 : (0 : Rat) ≤ (p.length : Rat) := Rat.natCast_le_natCast.mpr (Nat.zero_le p.length)
    have e : ((p.length + 1 : Nat) : Rat) = (p.length : Rat) + 1 := by grind
    have k3 : 0 ≤ H * qp (B + 1) p.length := mul_nn hH (by grind)
    have k4 := mul_nn hB k3
    have k5 := mul_nn n0 k3
    have k6 := mul_nn n0 k4
    have k7 := mul_nn n0 k5
    have k8 := mul_nn hB k5
    rw [tb, List.length_cons, qp, e]; grind
theorem qp_e2 {b : Nat} {x : Rat} (h0 : 0 ≤ x) (h : x ≤ e2 b) : ∀ n, qp x n ≤ e2 (n * b) ∧ 0 ≤ qp x n
  | 0 => by rw [qp, Nat.zero_mul, e2_zero]; exact ⟨by grind, by grind⟩
  | n + 1 => by
    obtain ⟨a, c⟩ := qp_e2 h0 h n
    rw [qp, Nat.add_mul, Nat.one_mul, Nat.add_comm, e2_add]
    exact ⟨mul_le h0 h c a, mul_nn h0 c⟩
def BB : Rat := e2 761
theorem BB_nn : 0 ≤ BB := by unfold BB; have := e2_pos 761; grind
theorem BB_one : BB + 1 ≤ e2 762 := by
  unfold BB
  have e : e2 762 = e2 761 * e2 1 := e2_add 761 1
  have := e2_ge 761
  rw [e, e2_one]; grind
theorem len_cast {n m : Nat} (h : n ≤ m) : (n : Rat) ≤ (m : Rat) := Rat.natCast_le_natCast.mpr h
theorem bounds {p : List Int} {h : Nat} (k : Ht p h) (l : p.length ≤ 7) : mb BB (zr p) ≤ e2 (h + 5334) ∧ lb BB (zr p) ≤ e2 (h + 5337) ∧ tb BB (zr p) ≤ e2 (h + 5340) := by
  have hh := e2_pos h
  have a1 := mb_le BB_nn (show 0 ≤ e2 h by grind) k.ab
  have a2 := lb_le BB_nn (show 0 ≤ e2 h by grind) k.ab
  have a3 := tb_le BB_nn (show 0 ≤ e2 h by grind) k.ab
  have b0 := BB_nn
  obtain ⟨q1, q2⟩ := qp_e2 (show 0 ≤ BB + 1 by grind) BB_one (zr p).length
  have lz : (zr p).length ≤ 7 := by rw [List.length_map]; exact l
  have q3 : e2 ((zr p).length * 762) ≤ e2 5334 := e2_le (by omega)
  have q4 : qp (BB + 1) (zr p).length ≤ e2 5334 := by grind
  have m1 := mul_le_l (show 0 ≤ e2 h by grind) q4
  rw [← e2_add] at m1
  have l7 : ((zr p).length : Rat) ≤ e2 3 := len_cast (by omega)
  have l0 : (0 : Rat) ≤ ((zr p).length : Rat) := len_cast (Nat.zero_le _)
  have p0 : 0 ≤ e2 h * qp (BB + 1) (zr p).length := mul_nn (by grind) q2
  have m2 := mul_le l0 l7 p0 m1
  have m3 := mul_le l0 l7 (mul_nn l0 p0) m2
  have x1 : e2 (h + 5337) = e2 3 * e2 (h + 5334) := by rw [show h + 5337 = 3 + (h + 5334) by omega, e2_add]
  have x2 : e2 (h + 5340) = e2 3 * (e2 3 * e2 (h + 5334)) := by rw [show h + 5340 = 3 + (3 + (h + 5334)) by omega, e2_add, e2_add]
  refine ⟨by grind, ?_, ?_⟩
  · rw [x1]; grind
  · rw [x2]; grind
theorem Cnt.small {f : List Rat} {W : Rat → Int} (h : Cnt f W) {B s t : Rat} (hB : 0 ≤ B) (hs : ab s ≤ B) (ht : ab t ≤ B) (hst : s < t) (k : 1 ≤ W s - W t) : ab (ev f s) ≤ lb B f * (t - s) := by
  refine Classical.byContradiction fun z => ?_
  have hl := lb_nn hB f
  have : W s = W t := h.still hst fun x h1 h2 => by
    have hx : ab x ≤ B := ab_le (by have := le_ab t; grind) (by have := neg_le_ab s; grind)
    have k1 := ab_lip_le hB hs hx f
    have e : ab (s - x) = x - s := by unfold ab; grind
    rw [e] at k1
    have k2 := mul_le_l hl (show x - s ≤ t - s by grind)
    have k3 := keeps (a := ev f s) (b := ev f x) Rat.le_refl (by grind)
    exact pos_of_sg k3.1 k3.2
  omega
theorem Cnt.turn {f : List Rat} {W : Rat → Int} (h : Cnt f W) {B s t : Rat} (hB : 0 ≤ B) (hs : ab s ≤ B) (ht : ab t ≤ B) (hst : s < t) (k : 2 ≤ W s - W t) : ab (ev (pdv f) s) ≤ (lb B (pdv f) + tb B f) * (t - s) := by
  refine Classical.byContradiction fun z => ?_
  have hl := lb_nn hB (pdv f)
  have htb := tb_nn hB f
  have key : ∀ x y, s ≤ x → y ≤ t → x < y → sg (ev f y - ev f x) = sg (ev (pdv f) s) := fun x y h1 h2 h3 => by
    have hx : ab x ≤ B := ab_le (by have := le_ab t; grind) (by have := neg_le_ab s; grind)
    have hy : ab y ≤ B := ab_le (by have := le_ab t; grind) (by have := neg_le_ab s; grind)
    have k1 := ab_lip_le hB hs hx (pdv f)
    have e1 : ab (s - x) = x - s := by unfold ab; grind
    rw [e1] at k1
    have k2 := ab_tay_le hB hx hy f
    have e2 : ab (y - x) = y - x := ab_of_nn (by grind)
    rw [e2] at k2
    have p : 0 < y - x := by grind
    have g1 := mul_le_l hl (show x - s ≤ t - s by grind)
    have g2 := mul_le_l htb (show y - x ≤ t - s by grind)
    have g3 : lb B (pdv f) * (x - s) + tb B f * (y - x) ≤ (lb B (pdv f) + tb B f) * (t - s) ∨ True := .inr trivial
    have tot : lb B (pdv f) * (x - s) + tb B f * (y - x) < ab (ev (pdv f) s) := by
      have := mul_le_l hl (show x - s ≤ t - s by grind)
      grind
    have r1 := le_ab (ev f y - ev f x - (y - x) * ev (pdv f) x)
    have r2 := neg_le_ab (ev f y - ev f x - (y - x) * ev (pdv f) x)
    have w1 := le_ab (ev (pdv f) s - ev (pdv f) x)
    have w2 := neg_le_ab (ev (pdv f) s - ev (pdv f) x)
    have m1 := mul_lt_l p tot
    rcases sg_cases (ev (pdv f) s) with ⟨c, e⟩ | ⟨c, e⟩ | ⟨c, e⟩
    · rw [e]
      have c1 : ab (ev (pdv f) s) = ev (pdv f) s := ab_of_nn (by grind)
      rw [c1] at m1
      have m2 := mul_le_l (show 0 ≤ y - x by grind) (show ev (pdv f) s - lb B (pdv f) * (x - s) ≤ ev (pdv f) x by grind)
      exact sg_pos (by grind)
    · rw [e]
      have c1 : ab (ev (pdv f) s) = -ev (pdv f) s := by rw [← ab_neg]; exact ab_of_nn (by grind)
      rw [c1] at m1
      have m2 := mul_le_l (show 0 ≤ y - x by grind) (show ev (pdv f) x ≤ ev (pdv f) s + lb B (pdv f) * (x - s) by grind)
      exact sg_neg (by grind)
    · exfalso
      have := mul_nn (show 0 ≤ lb B (pdv f) + tb B f by grind) (show 0 ≤ t - s by grind)
      rw [c, ab_zero] at z
      grind
  rcases sg_cases (ev (pdv f) s) with ⟨c, e⟩ | ⟨c, e⟩ | ⟨c, e⟩
  · have inc : ∀ x y, s ≤ x → y ≤ t → x < y → ev f x < ev f y := fun x y h1 h2 h3 => by
      have := key x y h1 h2 h3
      rw [e] at this
      rcases sg_cases (ev f y - ev f x) with ⟨c', e'⟩ | ⟨c', e'⟩ | ⟨c', e'⟩ <;> first | grind | (rw [e'] at this; omega)
    have := glob (F := fun x y => s ≤ x → y ≤ t → W x - W y = if ev f x < 0 ∧ 0 ≤ ev f y then 1 else 0) (fun a b d h1 h2 x y p q => by
        have i1 := inc a b p (by grind) h1
        have i2 := inc b d (by grind) q h2
        have x := x p (by grind)
        have y := y (by grind) q
        split at x <;> split at y <;> split <;> first | omega | (exfalso; grind))
      (fun B' hB' => (h.at' B' hB').mono fun x y h1 h2 p q => by
        have i1 := inc x y p q h1
        rw [h2.1]
        unfold ind
        have p1 := @mul_ps (ev f x) (ev f y)
        have p2 := @mul_neg_neg (ev f x) (ev f y)
        have p3 := @mul_neg_pos (ev f x) (ev f y)
        have p5 : ev f y = 0 → ev f x * ev f y = 0 := fun z => by rw [z]; grind
        split <;> split <;> first | rfl | (exfalso; grind)) hst (by grind) (by grind)
    split at this <;> omega
  · have dec : ∀ x y, s ≤ x → y ≤ t → x < y → ev f y < ev f x := fun x y h1 h2 h3 => by
      have := key x y h1 h2 h3
      rw [e] at this
      rcases sg_cases (ev f y - ev f x) with ⟨c', e'⟩ | ⟨c', e'⟩ | ⟨c', e'⟩ <;> first | grind | (rw [e'] at this; omega)
    have := glob (F := fun x y => s ≤ x → y ≤ t → W x - W y = if 0 < ev f x ∧ ev f y ≤ 0 then 1 else 0) (fun a b d h1 h2 x y p q => by
        have i1 := dec a b p (by grind) h1
        have i2 := dec b d (by grind) q h2
        have x := x p (by grind)
        have y := y (by grind) q
        split at x <;> split at y <;> split <;> first | omega | (exfalso; grind))
      (fun B' hB' => (h.at' B' hB').mono fun x y h1 h2 p q => by
        have i1 := dec x y p q h1
        rw [h2.1]
        unfold ind
        have p1 := @mul_ps (ev f x) (ev f y)
        have p2 := @mul_neg_neg (ev f x) (ev f y)
        have p3 := @mul_pos_neg (ev f x) (ev f y)
        have p5 : ev f y = 0 → ev f x * ev f y = 0 := fun z => by rw [z]; grind
        split <;> split <;> first | rfl | (exfalso; grind)) hst (by grind) (by grind)
    split at this <;> omega
  · have := mul_nn (show 0 ≤ lb B (pdv f) + tb B f by grind) (show 0 ≤ t - s by grind)
    rw [c, ab_zero] at z
    grind
theorem zr_zero {u : List Int} (h : ∀ x, ev (zr u) x = 0) : ∀ c ∈ u, c = 0 := fun c hc => by
  have e : Kqg1.trim (zr u) = [] := tr_zero (tr_trim _) fun x => by rw [ev_trim, h]
  have := trim_eq_nil e (c : Rat) (List.mem_map.mpr ⟨c, hc, rfl⟩)
  exact Rat.intCast_inj.mp (by rw [this]; rfl)
theorem not_both {f g : List Int} (tf : Tr (zr f)) (lf : 2 ≤ f.length) (lf7 : f.length ≤ 7) (lg : 1 ≤ g.length) (lg7 : g.length ≤ 7) (hf : Ht f 763) (hg : Ht g 763)
    (co : Cop (zr f) (zr g)) {s t Kf Kg : Rat} (hs : ab s ≤ BB) (hst : s < t) (hd : (t - s) * e2 32767 ≤ 1) (kf : ab (ev (zr f) s) ≤ Kf * (t - s)) (kg : ab (ev (zr g) s) ≤ Kg * (t - s))
    (bf : Kf ≤ e2 8000) (bg : Kg ≤ e2 8000) (pf : 0 ≤ Kf) (pg : 0 ≤ Kg) : False := by
  obtain ⟨n, hn⟩ : ∃ n, f.length = n + 1 := ⟨f.length - 1, by omega⟩
  obtain ⟨m, hm⟩ : ∃ m, g.length = m + 1 := ⟨g.length - 1, by omega⟩
  obtain ⟨u, v, lu, lv, hu, hv, nz, R, hR⟩ := siegel (H := 2 ^ 763) hn hm (by omega) (Nat.two_pow_pos 763) hf hg
  have R0 : R ≠ 0 := by
    intro z
    have e0 : ∀ x, ev (zr u) x * ev (zr f) x + ev (zr v) x * ev (zr g) x = 0 := fun x => by rw [hR, z]; rfl
    have dv : Dv (zr f) (zr v) := by
      refine cop_dv co (m := pmul (zr v) (zr g)) (fun x => by rw [ev_pmul]; grind) ⟨psc (-1) (zr u), fun x => ?_⟩
      have := e0 x
      rw [ev_pmul, ev_psc]; grind
    have v0 : ∀ x, ev (zr v) x = 0 := fun x => by
      have dt : Dv (zr f) (Kqg1.trim (zr v)) := dv.congr fun x => ev_trim _ x
      by_cases c : Kqg1.trim (zr v) = []
      · rw [← ev_trim, c, ev_nil]
      · have l := (dt.len tf (tr_trim _) c).1
        have := trim_len (zr v)
        have e1 : (zr v).length = v.length := List.length_map _
        have e2 : (zr f).length = f.length := List.length_map _
        omega
    have nf : zr f ≠ [] := fun y => by have := congrArg List.length y; simp at this; rw [this] at lf; simp at lf
    have u0 : ∀ x, ev (zr u) x = 0 := fun x => by
      have := cancel tf nf (h := zr u) (k := []) (fun x => by
        have := e0 x
        rw [v0] at this
        rw [ev_nil]; grind) x
      rwa [ev_nil] at this
    obtain ⟨c, hc, c0⟩ := nz
    rcases List.mem_append.mp hc with y | y
    · exact c0 (zr_zero u0 c y)
    · exact c0 (zr_zero v0 c y)
  have R1 : (1 : Rat) ≤ ab (R : Rat) := by
    rw [ab_cast]
    exact len_cast (n := 1) (by omega)
  have pw : (2 * (m + n) * 2 ^ 763) ^ (m + n) ≤ 2 ^ 9216 := by
    have h1 : 2 * (m + n) * 2 ^ 763 ≤ 2 ^ 5 * 2 ^ 763 := Nat.mul_le_mul_right _ (by omega)
    rw [← Nat.pow_add] at h1
    have h2 := Nat.pow_le_pow_left h1 (m + n)
    rw [← Nat.pow_mul] at h2
    exact Nat.le_trans h2 (Nat.pow_le_pow_right (by omega) (by omega))
  have bu := bounds (p := u) (h := 9216) (fun c hc => Nat.le_trans (hu c hc) pw) (by omega)
  have bv := bounds (p := v) (h := 9216) (fun c hc => Nat.le_trans (hv c hc) pw) (by omega)
  have q1 := mul_le (ab_nn (ev (zr u) s)) (show ab (ev (zr u) s) ≤ e2 (9216 + 5334) by have := ab_ev_le BB_nn hs (zr u); grind) (ab_nn (ev (zr f) s)) kf
  have q2 := mul_le (ab_nn (ev (zr v) s)) (show ab (ev (zr v) s) ≤ e2 (9216 + 5334) by have := ab_ev_le BB_nn hs (zr v); grind) (ab_nn (ev (zr g) s)) kg
  have q3 := ab_add (ev (zr u) s * ev (zr f) s) (ev (zr v) s * ev (zr g) s)
  rw [hR, ab_mul, ab_mul] at q3
  have d0 : 0 ≤ t - s := by grind
  have w1 := mul_le pf bf d0 Rat.le_refl
  have w2 := mul_le pg bg d0 Rat.le_refl
  have w3 := mul_le_l (show 0 ≤ e2 (9216 + 5334) by have := e2_pos (9216 + 5334); grind) w1
  have w4 := mul_le_l (show 0 ≤ e2 (9216 + 5334) by have := e2_pos (9216 + 5334); grind) w2
  have fin : 1 ≤ e2 (9216 + 5334) * (e2 8000 * (t - s)) * 2 := by grind
  have e1 : e2 (9216 + 5334) * (e2 8000 * (t - s)) * 2 = e2 22551 * (t - s) := by
    have : e2 22551 = e2 (9216 + 5334) * e2 8000 * e2 1 := by rw [← e2_add, ← e2_add]
    rw [this, e2_one]; grind
  rw [e1] at fin
  have e3 : e2 32767 = e2 22551 * e2 10216 := by rw [← e2_add]
  have g2 : (2 : Rat) ≤ e2 10216 := by rw [← e2_one]; exact e2_le (by omega)
  have g3 := mul_le_l (show 0 ≤ e2 22551 * (t - s) by grind) g2
  rw [e3] at hd
  grind
end Kv
namespace Kv
def Sm (p : List Rat) : Prop := p.length ≤ 7 ∧ ∀ c ∈ p, c.num.natAbs ≤ 10 ^ 30 ∧ c.den ≤ 10 ^ 30
theorem whole_small : ∀ {p : List Rat}, (∀ c ∈ p, c.num.natAbs ≤ 10 ^ 30 ∧ c.den ≤ 10 ^ 30) → ∃ (D : Nat) (q : List Int), 0 < D ∧ D ≤ (10 ^ 30) ^ p.length ∧ zr q = psc (D : Rat) p ∧ q.length = p.length ∧ ∀ c ∈ q, c.natAbs ≤ (10 ^ 30) ^ p.length
  | [], _ => ⟨1, [], by omega, by simp, rfl, rfl, fun c h => by simp at h⟩
  | c :: p, h => by
    obtain ⟨D, q, h0, hD, h1, h2, h3⟩ := whole_small (p := p) fun d hd => h d (List.mem_cons_of_mem _ hd)
    obtain ⟨c1, c2⟩ := h c List.mem_cons_self
    refine ⟨c.den * D, (c.num * D) :: q.map fun a => (c.den : Int) * a, Nat.mul_pos c.den_pos h0, ?_, ?_, by simp [h2], fun d hd => ?_⟩
    · rw [List.length_cons, Nat.pow_succ, Nat.mul_comm]; exact Nat.mul_le_mul hD c2
    · show ((c.num * (D : Int) : Int) : Rat) :: zr (q.map fun a => (c.den : Int) * a) = ((c.den * D : Nat) : Rat) * c :: psc ((c.den * D : Nat) : Rat) p
      have e := rat_eq c
      congr 1
      · rw [Rat.intCast_mul, Rat.intCast_natCast, ← e, Rat.natCast_mul]; grind
      · have e2 : zr (q.map fun a => (c.den : Int) * a) = psc (c.den : Rat) (zr q) := by
          show (q.map _).map _ = (q.map _).map _
          rw [List.map_map, List.map_map]
          refine List.map_congr_left fun a _ => ?_
          show (((c.den : Int) * a : Int) : Rat) = (c.den : Rat) * (a : Rat)
          rw [Rat.intCast_mul, Rat.intCast_natCast]
        rw [e2, h1]
        show (p.map _).map _ = p.map _
        rw [List.map_map]
        refine List.map_congr_left fun a _ => ?_
        show (c.den : Rat) * ((D : Rat) * a) = ((c.den * D : Nat) : Rat) * a
        rw [Rat.natCast_mul]; grind
    · rw [List.length_cons, Nat.pow_succ, Nat.mul_comm]
      rcases List.mem_cons.mp hd with e | e
      · rw [e, Int.natAbs_mul, Int.natAbs_natCast]
        exact Nat.mul_le_mul c1 hD
      · obtain ⟨a, ha, rfl⟩ := List.mem_map.mp e
        rw [Int.natAbs_mul, Int.natAbs_natCast]
        exact Nat.mul_le_mul c2 (h3 a ha)
theorem pow_700 : (10 ^ 30) ^ 7 ≤ 2 ^ 700 := by decide +kernel
theorem pow_760 : 27 ^ 7 * (2 ^ 700 * 13 ^ 7) ≤ 2 ^ 760 := by decide +kernel
theorem whole_ht {p : List Rat} (h : Sm p) : ∃ (D : Nat) (q : List Int), 0 < D ∧ (∀ x, ev (zr q) x = (D : Rat) * ev p x) ∧ q.length = p.length ∧ Ht q 700 := by
  obtain ⟨D, q, h0, _, h1, h2, h3⟩ := whole_small h.2
  refine ⟨D, q, h0, fun x => by rw [h1, ev_psc], h2, fun c hc => Nat.le_trans (h3 c hc) (Nat.le_trans (Nat.pow_le_pow_right (by decide) h.1) pow_700)⟩
theorem tr_of {s : List Rat} {S : List Int} {c : Rat} (ts : Tr s) (hc : 0 < c) (l : S.length = s.length) (e : ∀ x, ev s x = c * ev (zr S) x) : Tr (zr S) := by
  by_cases h : zr S = []
  · exact .inl h
  · refine .inr fun z => ?_
    have k := trim_len_lt h z
    have e1 : psc (1 / c) s = Kqg1.trim (zr S) := by
      refine same_of_ev ?_ (tr_trim _) fun x => by rw [ev_trim, ev_psc, e]; grind
      by_cases ns : s = []
      · left; rw [ns]; rfl
      · right
        rw [ld_psc]
        intro y
        rcases mul_zero_cases y with y | y
        · have := div_ps (show (0 : Rat) < 1 by decide) hc
          grind
        · exact ts.ld ns y
    rw [← e1, len_psc, List.length_map] at k
    omega
theorem divisor {p s : List Rat} (hp : Tr p) (np : p ≠ []) (sm : Sm p) (hs : Tr s) (d : Dv s p) : ∃ (S : List Int) (c : Rat), 0 < c ∧ S.length = s.length ∧ S.length ≤ 7 ∧ 1 ≤ S.length ∧ Ht S 760 ∧ Tr (zr S) ∧ ∀ x, ev s x = c * ev (zr S) x := by
  obtain ⟨l1, ns⟩ := d.len hs hp np
  obtain ⟨D, P, hD, eP, lP, hP⟩ := whole_ht sm
  obtain ⟨S, c, hc, pr, lS, eS⟩ := primitive_of (p := s) fun z => ns (tr_zero hs z)
  obtain ⟨w, hw⟩ := d
  have hDr : (0 : Rat) < (D : Rat) := Rat.natCast_lt_natCast.mpr hD
  obtain ⟨W, lW, eW⟩ := whole_quotient (P := P) (s := S) (w := psc ((D : Rat) * c) w) pr fun x => by
    rw [eP, hw, eS, ev_psc]; grind
  have l7 := sm.1
  have := List.length_pos_iff.mpr ns
  have key := divisor_bound (P := P) (s := S) (W := W) (H := 2 ^ 700) (by omega) (by omega) hP (fun z => np (tr_zero hp fun x => by
    have := z x
    rw [eP] at this
    rcases mul_zero_cases this with y | y
    · grind
    · exact y)) fun x => by rw [eP, ← eW, ev_psc, hw, eS]; grind
  exact ⟨S, c, hc, lS, by omega, by omega, fun a ha => Nat.le_trans (key a ha) pow_760, tr_of hs hc lS eS, eS⟩
theorem ind_scale {f g : List Rat} {c : Rat} (hc : 0 < c) (e : ∀ x, ev f x = c * ev g x) (s t : Rat) : ind f s t = ind g s t :=
  ind_mul (w := [c]) (fun x => by rw [e, ev_one]; grind) (same_const (by grind) (fun x => ev_one c x) s t)
theorem Ct.scale {f g : List Rat} {l : List (List Rat)} {c : Rat} (hc : 0 < c) (e : ∀ x, ev f x = c * ev g x) (h : Ct f l) : Ct g l :=
  ⟨⟨fun B hB => (h.cnt.at' B hB).mono fun s t _ ⟨a, b⟩ => ⟨by rw [a, ind_scale hc e], fun z => by
    have := b (by rw [e, z]; grind)
    intro y
    exact this (by rw [e, y]; grind)⟩⟩, h.far⟩
theorem far_whole {S : List Int} (t : Tr (zr S)) (n : zr S ≠ []) (h : Ht S 760) : Far (zr S) (1 + e2 760) := by
  have p := e2_pos 760
  refine far_of_dom n t (M := e2 760) (by grind) (fun c hc => ?_) Rat.le_refl
  have h1 := h.ab c hc
  have l1 : 1 ≤ ab (ld (zr S)) := by
    obtain ⟨a, _, ea⟩ := List.mem_map.mp (ld_mem n)
    have a0 : a ≠ 0 := fun z => t.ld n (by rw [← ea, z]; rfl)
    have e : ld (zr S) = (a : Rat) := ea.symm
    rw [e, ab_cast]
    exact len_cast (n := 1) (by omega)
  have := mul_le_l (show 0 ≤ e2 760 by grind) l1
  grind
theorem width_small {s t : Rat} (hst : s < t) (hd : (t - s) * e2 32767 ≤ 1) : t - s ≤ 1 := by
  have := mul_le_l (show 0 ≤ t - s by grind) (e2_ge 32767)
  grind
theorem within {S : List Int} {l : List (List Rat)} (t : Tr (zr S)) (n : zr S ≠ []) (h : Ht S 760) (k : Ct (zr S) l) {a b : Rat} (hab : a < b) (hd : b - a ≤ 1) (one : 1 ≤ V l a - V l b) : ab a ≤ BB ∧ ab b ≤ BB := by
  have F := far_whole t n h
  have g := e2_ge 760
  have e : BB = e2 760 * e2 1 := e2_add 760 1
  rw [e2_one] at e
  have g1 : (4 : Rat) ≤ e2 760 := by
    have := e2_le (show 2 ≤ 760 by decide)
    have e4 : e2 2 = 4 := rfl
    rw [e4] at this; exact this
  have c1 : a < 1 + e2 760 := by
    refine Classical.byContradiction fun z => ?_
    have x1 := (k.beyond (Dv.rfl' _) F (t := a) (by grind)).1
    have x2 := (k.beyond (Dv.rfl' _) F (t := b) (by grind)).1
    omega
  have c2 : -(1 + e2 760) < b := by
    refine Classical.byContradiction fun z => ?_
    have x1 := (k.beyond (Dv.rfl' _) F (t := -a) (by grind)).2
    have x2 := (k.beyond (Dv.rfl' _) F (t := -b) (by grind)).2
    rw [show - -a = a by grind] at x1
    rw [show - -b = b by grind] at x2
    omega
  exact ⟨ab_le (by grind) (by grind), ab_le (by grind) (by grind)⟩
def zd (S : List Int) : List Int := (List.range (S.length - 1)).map fun i => ((i + 1 : Nat) : Int) * cf S (i + 1)
theorem ev_zd (S : List Int) (x : Rat) : ev (zr (zd S)) x = ev (pdv (zr S)) x := by
  rw [← ev_derivative]
  unfold Kqg1.derivative
  rw [ev_trim]
  have : zr (zd S) = tab (fun i => ((i + 1 : Nat) : Rat) * Kqg1.coefficient (zr S) (i + 1)) ((zr S).length - 1) := by
    unfold zr zd tab
    rw [List.map_map, List.length_map]
    refine List.map_congr_left fun i _ => ?_
    show ((((i + 1 : Nat) : Int) * cf S (i + 1) : Int) : Rat) = _
    rw [Rat.intCast_mul, Rat.intCast_natCast]
    have := coef_zr S (i + 1)
    unfold zr at this
    rw [this]
  rw [this]
theorem ht_zd {S : List Int} (l : S.length ≤ 7) (h : Ht S 760) : Ht (zd S) 763 := fun c hc => by
  obtain ⟨i, hi, rfl⟩ := List.mem_map.mp hc
  have hi : i < S.length - 1 := by simpa using hi
  have := h _ (cf_mem (p := S) (i := i + 1) (by omega))
  rw [Int.natAbs_mul, Int.natAbs_natCast, show 763 = 3 + 760 from rfl, Nat.pow_add]
  exact Nat.mul_le_mul (by omega) this
theorem zr_ne {S : List Int} (h : 1 ≤ S.length) : zr S ≠ [] := fun z => by have := congrArg List.length z; simp at this; rw [this] at h; simp at h
theorem Ht.mono {S : List Int} {a b : Nat} (h : Ht S a) (k : a ≤ b) : Ht S b := fun c hc => Nat.le_trans (h c hc) (Nat.pow_le_pow_right (by omega) k)
theorem const_of_len {S : List Int} (h : S.length < 2) (h1 : 1 ≤ S.length) : ∃ a : Int, S = [a] := by
  match S, h, h1 with
  | [a], _, _ => exact ⟨a, rfl⟩
theorem Cnt.const {c : Rat} {W : Rat → Int} (hc : c ≠ 0) (h : Cnt [c] W) {s t : Rat} (hst : s < t) : W s = W t :=
  h.still hst fun x _ _ => by
    rw [ev_one, ev_one]
    by_cases p : 0 < c
    · exact mul_ps p p
    · exact mul_neg_neg (by grind) (by grind)
theorem sep_one {p s : List Rat} {l : List (List Rat)} (hp : Tr p) (np : p ≠ []) (sm : Sm p) (hs : Tr s) (d : Dv s p) (sq : Sqf s) (k : Ct s l) {a b : Rat} (hab : a < b) (hd : (b - a) * e2 32767 ≤ 1) : V l a - V l b ≤ 1 := by
  refine Classical.byContradiction fun z => ?_
  obtain ⟨S, c, hc, l0, l7, l1, ht, tS, eS⟩ := divisor hp np sm hs d
  have kS := k.scale hc eS
  have sqS : Sqf (zr S) := sq.congr (c := 1 / c) (by have := div_ps (show (0 : Rat) < 1 by decide) hc; grind) fun x => by rw [eS]; grind
  by_cases c2 : S.length < 2
  · obtain ⟨y, hy⟩ := const_of_len c2 l1
    rw [hy] at kS tS
    have := Cnt.const (c := (y : Rat)) (tS.ld (by simp)) kS.cnt hab
    omega
  · obtain ⟨ba, bb⟩ := within tS (zr_ne l1) ht kS hab (width_small hab hd) (by omega)
    have k1 := kS.cnt.small BB_nn ba bb hab (by omega)
    have k2 := kS.cnt.turn BB_nn ba bb hab (by omega)
    rw [← ev_zd S a] at k2
    have b1 := bounds (ht.mono (show 760 ≤ 763 by decide)) l7
    have lz : (zd S).length = S.length - 1 := by simp [zd]
    have b2 := bounds (ht_zd l7 ht) (by omega)
    have b3 : lb BB (pdv (zr S)) ≤ e2 (763 + 5337) ∨ True := .inr trivial
    have co : Cop (zr S) (zr (zd S)) := by
      obtain ⟨u, v, e⟩ := sqS
      exact ⟨u, v, fun x => by rw [ev_zd, e]⟩
    have k3 := kS.cnt
    have lbd := lb_pdv S
    refine not_both tS (by omega) l7 (by omega) (by omega) (ht.mono (by decide)) (ht_zd l7 ht) co ba hab hd k1 k2 (Rat.le_trans b1.2.1 (e2_le (by decide))) ?_ (lb_nn BB_nn _) ?_
    · have x1 := lbd l7 ht
      have x2 := b1.2.2
      have x3 : e2 7000 + e2 7000 = e2 7001 := by
        have : e2 7001 = e2 7000 * e2 1 := e2_add 7000 1
        rw [this, e2_one]; grind
      have x4 : e2 7001 ≤ e2 8000 := e2_le (by decide)
      have x5 : e2 (763 + 5340) ≤ e2 7000 := e2_le (by decide)
      grind
    · have := lb_nn BB_nn (pdv (zr S))
      have := tb_nn BB_nn (zr S)
      grind
where
  ab_padd : ∀ {p q : List Rat} {A C : Rat}, 0 ≤ A → 0 ≤ C → (∀ c ∈ p, ab c ≤ A) → (∀ c ∈ q, ab c ≤ C) → ∀ c ∈ padd p q, ab c ≤ A + C
    | [], q, A, C, hA, hC, h1, h2, c, hc => by
      rw [padd] at hc
      have := h2 c hc; grind
    | a :: p, [], A, C, hA, hC, h1, h2, c, hc => by
      rw [padd] at hc
      · have := h1 c hc; grind
      · simp
    | a :: p, b :: q, A, C, hA, hC, h1, h2, c, hc => by
      rw [padd] at hc
      rcases List.mem_cons.mp hc with e | e
      · have := h1 a List.mem_cons_self
        have := h2 b List.mem_cons_self
        have := ab_add a b
        rw [e]; grind
      · exact ab_padd hA hC (fun d hd => h1 d (List.mem_cons_of_mem _ hd)) (fun d hd => h2 d (List.mem_cons_of_mem _ hd)) c e
  ab_pdv : ∀ {p : List Rat} {A : Rat}, 0 ≤ A → (∀ c ∈ p, ab c ≤ A) → ∀ c ∈ pdv p, ab c ≤ (p.length : Rat) * A
    | [], A, hA, h, c, hc => by simp [pdv] at hc
    | a :: p, A, hA, h, c, hc => by
      have h' : ∀ c ∈ p, ab c ≤ A := fun d hd => h d (List.mem_cons_of_mem _ hd)
      have ih := ab_pdv hA h'
      have l0 : (0 : Rat) ≤ (p.length : Rat) := len_cast (Nat.zero_le _)
      have m0 := mul_nn l0 hA
      rw [pdv] at hc
      have := ab_padd hA m0 h' (q := 0 :: pdv p) (fun d hd => by
        rcases List.mem_cons.mp hd with e | e
        · rw [e, ab_zero]; exact m0
        · exact ih d e) c hc
      have e : ((p.length + 1 : Nat) : Rat) = (p.length : Rat) + 1 := by grind
      rw [List.length_cons, e]; grind
  len_padd : ∀ (p q : List Rat), (padd p q).length = max p.length q.length
    | [], q => by rw [padd]; simp
    | a :: p, [] => by rw [padd] <;> simp
    | a :: p, b :: q => by rw [padd, List.length_cons, len_padd p q, List.length_cons, List.length_cons]; omega
  len_pdv : ∀ (p : List Rat), (pdv p).length ≤ p.length
    | [] => by rw [pdv]; exact Nat.le_refl _
    | a :: p => by
      have := len_pdv p
      rw [pdv, len_padd]; simp; omega
  lb_pdv (S : List Int) (l : S.length ≤ 7) (h : Ht S 760) : lb BB (pdv (zr S)) ≤ e2 7000 := by
    have p760 := e2_pos 760
    have h1 := ab_pdv (show 0 ≤ e2 760 by grind) h.ab
    have lz : (zr S).length = S.length := List.length_map _
    have l7 : ((zr S).length : Rat) ≤ e2 3 := len_cast (by omega)
    have h2 : ∀ c ∈ pdv (zr S), ab c ≤ e2 763 := fun c hc => by
      have := h1 c hc
      have k := mul_le (show (0 : Rat) ≤ ((zr S).length : Rat) from len_cast (Nat.zero_le _)) l7 (show 0 ≤ e2 760 by grind) Rat.le_refl
      have e : e2 763 = e2 3 * e2 760 := e2_add 3 760
      rw [e]; grind
    have p763 := e2_pos 763
    have h3 := lb_le BB_nn (show 0 ≤ e2 763 by grind) h2
    have lp := len_pdv (zr S)
    have b0 := BB_nn
    obtain ⟨q1, q2⟩ := qp_e2 (show 0 ≤ BB + 1 by grind) BB_one (pdv (zr S)).length
    have q3 : e2 ((pdv (zr S)).length * 762) ≤ e2 5334 := e2_le (by omega)
    have m1 := mul_le_l (show 0 ≤ e2 763 by grind) (Rat.le_trans q1 q3)
    rw [← e2_add] at m1
    have k7 : ((pdv (zr S)).length : Rat) ≤ e2 3 := len_cast (by omega)
    have m2 := mul_le (show (0 : Rat) ≤ ((pdv (zr S)).length : Rat) from len_cast (Nat.zero_le _)) k7 (mul_nn (show 0 ≤ e2 763 by grind) q2) m1
    rw [← e2_add] at m2
    have m3 : e2 (3 + (763 + 5334)) ≤ e2 7000 := e2_le (by decide)
    grind
theorem sep_two {p q s r : List Rat} {l k : List (List Rat)} (hp : Tr p) (np : p ≠ []) (sp : Sm p) (hq : Tr q) (nq : q ≠ []) (sq : Sm q) (hs : Tr s) (ds : Dv s p) (hr : Tr r) (dr : Dv r q) (co : Cop s r)
    (cs : Ct s l) (cr : Ct r k) {a b : Rat} (hab : a < b) (hd : (b - a) * e2 32767 ≤ 1) (h1 : 1 ≤ V l a - V l b) (h2 : 1 ≤ V k a - V k b) : False := by
  obtain ⟨S, c, hc, l0, l7, l1, ht, tS, eS⟩ := divisor hp np sp hs ds
  obtain ⟨R, d, hd', r0, r7, r1, htR, tR, eR⟩ := divisor hq nq sq hr dr
  have kS := cs.scale hc eS
  have kR := cr.scale hd' eR
  by_cases c2 : S.length < 2
  · obtain ⟨y, hy⟩ := const_of_len c2 l1
    rw [hy] at kS tS
    have := Cnt.const (c := (y : Rat)) (tS.ld (by simp)) kS.cnt hab
    omega
  · obtain ⟨ba, bb⟩ := within tS (zr_ne l1) ht kS hab (width_small hab hd) h1
    have k1 := kS.cnt.small BB_nn ba bb hab h1
    have k2 := kR.cnt.small BB_nn ba bb hab h2
    have b1 := bounds (ht.mono (show 760 ≤ 763 by decide)) l7
    have b2 := bounds (htR.mono (show 760 ≤ 763 by decide)) r7
    have co' : Cop (zr S) (zr R) := by
      obtain ⟨u, v, e⟩ := co
      refine ⟨psc c u, psc d v, fun x => ?_⟩
      have := e x
      rw [eS, eR] at this
      rw [ev_psc, ev_psc]; grind
    exact not_both tS (by omega) l7 r1 r7 (ht.mono (by decide)) (htR.mono (by decide)) co' ba hab hd k1 k2 (Rat.le_trans b1.2.1 (e2_le (by decide))) (Rat.le_trans b2.2.1 (e2_le (by decide))) (lb_nn BB_nn _) (lb_nn BB_nn _)
theorem sep_joint {p q : List Rat} (hp : Tr p) (np : p ≠ []) (sp : Sm p) (hq : Tr q) (nq : q ≠ []) (sq : Sm q) {a b : Rat} (hab : a < b) (hd : (b - a) * e2 32767 ≤ 1) :
    V (Kqg1.sturmChain (JP p q)) a - V (Kqg1.sturmChain (JP p q)) b ≤ 1 := by
  obtain ⟨nm, K, nJ⟩ := sf_joint hp np hq nq
  have S := sf_spec hp np
  have T := sf_spec hq nq
  have ns := ne_of_dv hp np S.dv
  have nt := ne_of_dv hq nq T.dv
  obtain ⟨f, g, c, hc, cfg, cfh, cgh, ef, eg, eJ⟩ := joint_split hp np hq nq (tr_multiply p q) nm (ev_multiply p q) S T K
  obtain ⟨th, H, nh⟩ := gcd_spec S.tr T.tr ns
  generalize hhd : Kqg1.gcd (Kqg1.squarefree p) (Kqg1.squarefree q) = h at *
  have ef' : ∀ x, ev (Kqg1.squarefree p) x = ev (Kqg1.trim f) x * ev h x := fun x => by rw [ev_trim, ef]
  have eg' : ∀ x, ev (Kqg1.squarefree q) x = ev (Kqg1.trim g) x * ev h x := fun x => by rw [ev_trim, eg]
  have nf : Kqg1.trim f ≠ [] := ne_of_dv S.tr ns ⟨h, ef'⟩
  have ng : Kqg1.trim g ≠ [] := ne_of_dv T.tr nt ⟨h, eg'⟩
  have sf : Sqf (Kqg1.trim f) := S.sq.factor ef'
  have sg' : Sqf (Kqg1.trim g) := T.sq.factor eg'
  have sh : Sqf h := S.sq.factor (u := h) (w := Kqg1.trim f) fun x => by rw [ef']; grind
  have cts : ∀ {s : List Rat}, Tr s → s ≠ [] → Sqf s → Ct s (Kqg1.sturmChain s) := fun t n s => by
    have := ct_spec t n
    rwa [squarefree_id t n s] at this
  have cJ := cts K.tr nJ K.sq
  have cS := cts S.tr ns S.sq
  have cT := cts T.tr nt T.sq
  have cF := cts (tr_trim f) nf sf
  have cG := cts (tr_trim g) ng sg'
  have cH := cts th nh sh
  have c1 : Cnt [1] (V [[1]]) := Cnt.of_chain (f := [1]) (l := []) ⟨1, by decide, fun x => ev_one 1 x⟩ fun g r z => by simp at z
  have one : ∀ s : List Rat, Cop s [1] := fun s => ⟨[], [1], fun x => by rw [ev_nil, ev_one]; grind⟩
  have cop : ∀ {u v : List Rat}, Cop u v → Cop (Kqg1.trim u) v := fun ⟨x, y, e⟩ => ⟨x, y, fun t => by rw [ev_trim, e]⟩
  have cop' : ∀ {u v : List Rat}, Cop u v → Cop u (Kqg1.trim v) := fun ⟨x, y, e⟩ => ⟨x, y, fun t => by rw [ev_trim, e]⟩
  have d1 := Cnt.joint (a := Kqg1.trim f) (b := Kqg1.trim g) (g := h) hc (cop (cop' cfg)) (cop cfh) (cop cgh) ef' eg' (fun x => by rw [eJ, ev_trim, ev_trim]) cJ.cnt cS.cnt cT.cnt cH.cnt hab
  have d2 := Cnt.joint (a := Kqg1.trim f) (b := h) (g := [1]) (c := 1) (by decide) (cop cfh) (one _) (one _) (fun x => by rw [ev_one]; grind) (fun x => by rw [ev_one]; grind) (fun x => by rw [ef', ev_one]; grind) cS.cnt cF.cnt cH.cnt c1 hab
  have d3 := Cnt.joint (a := Kqg1.trim g) (b := h) (g := [1]) (c := 1) (by decide) (cop cgh) (one _) (one _) (fun x => by rw [ev_one]; grind) (fun x => by rw [ev_one]; grind) (fun x => by rw [eg', ev_one]; grind) cT.cnt cG.cnt cH.cnt c1 hab
  have d4 := Cnt.const (by decide) c1 hab
  have m1 := cF.cnt.mono hab
  have m2 := cG.cnt.mono hab
  have m3 := cH.cnt.mono hab
  have o1 := sep_one hp np sp S.tr S.dv S.sq cS hab hd
  have o2 := sep_one hq nq sq T.tr T.dv T.sq cT hab hd
  refine Classical.byContradiction fun z => ?_
  exact sep_two hp np sp hq nq sq (tr_trim f) (Dv.trans ⟨h, ef'⟩ S.dv) (tr_trim g) (Dv.trans ⟨h, eg'⟩ T.dv) (cop (cop' cfg)) cF cG hab hd (by omega) (by omega)
theorem dyadic_step (m : Int) (b : Nat) : (Kqg1.dyadic (m + 1) b - Kqg1.dyadic m b) * e2 b = 1 := by
  unfold Kqg1.dyadic e2
  have := pow2_pos b
  rw [Rat.intCast_add]
  have : ((1 : Int) : Rat) = 1 := rfl
  rw [this]; grind
theorem sep_spec {p q : List Rat} (hp : Tr p) (np : p ≠ []) (sp : Sm p) (hq : Tr q) (nq : q ≠ []) (sq : Sm q) : Sep (JP p q) := by
  intro m
  obtain ⟨nm, K, nJ⟩ := sf_joint hp np hq nq
  rw [layers_sq K.tr nJ K.sq]
  by_cases c : (JP p q).length ≤ 1
  · rw [if_pos c]; show (0 : Int) - 0 ≤ 1; decide
  · rw [if_neg c]
    have ct := ct_spec K.tr nJ
    rw [squarefree_id K.tr nJ K.sq] at ct
    have eJ : hd (Kqg1.sturmChain (JP p q)) = JP p q := by rw [hd_chain K.tr nJ, squarefree_id K.tr nJ K.sq]
    show sum _ - sum _ ≤ 1
    simp only [List.map_cons, List.map_nil, sum_cons, sum_nil, eJ]
    have lt := dyadic_lt 32768 (show m < m + 1 by omega)
    have st := dyadic_step m 32768
    obtain ⟨x, hx, kx⟩ := ct.cnt.left (Kqg1.dyadic m 32768)
    obtain ⟨y, hy, ky⟩ := ct.cnt.left (Kqg1.dyadic (m + 1) 32768)
    have dl : 0 < Kqg1.dyadic (m + 1) 32768 - Kqg1.dyadic m 32768 := by grind
    obtain ⟨a, a1, a2, a3, a4⟩ := near2 (s := Kqg1.dyadic m 32768 - 1) (t := Kqg1.dyadic m 32768) (by grind) hx dl
    obtain ⟨b, b1, b2, b3⟩ := near lt hy
    have := kx a a2 a3
    have := ky b b2 b3
    have e3 : e2 32768 = e2 32767 * e2 1 := e2_add 32767 1
    rw [e2_one] at e3
    have := sep_joint hp np sp hq nq sq (a := a) (b := b) (by grind) (by
      have h1 : b - a ≤ 2 * (Kqg1.dyadic (m + 1) 32768 - Kqg1.dyadic m 32768) := by grind
      have h2 := mul_le_l (show 0 ≤ e2 32767 by have := e2_pos 32767; grind) h1
      rw [e3] at st
      grind)
    omega
end Kv
namespace Kv
theorem zr_len (p : List Int) : (zr p).length = p.length := by simp [zr]
theorem zr_nil_iff {p : List Int} : zr p = [] ↔ p = [] := by simp [zr]
theorem trim_snoc (p : List Rat) : Kqg1.trim (p ++ [0]) = Kqg1.trim p := by
  simp [Kqg1.trim]
theorem take_last {α : Type} : ∀ {p : List α} {c : Nat} {x : α}, p[c]? = some x → p.take (c + 1) = p.take c ++ [x] := fun {p c x} h => by
  rw [List.take_add_one, h]; rfl
theorem ld_snoc (p : List Rat) (x : Rat) : ld (p ++ [x]) = x := by
  simp [ld, Kqg1.leadingCoefficient]
theorem trim_take {p : List Int} {c : Nat} (h : p[c]? = some 0) : Kqg1.trim (zr (p.take (c + 1))) = Kqg1.trim (zr (p.take c)) := by
  rw [take_last h]
  show Kqg1.trim ((p.take c ++ [0]).map fun (x : Int) => (x : Rat)) = _
  rw [List.map_append]
  exact trim_snoc _
theorem tr_take {p : List Int} {c : Nat} {x : Int} (h : p[c]? = some x) (hx : x ≠ 0) : Tr (zr (p.take (c + 1))) := by
  refine .inr ?_
  rw [take_last h]
  show ld ((p.take c ++ [x]).map fun (x : Int) => (x : Rat)) ≠ 0
  rw [List.map_append]
  show ld (_ ++ [(x : Rat)]) ≠ 0
  rw [ld_snoc]
  intro z
  exact hx (by exact_mod_cast z)
def prI (p : List Int) : List Int := p.map fun c => c / (content p : Int)
theorem content_snoc (p : List Int) (c : Int) : content (p ++ [c]) = Nat.gcd (content p) c.natAbs := by
  simp [content, List.foldl_append]
theorem content_pos {p : List Int} {c : Int} (h : c ∈ p) (n : c ≠ 0) : 0 < content p := by
  rcases Nat.eq_zero_or_pos (content p) with z | z
  · exact absurd (content_eq_zero z c h) n
  · exact z
theorem map_self {α : Type} {f : α → α} : ∀ {l : List α}, (∀ x ∈ l, f x = x) → l.map f = l
  | [], _ => rfl
  | a :: l, h => by
    rw [List.map_cons, h a List.mem_cons_self, map_self fun x hx => h x (List.mem_cons_of_mem _ hx)]
theorem prI_mul {p : List Int} (_ : 0 < content p) : p = (prI p).map fun a => (content p : Int) * a := by
  unfold prI
  rw [List.map_map]
  refine (map_self fun c hc => ?_).symm
  have := ndvd.mpr (content_dvd hc)
  show (content p : Int) * (c / (content p : Int)) = c
  exact Int.mul_ediv_cancel' this
theorem content_map_mul (d : Nat) : ∀ (p : List Int), content (p.map fun a => (d : Int) * a) = d * content p := by
  have g : ∀ (p : List Int) (a : Nat), (p.map fun a => (d : Int) * a).foldl (fun d c => Nat.gcd d c.natAbs) (d * a) = d * p.foldl (fun d c => Nat.gcd d c.natAbs) a := by
    intro p
    induction p with
    | nil => intro a; rfl
    | cons c p ih =>
      intro a
      rw [List.map_cons, List.foldl_cons, List.foldl_cons, Int.natAbs_mul, Int.natAbs_natCast, Nat.gcd_mul_left]
      exact ih _
  intro p
  have := g p 0
  rwa [Nat.mul_zero] at this
theorem prI_prim {p : List Int} (h : 0 < content p) : Prim (prI p) := by
  have e := congrArg content (prI_mul h)
  rw [content_map_mul] at e
  unfold Prim
  have : content p * content (prI p) = content p * 1 := by omega
  exact Nat.eq_of_mul_eq_mul_left h this
theorem prI_len (p : List Int) : (prI p).length = p.length := by simp [prI]
theorem prI_ev {p : List Int} (h : 0 < content p) (x : Rat) : ev (zr p) x = (content p : Rat) * ev (zr (prI p)) x := by
  have e := prI_mul h
  have := ev_zr_mul (content p : Int) (prI p) x
  rw [← e] at this
  rw [this]; rfl
theorem prI_ht {p : List Int} {b : Nat} (h : Ht p b) : Ht (prI p) b := fun c hc => by
  obtain ⟨a, ha, rfl⟩ := List.mem_map.mp hc
  refine Nat.le_trans ?_ (h a ha)
  show (a / (content p : Int)).natAbs ≤ a.natAbs
  exact Int.natAbs_ediv_le_natAbs _ _
theorem nz_of_tr {p : List Int} (t : Tr (zr p)) (n : p ≠ []) : 0 < content p := by
  have h := t.ld (fun z => n (zr_nil_iff.mp z))
  obtain ⟨c, hc, e⟩ := List.mem_map.mp (ld_mem (fun z => n (zr_nil_iff.mp z)))
  refine content_pos hc fun z => h ?_
  rw [← e, z]; rfl
theorem prI_tr {p : List Int} (t : Tr (zr p)) (n : p ≠ []) : Tr (zr (prI p)) := by
  have h := nz_of_tr t n
  refine tr_of (s := zr p) (S := prI p) (c := (content p : Rat)) t ?_ ?_ (prI_ev h)
  · have : ((0 : Nat) : Rat) < (content p : Rat) := Rat.natCast_lt_natCast.mpr h
    exact this
  · rw [prI_len, zr_len]
def sdJ (a : List Int) (f : Int) (b : List Int) (j : Nat) : List Int := (List.range a.length).map fun i => cf a i - (if a.length - b.length ≤ i ∧ i < a.length - b.length + j then f * cf b (i - (a.length - b.length)) else 0)
def sdI (a : List Int) (f : Int) (b : List Int) : List Int := sdJ a f b b.length
theorem sdJ_len (a : List Int) (f : Int) (b : List Int) (j : Nat) : (sdJ a f b j).length = a.length := by simp [sdJ]
theorem sdJ_at {a : List Int} {f : Int} {b : List Int} {j i : Nat} (h : i < a.length) : (sdJ a f b j)[i]? = some (cf a i - (if a.length - b.length ≤ i ∧ i < a.length - b.length + j then f * cf b (i - (a.length - b.length)) else 0)) := by
  simp [sdJ, h]
theorem cf_at {p : List Int} {i : Nat} {x : Int} (h : p[i]? = some x) : cf p i = x := by simp [cf, h]
theorem cf_get {p : List Int} {i : Nat} (h : i < p.length) : p[i]? = some (cf p i) := by simp [cf, h]
theorem sdJ_zero (a : List Int) (f : Int) (b : List Int) : sdJ a f b 0 = a := by
  refine List.ext_getElem? fun i => ?_
  by_cases h : i < a.length
  · rw [sdJ_at h, if_neg (by omega), cf_get h]; simp
  · rw [List.getElem?_eq_none (by rw [sdJ_len]; omega), List.getElem?_eq_none (by omega)]
theorem sdJ_step {a : List Int} {f : Int} {b : List Int} {j : Nat} {c : Int} (h : b.length ≤ a.length) (hj : b[j]? = some c) :
    (sdJ a f b j)[a.length - b.length + j]? = some (cf a (a.length - b.length + j)) ∧ (sdJ a f b j).set (a.length - b.length + j) (cf a (a.length - b.length + j) - f * c) = sdJ a f b (j + 1) := by
  have l := (List.getElem?_eq_some_iff.mp hj).1
  refine ⟨?_, ?_⟩
  · rw [sdJ_at (by omega), if_neg (by omega)]; simp
  · refine List.ext_getElem? fun i => ?_
    by_cases e : i = a.length - b.length + j
    · subst e
      rw [List.getElem?_set_self (by rw [sdJ_len]; omega), sdJ_at (by omega), if_pos (by omega), show a.length - b.length + j - (a.length - b.length) = j by omega, cf_at hj]
    · rw [List.getElem?_set_ne (by omega)]
      by_cases hi : i < a.length
      · rw [sdJ_at hi, sdJ_at hi]
        by_cases q : a.length - b.length ≤ i ∧ i < a.length - b.length + j
        · rw [if_pos q, if_pos (by omega)]
        · rw [if_neg q, if_neg (by omega)]
      · rw [List.getElem?_eq_none (by rw [sdJ_len]; omega), List.getElem?_eq_none (by rw [sdJ_len]; omega)]
theorem sdI_len (a : List Int) (f : Int) (b : List Int) : (sdI a f b).length = a.length := sdJ_len _ _ _ _
theorem zr_tab (f : Nat → Int) (n : Nat) : zr ((List.range n).map f) = tab (fun i => (f i : Rat)) n := by
  simp [zr, tab, List.map_map, Function.comp_def]
theorem coef_zs (p : List Rat) : ∀ (k i : Nat), Kqg1.coefficient (zs k p) i = if i < k then 0 else Kqg1.coefficient p (i - k)
  | 0, i => by rw [if_neg (by omega)]; rfl
  | k + 1, i => by
    rw [zs_succ]
    cases i with
    | zero => rw [coef_zero, if_pos (by omega)]
    | succ i =>
      rw [coef_succ, coef_zs p k i]
      by_cases h : i < k
      · rw [if_pos h, if_pos (by omega)]
      · rw [if_neg h, if_neg (by omega)]; congr 1; omega
theorem zs_len (k : Nat) (p : List Rat) : (zs k p).length = k + p.length := by simp [zs]
theorem sdI_ev {a : List Int} {f : Int} {b : List Int} (h : b.length ≤ a.length) (x : Rat) : ev (zr (sdI a f b)) x = ev (zr a) x - (f : Rat) * ev (zs (a.length - b.length) (zr b)) x := by
  have e1 : zr (sdI a f b) = tab (fun i => Kqg1.coefficient (zr a) i + (-(f : Rat)) * Kqg1.coefficient (zs (a.length - b.length) (zr b)) i) a.length := by
    unfold sdI sdJ
    rw [zr_tab]
    refine List.map_congr_left fun i hi => ?_
    have hi : i < a.length := by simpa using hi
    rw [coef_zr, coef_zs, coef_zr]
    by_cases q : a.length - b.length ≤ i
    · rw [if_pos ⟨q, by omega⟩, if_neg (by omega), Rat.intCast_sub, Rat.intCast_mul]; grind
    · rw [if_neg (by omega), if_pos (by omega), Rat.intCast_sub]; simp; grind
  rw [e1, ev_tab_add, ev_tab_mul, ev_tab_coef _ _ (by rw [zr_len]; omega), ev_tab_coef _ _ (by rw [zs_len, zr_len]; omega)]
  grind
end Kv
namespace Kv
def lc (p : List Int) : Int := p.getLast?.getD 0
theorem lc_ld (p : List Int) : ld (zr p) = (lc p : Rat) := by
  unfold ld Kqg1.leadingCoefficient lc zr
  rw [List.getLast?_map]
  cases p.getLast? <;> rfl
theorem lc_cf {p : List Int} (h : p ≠ []) : p[p.length - 1]? = some (lc p) := by
  unfold lc
  rw [← List.getLast?_eq_getElem?]
  cases e : p.getLast? with
  | none => rw [List.getLast?_eq_none_iff] at e; exact absurd e h
  | some x => rfl
theorem lc_ne {p : List Int} (t : Tr (zr p)) (h : p ≠ []) : lc p ≠ 0 := fun z => by
  have := t.ld (fun q => h (zr_nil_iff.mp q))
  rw [lc_ld, z] at this
  exact this rfl
theorem lc_mem {p : List Int} (h : p ≠ []) : lc p ∈ p := List.mem_of_getElem? (lc_cf h)
theorem lc_tr {p : List Int} (h : lc p ≠ 0) : Tr (zr p) := .inr (by rw [lc_ld]; exact_mod_cast h)
theorem ht_le {p : List Int} {a b : Nat} (h : Ht p a) (k : a ≤ b) : Ht p b := h.mono k
structure RemI (a b r : List Int) : Prop where
  tr : Tr (zr r)
  eq : ∃ (k : Rat) (q : List Rat), 0 < k ∧ ∀ x, k * ev (zr a) x = ev q x * ev (zr b) x + ev (zr r) x
theorem RemI.start {a b : List Int} (t : Tr (zr a)) : RemI a b a := ⟨t, 1, [], by decide, fun x => by rw [ev_nil]; grind⟩
theorem map_mul_len (c : Int) (p : List Int) : (p.map fun a => c * a).length = p.length := by simp
theorem cf_map_mul (c : Int) : ∀ (p : List Int) (i : Nat), cf (p.map fun a => c * a) i = c * cf p i
  | [], i => by simp [cf]
  | a :: p, 0 => by simp [cf]
  | a :: p, i + 1 => by
    rw [List.map_cons, cf_succ, cf_succ]; exact cf_map_mul c p i
theorem RemI.step {a b r r' : List Int} {sc sn : Int} (h : RemI a b r) (nb : b ≠ []) (tb : Tr (zr b)) (hs : sc = sn * lc b) (h0 : 0 < sc) (l : b.length ≤ r.length)
    (e : zr r' = Kqg1.trim (zr (sdI (r.map fun c => sc * c) (sn * lc r) b))) : RemI a b r' ∧ r'.length < r.length := by
  have nr : r ≠ [] := fun z => by rw [z] at l; exact nb (List.length_eq_zero_iff.mp (by simpa using l))
  have lr := List.length_pos_iff.mpr nr
  have l' : b.length ≤ (r.map fun c => sc * c).length := by rw [map_mul_len]; exact l
  have sp : (0 : Rat) < (sc : Rat) := by exact_mod_cast h0
  refine ⟨⟨by rw [e]; exact tr_trim _, ?_⟩, ?_⟩
  · obtain ⟨k, q, hk, hq⟩ := h.eq
    refine ⟨(sc : Rat) * k, padd (psc (sc : Rat) q) (psc ((sn * lc r : Int) : Rat) (zs ((r.map fun c => sc * c).length - b.length) [1])), mul_ps sp hk, fun x => ?_⟩
    have e1 := sdI_ev (f := sn * lc r) l' x
    have e2 := ev_zr_mul sc r x
    have e3 := ev_zs_mul [1] (zr b) (zr b) (fun x => by rw [ev_one]; grind) ((r.map fun c => sc * c).length - b.length) x
    have e4 := hq x
    rw [e, ev_trim, e1, e2, ev_padd, ev_psc, ev_psc, e3]
    grind
  · have : r'.length = (Kqg1.trim (zr (sdI (r.map fun c => sc * c) (sn * lc r) b))).length := by rw [← e, zr_len]
    rw [this]
    have len : (zr (sdI (r.map fun c => sc * c) (sn * lc r) b)).length = r.length := by rw [zr_len, sdI_len, map_mul_len]
    have ne : sdI (r.map fun c => sc * c) (sn * lc r) b ≠ [] := fun z => by
      rw [z] at len; simp at len; omega
    rw [← len]
    refine trim_len_lt (fun z => ne (zr_nil_iff.mp z)) ?_
    rw [lc_ld]
    have c1 := lc_cf ne
    rw [sdI_len, map_mul_len] at c1
    unfold sdI at c1
    have lb := List.length_pos_iff.mpr nb
    rw [sdJ_at (by rw [map_mul_len]; omega), map_mul_len, if_pos (by omega), show r.length - 1 - (r.length - b.length) = b.length - 1 by omega, cf_map_mul, cf_at (lc_cf nr), cf_at (lc_cf nb)] at c1
    have c2 := Option.some.inj c1
    have : lc (sdI (r.map fun c => sc * c) (sn * lc r) b) = 0 := by
      unfold sdI
      rw [← c2, hs]
      have : sn * lc b * lc r - sn * lc r * lc b = 0 := by
        rw [Int.mul_assoc, Int.mul_assoc, Int.mul_comm (lc b)]; omega
      exact this
    rw [this]; rfl
theorem natAbs_le_two {a b : Int} {h : Nat} (ha : a.natAbs ≤ 2 ^ h) (hb : b.natAbs ≤ 2 ^ h) : (a - b).natAbs ≤ 2 ^ (h + 1) := by
  rw [Nat.pow_succ]; omega
theorem mul_ht {a b : Int} {m n : Nat} (ha : a.natAbs ≤ 2 ^ m) (hb : b.natAbs ≤ 2 ^ n) : (a * b).natAbs ≤ 2 ^ (m + n) := by
  rw [Int.natAbs_mul, Nat.pow_add]
  exact Nat.mul_le_mul ha hb
theorem sdI_ht {a b : List Int} {f : Int} {h g m : Nat} (ha : Ht a h) (hf : f.natAbs ≤ 2 ^ g) (hb : Ht b m) (k : g + m ≤ h) : Ht (sdI a f b) (h + 1) := fun c hc => by
  unfold sdI sdJ at hc
  obtain ⟨i, hi, rfl⟩ := List.mem_map.mp hc
  have hi : i < a.length := by simpa using hi
  refine natAbs_le_two (ha _ (cf_mem hi)) ?_
  by_cases q : a.length - b.length ≤ i ∧ i < a.length - b.length + b.length
  · rw [if_pos q]
    exact Nat.le_trans (mul_ht hf (hb _ (cf_mem (by omega)))) (Nat.pow_le_pow_right (by omega) k)
  · rw [if_neg q]
    exact Nat.zero_le _
theorem map_ht {p : List Int} {c : Int} {h g : Nat} (hp : Ht p h) (hc : c.natAbs ≤ 2 ^ g) : Ht (p.map fun a => c * a) (g + h) := fun x hx => by
  obtain ⟨a, ha, rfl⟩ := List.mem_map.mp hx
  exact mul_ht hc (hp a ha)
theorem step_ht {b r r' : List Int} {sc sn : Int} {h g n : Nat} (hr : Ht r h) (hb : Ht b g) (nb : b ≠ []) (nr : r ≠ []) (hs : sc.natAbs = (lc b).natAbs) (h1 : sn.natAbs = 1)
    (e : r' = (sdI (r.map fun c => sc * c) (sn * lc r) b).take n) : Ht r' (h + (g + 1)) := by
  have k := sdI_ht (a := r.map fun c => sc * c) (f := sn * lc r) (h := g + h) (g := h) (map_ht hr (by rw [hs]; exact hb _ (lc_mem nb))) (by rw [Int.natAbs_mul, h1, Nat.one_mul]; exact hr _ (lc_mem nr)) hb (by omega)
  intro c hc
  rw [e] at hc
  have := k c (List.mem_of_mem_take hc)
  rwa [show g + h + 1 = h + (g + 1) by omega] at this
structure RemP (a b r : List Int) (h : Nat) : Prop where
  tr : Tr (zr r)
  len : r.length < b.length
  prim : r = [] ∨ Prim r
  eq : ∃ (k c : Rat) (q : List Rat), 0 < k ∧ 0 < c ∧ ∀ x, k * ev (zr a) x = ev q x * ev (zr b) x + c * ev (zr r) x
  ht : Ht r h
theorem RemI.fin {a b r : List Int} {h : Nat} (k : RemI a b r) (l : r.length < b.length) (hr : Ht r h) : RemP a b (prI r) h := by
  by_cases n : r = []
  · subst n
    obtain ⟨c, q, hc, e⟩ := k.eq
    exact ⟨.nil, l, .inl rfl, ⟨c, 1, q, hc, by decide, fun x => by rw [e]; show _ = _ + 1 * ev (zr []) x; grind⟩, fun c hc => by simp [prI] at hc⟩
  · have cp := nz_of_tr k.tr n
    obtain ⟨c, q, hc, e⟩ := k.eq
    refine ⟨prI_tr k.tr n, by rw [prI_len]; exact l, .inr (prI_prim cp), ⟨c, (content r : Rat), q, hc, by exact_mod_cast cp, fun x => by rw [e, prI_ev cp]⟩, prI_ht hr⟩
theorem RemI.cond {a b r : List Int} (k : RemI a b r) : r = [] ∨ 0 < content r := by
  by_cases n : r = []
  · exact .inl n
  · exact .inr (nz_of_tr k.tr n)
theorem RemP.gcd {a b r : List Int} {h : Nat} (k : RemP a b r h) {g : List Rat} (G : Gcd g (zr b) (zr r)) : Gcd g (zr a) (zr b) := by
  obtain ⟨c, d, q, hc, hd, e⟩ := k.eq
  refine ⟨?_, G.l, ?_⟩
  · refine Dv.comb (u := psc (1 / c) q) (v := [d / c]) G.l G.r fun x => ?_
    have := e x
    rw [ev_psc, ev_one]
    grind
  · obtain ⟨u, v, b⟩ := G.b
    refine ⟨psc (c / d) v, padd u (psc (-(1 / d)) (pmul v q)), fun x => ?_⟩
    have := e x
    have := b x
    rw [ev_padd, ev_psc, ev_psc, ev_pmul]
    grind
theorem Gcd.self (p : List Rat) : Gcd p p [] := ⟨Dv.rfl' p, Dv.zero fun x => ev_nil x, [1], [], fun x => by rw [ev_one, ev_nil]; grind⟩
theorem Gcd.scale {g g' p q : List Rat} {c : Rat} (hc : c ≠ 0) (e : ∀ x, ev g x = c * ev g' x) (G : Gcd g p q) : Gcd g' p q := by
  refine ⟨?_, ?_, ?_⟩
  · obtain ⟨w, hw⟩ := G.l
    exact ⟨psc c w, fun x => by rw [hw, e, ev_psc]; grind⟩
  · obtain ⟨w, hw⟩ := G.r
    exact ⟨psc c w, fun x => by rw [hw, e, ev_psc]; grind⟩
  · obtain ⟨u, v, b⟩ := G.b
    exact ⟨psc (1 / c) u, psc (1 / c) v, fun x => by have := b x; have := e x; rw [ev_psc, ev_psc]; grind⟩
def Fb (c l : Nat) : Nat := c * 3 ^ (7 - l)
theorem Fb_ge (c l : Nat) : c ≤ Fb c l := Nat.le_mul_of_pos_right _ (Nat.pow_pos (by omega))
theorem Fb_mono {c l m : Nat} (h : l ≤ m) : Fb c m ≤ Fb c l := Nat.mul_le_mul_left _ (Nat.pow_le_pow_right (by omega) (by omega))
theorem Fb_zero (c l : Nat) : Fb c l ≤ 2187 * c := by
  have := Fb_mono (c := c) (Nat.zero_le l)
  unfold Fb at this ⊢
  simp at this ⊢
  omega
structure Siz (h : Nat) (L S : List Int) : Prop where
  l7 : L.length ≤ 7
  s7 : S.length ≤ 7
  ht : (Ht L h ∧ Ht S h) ∨ (S.length < L.length ∧ Ht L (Fb (2 * h + 1) L.length) ∧ Ht S (Fb (2 * h + 1) (L.length - 1)))
theorem Siz.top {h : Nat} {L S : List Int} (k : Siz h L S) : Ht L (2187 * (2 * h + 1)) ∧ Ht S (2187 * (2 * h + 1)) := by
  rcases k.ht with ⟨a, b⟩ | ⟨_, a, b⟩
  · exact ⟨ht_le a (by omega), ht_le b (by omega)⟩
  · exact ⟨ht_le a (Fb_zero _ _), ht_le b (Fb_zero _ _)⟩
theorem Siz.step {h : Nat} {L S : List Int} (k : Siz h L S) (n : 0 < S.length) : ∃ a b : Nat, Ht L a ∧ Ht S b ∧ a ≤ 2187 * (2 * h + 1) ∧ b ≤ 2187 * (2 * h + 1) ∧
    ∀ r : List Int, r.length < S.length → Ht r (a + (L.length + 1 - S.length) * (b + 1)) → Siz h S r := by
  have l7 := k.l7
  have s7 := k.s7
  rcases k.ht with ⟨h1, h2⟩ | ⟨h0, h1, h2⟩
  · refine ⟨h, h, h1, h2, by omega, by omega, fun r hl hr => ⟨s7, by omega, .inr ⟨hl, ht_le h2 (Nat.le_trans (by omega) (Fb_ge _ _)), ht_le hr ?_⟩⟩⟩
    unfold Fb
    obtain ⟨m, hm⟩ : ∃ m, L.length + 1 - S.length = m := ⟨_, rfl⟩
    rw [hm]
    have m7 : m ≤ 7 := by omega
    have e : 3 ^ m ≤ 3 ^ (7 - (S.length - 1)) := Nat.pow_le_pow_right (by omega) (by omega)
    refine Nat.le_trans ?_ (Nat.mul_le_mul_left _ e)
    rcases (by omega : m = 0 ∨ m = 1 ∨ m = 2 ∨ m = 3 ∨ m = 4 ∨ m = 5 ∨ m = 6 ∨ m = 7) with e | e | e | e | e | e | e | e <;> subst e <;> omega
  · refine ⟨_, _, h1, h2, Fb_zero _ _, Fb_zero _ _, fun r hl hr => ⟨s7, by omega, .inr ⟨hl, ht_le h2 (Fb_mono (by omega)), ht_le hr ?_⟩⟩⟩
    unfold Fb
    obtain ⟨m, hm⟩ : ∃ m, L.length + 1 - S.length = m := ⟨_, rfl⟩
    rw [hm]
    have m7 : m ≤ 7 := by omega
    have e1 : 7 - (L.length - 1) = (7 - L.length) + 1 := by omega
    have e2 : 7 - (S.length - 1) = (7 - L.length) + m := by omega
    rw [e1, e2, Nat.pow_succ, Nat.pow_add]
    have p := Nat.pow_pos (a := 3) (n := 7 - L.length) (by omega)
    generalize 3 ^ (7 - L.length) = t at p
    have q : 1 ≤ (2 * h + 1) * t := Nat.mul_pos (by omega) p
    rw [← Nat.mul_assoc (2 * h + 1) t 3, ← Nat.mul_assoc (2 * h + 1) t (3 ^ m)]
    generalize (2 * h + 1) * t = u at q
    rcases (by omega : m = 2 ∨ m = 3 ∨ m = 4 ∨ m = 5 ∨ m = 6 ∨ m = 7) with e | e | e | e | e | e <;> subst e <;> omega
end Kv
namespace Kv
theorem ic_nil_right : ∀ (p : List Int) (i : Nat), ic p [] i = 0
  | [], i => by rw [ic]
  | a :: p, 0 => by rw [ic, cf_nil]; omega
  | a :: p, i + 1 => by rw [ic, cf_nil, ic_nil_right p i]; omega
theorem ic_top : ∀ (n m : Nat) (p q : List Int), p.length = m + 1 → q.length = n + 1 → ic p q (m + n) = cf p m * cf q n
  | n, m, p, [], _, h => by simp at h
  | 0, m, p, [b], hp, _ => by
    rw [cf_zero]
    match m, p, hp with
    | 0, [a], _ => rw [ic, cf_zero, cf_zero]
    | m + 1, a :: p, h => rw [Nat.add_zero, ic_right, ic_nil_right]; omega
  | 0, m, p, _ :: _ :: _, _, h => by simp at h
  | n + 1, m, p, b :: q, hp, hq => by
    rw [show m + (n + 1) = (m + n) + 1 by omega, ic_right, cf_out (by omega), ic_top n m p q hp (by simpa using hq), cf_succ]; omega
structure ExQ (b W rest : List Int) (t : Nat) : Prop where
  tw : t ≤ W.length
  len : rest.length + 1 = b.length + t
  eq : ∀ x, ev (zr rest) x = ev (zr b) x * ev (zr (W.take t)) x
theorem ExQ.top {b W rest : List Int} {t : Nat} (h : ExQ b W rest (t + 1)) (nb : b ≠ []) : cf rest (rest.length - 1) = lc b * cf W t := by
  have lb := List.length_pos_iff.mpr nb
  have e := ic_of_ev (p := b) (q := W.take (t + 1)) (r := rest) (d := 1) (c := 1) (fun x => by rw [h.eq]) (rest.length - 1)
  have l := h.len
  have tw := h.tw
  have k := ic_top t (b.length - 1) b (W.take (t + 1)) (by omega) (by rw [List.length_take]; omega)
  rw [show b.length - 1 + t = rest.length - 1 by omega] at k
  rw [k, cf_at (lc_cf nb)] at e
  have e2 : cf (W.take (t + 1)) t = cf W t := by
    unfold cf
    rw [List.getD_eq_getElem?_getD, List.getD_eq_getElem?_getD, List.getElem?_take, if_pos (by omega)]
  rw [e2] at e
  have : ((cf rest (rest.length - 1) : Int) : Rat) = ((lc b * cf W t : Int) : Rat) := by grind
  exact_mod_cast this
theorem zr_append (p q : List Int) : zr (p ++ q) = zr p ++ zr q := by simp [zr]
theorem ev_snoc_zero (p : List Rat) (x : Rat) : ev (p ++ [0]) x = ev p x := by
  rw [← ev_trim, trim_snoc, ev_trim]
theorem ev_take_last {p : List Int} {n : Nat} (h : p[n]? = some 0) (l : p.length = n + 1) (x : Rat) : ev (zr (p.take n)) x = ev (zr p) x := by
  have e : p = p.take n ++ [0] := by
    rw [← take_last h, ← l, List.take_length]
  have : ev (zr p) x = ev (zr (p.take n) ++ [0]) x := by
    rw [e, zr_append, List.take_left' (by rw [List.length_take]; omega)]
    rfl
  rw [this, ev_snoc_zero]
theorem zs_one_snoc : ∀ (q : List Rat) (c x : Rat), ev (q ++ [c]) x = ev q x + c * ev (zs q.length [1]) x
  | [], c, x => by
    show ev [c] x = ev [] x + c * ev [1] x
    rw [ev_one, ev_nil, ev_one]; grind
  | a :: q, c, x => by
    have := zs_one_snoc q c x
    rw [List.cons_append, ev_cons, this, List.length_cons, zs_succ, ev_cons, ev_cons]
    grind
theorem ExQ.step {b W rest : List Int} {t : Nat} (h : ExQ b W rest (t + 1)) (nb : b ≠ []) : ExQ b W ((sdI rest (cf W t) b).take (rest.length - 1)) t := by
  have lb := List.length_pos_iff.mpr nb
  have l := h.len
  have tw := h.tw
  have len : (sdI rest (cf W t) b).length = rest.length := sdI_len _ _ _
  have hl : b.length ≤ rest.length := by omega
  have last : (sdI rest (cf W t) b)[rest.length - 1]? = some 0 := by
    unfold sdI
    rw [sdJ_at (by omega), if_pos (by omega), show rest.length - 1 - (rest.length - b.length) = b.length - 1 by omega, h.top nb, cf_at (lc_cf nb)]
    congr 1
    rw [Int.mul_comm (cf W t)]; omega
  refine ⟨by omega, by rw [List.length_take, len]; omega, fun x => ?_⟩
  rw [ev_take_last last (by omega), sdI_ev hl, h.eq]
  have hw : W[t]? = some (cf W t) := cf_get (by omega)
  have e1 : ev (zr (W.take (t + 1))) x = ev (zr (W.take t)) x + (cf W t : Rat) * ev (zs t [1]) x := by
    rw [take_last hw, zr_append]
    have := zs_one_snoc (zr (W.take t)) (cf W t : Rat) x
    rw [zr_len, List.length_take, Nat.min_eq_left (by omega)] at this
    exact this
  have e2 := ev_zs_mul [1] (zr b) (zr b) (fun x => by rw [ev_one]; grind) t x
  rw [e1, show rest.length - b.length = t by omega, e2]
  grind
theorem ExQ.start {a b : List Int} (ta : Tr (zr a)) (na : a ≠ []) (tb : Tr (zr b)) (pb : Prim b) (d : Dv (zr b) (zr a)) : ∃ W : List Int, ExQ b W a W.length ∧ Tr (zr W) ∧ W ≠ [] ∧ ∀ x, ev (zr a) x = ev (zr b) x * ev (zr W) x := by
  obtain ⟨w, tw, e⟩ := d.tr
  obtain ⟨W, lw, ew⟩ := whole_quotient pb e
  have nw : w ≠ [] := fun z => na (zr_nil_iff.mp (tr_zero ta fun x => by rw [e, z, ev_nil]; grind))
  have zw : zr W = w := by
    have t2 : Tr (zr W) := by
      refine .inr ?_
      intro z
      have l := trim_len_lt (p := zr W) (fun q => nw (by rw [zr_nil_iff] at q; rw [q] at lw; exact List.length_eq_zero_iff.mp lw.symm)) z
      have : Kqg1.trim (zr W) = w := same_of_ev (tr_trim _) tw fun x => by rw [ev_trim, ew]
      rw [this, zr_len] at l
      omega
    exact same_of_ev t2 tw fun x => (ew x).symm
  have nb : zr b ≠ [] := fun z => na (zr_nil_iff.mp (tr_zero ta fun x => by rw [e, z, ev_nil]; grind))
  have ml := (Tr.mul_len tb tw ta nb nw e).1
  rw [zr_len, zr_len] at ml
  have e' : ∀ x, ev (zr a) x = ev (zr b) x * ev (zr W) x := fun x => by rw [e, zw]
  refine ⟨W, ⟨Nat.le_refl _, by omega, fun x => by rw [List.take_length, e']⟩, by rw [zw]; exact tw, fun z => nw (by rw [z] at lw; exact List.length_eq_zero_iff.mp lw.symm), e'⟩
theorem prim_factor {a b W : List Int} (pa : Prim a) (e : ∀ x, ev (zr a) x = ev (zr b) x * ev (zr W) x) : Prim b ∧ Prim W := by
  have key : ∀ k, cf a k = ic b W k := fun k => by
    have := ic_of_ev (p := b) (q := W) (r := a) (d := 1) (c := 1) (fun x => by rw [e]) k
    have : ((cf a k : Int) : Rat) = ((ic b W k : Int) : Rat) := by grind
    exact_mod_cast this
  have dv : ∀ (d : Int) (p q : List Int), (∀ c ∈ p, d ∣ c) → ∀ k, d ∣ ic p q k := by
    intro d p
    induction p with
    | nil => intro q _ k; rw [ic]; exact Int.dvd_zero _
    | cons a p ih =>
      intro q h k
      have h1 := h a List.mem_cons_self
      match k with
      | 0 => rw [ic]; exact Int.dvd_mul_of_dvd_left h1
      | k + 1 => rw [ic]; exact Int.dvd_add (Int.dvd_mul_of_dvd_left h1) (ih q (fun c hc => h c (List.mem_cons_of_mem _ hc)) k)
  have dv2 : ∀ (d : Int) (p q : List Int), (∀ i, d ∣ cf q i) → ∀ k, d ∣ ic p q k := by
    intro d p
    induction p with
    | nil => intro q _ k; rw [ic]; exact Int.dvd_zero _
    | cons a p ih =>
      intro q h k
      match k with
      | 0 => rw [ic]; exact Int.dvd_mul_of_dvd_right (h 0)
      | k + 1 => rw [ic]; exact Int.dvd_add (Int.dvd_mul_of_dvd_right (h _)) (ih q h k)
  have one : ∀ d : Nat, (∀ k, (d : Int) ∣ cf a k) → d = 1 := fun d h => by
    have : d ∣ content a := dvd_content.mpr fun c hc => ndvd.mp (all_cf h c hc)
    rw [pa] at this
    exact Nat.dvd_one.mp this
  constructor
  · refine one (content b) fun k => ?_
    rw [key]
    exact dv _ b W (fun c hc => ndvd.mpr (content_dvd hc)) k
  · refine one (content W) fun k => ?_
    rw [key]
    refine dv2 _ b W (fun i => ?_) k
    by_cases h : i < W.length
    · exact ndvd.mpr (content_dvd (cf_mem h))
    · rw [cf_out (by omega)]; exact Int.dvd_zero _
def svp (n d : Int) : List Int → Int
  | [] => 0
  | c :: q => svp n d q * n + c * d ^ q.length
theorem svp_ev {n d : Int} (hd : 0 < d) : ∀ (p : List Int), ((svp n d p : Int) : Rat) * (d : Rat) = ev (zr p) ((n : Rat) / (d : Rat)) * (d : Rat) ^ p.length
  | [] => by rw [svp, zr, List.map_nil, ev_nil]; simp
  | c :: p => by
    have ih := svp_ev (n := n) hd p
    have d0 : (d : Rat) ≠ 0 := by
      have : (0 : Rat) < (d : Rat) := by exact_mod_cast hd
      grind
    rw [svp]
    show _ = ev ((c : Rat) :: zr p) _ * _
    rw [ev_cons, Rat.intCast_add, Rat.intCast_mul, Rat.intCast_mul, Rat.intCast_pow, List.length_cons, Rat.pow_succ]
    have e : (n : Rat) / (d : Rat) * (d : Rat) = (n : Rat) := div_mul_self d0
    grind
theorem pow_pos' {d : Rat} (h : 0 < d) : ∀ n : Nat, 0 < d ^ n
  | 0 => by rw [Rat.pow_zero]; decide
  | n + 1 => by rw [Rat.pow_succ]; exact mul_ps (pow_pos' h n) h
theorem svp_sg {n d : Int} (hd : 0 < d) (p : List Int) : sg ((svp n d p : Int) : Rat) = sg (ev (zr p) ((n : Rat) / (d : Rat))) := by
  have h : (0 : Rat) < (d : Rat) := by exact_mod_cast hd
  have e := congrArg sg (svp_ev (n := n) hd p)
  rw [sg_mul, sg_mul, sg_pos h, sg_pos (pow_pos' h _)] at e
  omega
theorem pow_ht {d : Int} {b : Nat} (h : d.natAbs ≤ 2 ^ b) : ∀ n : Nat, (d ^ n).natAbs ≤ 2 ^ (n * b)
  | 0 => by simp
  | n + 1 => by
    rw [Int.pow_succ, Nat.succ_mul]
    exact mul_ht (pow_ht h n) h
theorem add_ht {a b : Int} {h : Nat} (ha : a.natAbs ≤ 2 ^ h) (hb : b.natAbs ≤ 2 ^ h) : (a + b).natAbs ≤ 2 ^ (h + 1) := by
  rw [Nat.pow_succ]; omega
theorem pow_up {a m n : Nat} (h : a ≤ 2 ^ m) (k : m ≤ n) : a ≤ 2 ^ n := Nat.le_trans h (Nat.pow_le_pow_right (by omega) k)
theorem svp_ht {n d : Int} {h b : Nat} (hn : n.natAbs ≤ 2 ^ b) (hd : d.natAbs ≤ 2 ^ b) : ∀ (p : List Int), Ht p h → (svp n d p).natAbs ≤ 2 ^ (h + p.length * (b + 1))
  | [], _ => by rw [svp]; exact Nat.zero_le _
  | c :: p, k => by
    have ih := svp_ht hn hd p fun x hx => k x (List.mem_cons_of_mem _ hx)
    have e1 := mul_ht ih hn
    have e2 := mul_ht (k c List.mem_cons_self) (pow_ht hd p.length)
    rw [svp, List.length_cons, Nat.succ_mul]
    have e3 : h + p.length * b ≤ h + p.length * (b + 1) + b := by rw [Nat.mul_add]; omega
    exact pow_up (add_ht e1 (pow_up e2 e3)) (by omega)
end Kv
namespace Kv
theorem pow_60 : 27 ^ 7 * 13 ^ 7 ≤ 2 ^ 60 := by decide +kernel
theorem tr_nz {p : List Int} (t : Tr (zr p)) (n : p ≠ []) : ¬ ∀ x, ev (zr p) x = 0 := fun z => n (zr_nil_iff.mp (tr_zero t z))
theorem factor_ht {a b W : List Int} {h : Nat} (t : Tr (zr a)) (n : a ≠ []) (la : a.length ≤ 7) (lb : b.length ≤ 7) (ha : Ht a h) (e : ∀ x, ev (zr a) x = ev (zr b) x * ev (zr W) x) : Ht b (h + 60) := fun c hc => by
  have k := divisor_bound (H := 2 ^ h) la lb ha (tr_nz t n) e c hc
  refine Nat.le_trans k ?_
  rw [Nat.pow_add]
  have := Nat.mul_le_mul_left (2 ^ h) pow_60
  refine Nat.le_trans (Nat.le_of_eq ?_) this
  rw [Nat.mul_left_comm]
theorem drop_rev {W : List Int} {t : Nat} (h : t < W.length) : (W.drop (t + 1)).reverse ++ [cf W t] = (W.drop t).reverse := by
  have e : W.drop t = cf W t :: W.drop (t + 1) := by
    rw [List.drop_eq_getElem_cons h]
    congr 1
    simp [cf, h]
  rw [e, List.reverse_cons]
theorem drop_svp {n d : Int} {p : List Int} {i : Nat} (h : i < p.length) : svp n d (p.drop (p.length - (i + 1))) = svp n d (p.drop (p.length - i)) * n + cf p (p.length - 1 - i) * d ^ i := by
  have e : p.drop (p.length - (i + 1)) = cf p (p.length - 1 - i) :: p.drop (p.length - i) := by
    rw [List.drop_eq_getElem_cons (show p.length - (i + 1) < p.length by omega), show p.length - (i + 1) + 1 = p.length - i by omega]
    congr 1
    rw [show p.length - 1 - i = p.length - (i + 1) by omega]
    simp [cf, show p.length - (i + 1) < p.length by omega]
  rw [e, svp, List.length_drop, show p.length - (p.length - i) = i by omega]
end Kv
namespace Kv
def R3 (f g h : List Rat) : Prop := ∃ (k d : Rat) (q : List Rat), 0 < k ∧ 0 < d ∧ ∀ x, k * ev f x = ev q x * ev g x - d * ev h x
def LkP : List (List Rat) → Prop
  | [] => False
  | [f] => ∃ c : Rat, c ≠ 0 ∧ ∀ x, ev f x = c
  | [f, g] => (∃ c : Rat, c ≠ 0 ∧ ∀ x, ev g x = c)
  | f :: g :: h :: l => R3 f g h ∧ LkP (g :: h :: l)
theorem sg_psc {c : Rat} (hc : 0 < c) (p : List Rat) (t : Rat) : sg (ev (psc c p) t) = sg (ev p t) := by
  rw [ev_psc, sg_mul, sg_pos hc]; omega
theorem lkP_lk : ∀ (l : List (List Rat)) (f g : List Rat) (a b : Rat), 0 < a → 0 < b → LkP (f :: g :: l) → ∃ l', Lk (psc a f :: psc b g :: l') ∧ ∀ t, sgs l' t = sgs l t
  | [], f, g, a, b, ha, hb, k => by
    rw [LkP] at k
    obtain ⟨c, hc, e⟩ := k
    refine ⟨[], ?_, fun t => rfl⟩
    rw [Lk, Rl, Lk]
    refine ⟨trivial, b * c, fun z => ?_, fun x => by rw [ev_psc, e]⟩
    rcases mul_zero_cases z with z | z
    · grind
    · exact hc z
  | h :: l, f, g, a, b, ha, hb, k => by
    rw [LkP] at k
    obtain ⟨⟨m, d, q, hm, hd, e⟩, k2⟩ := k
    have hc : 0 < a * d / m := div_ps (mul_ps ha hd) hm
    obtain ⟨l', L, S⟩ := lkP_lk l g h b (a * d / m) hb hc k2
    refine ⟨psc (a * d / m) h :: l', ?_, fun t => ?_⟩
    · rw [Lk, Rl]
      refine ⟨⟨psc (a / (m * b)) q, fun x => ?_⟩, L⟩
      have := e x
      have e1 : a * d / m * m = a * d := div_mul_self (by grind)
      have mb : m * b ≠ 0 := by have := mul_ps hm hb; grind
      have e2 : a / (m * b) * (m * b) = a := div_mul_self mb
      rw [ev_psc, ev_psc, ev_psc, ev_psc]
      refine (Classical.byContradiction fun z => ?_)
      have z2 : m * (a * ev f x) ≠ m * (a / (m * b) * ev q x * (b * ev g x) - a * d / m * ev h x) := fun y => z (by
        rcases mul_zero_cases (x := m) (y := a * ev f x - (a / (m * b) * ev q x * (b * ev g x) - a * d / m * ev h x)) (by grind) with w | w <;> grind)
      refine z2 ?_
      have e3 : m * (a / (m * b) * ev q x * (b * ev g x)) = a * (ev q x * ev g x) := by grind
      have e4 : m * (a * d / m * ev h x) = a * (d * ev h x) := by grind
      grind
    · show sg (ev (psc (a * d / m) h) t) :: sgs l' t = sg (ev h t) :: sgs l t
      rw [sg_psc hc, S t]
theorem psc_one (p : List Rat) : psc 1 p = p := by
  unfold psc
  refine map_self fun x _ => by grind
theorem cnt_of_lkP {f : List Rat} {l : List (List Rat)} (k : LkP (f :: l)) (hd : ∀ g r, l = g :: r → ∀ x, ev g x = ev (pdv f) x) : Cnt f (V (f :: l)) := by
  match l, k, hd with
  | [], k, _ =>
    rw [LkP] at k
    exact Cnt.of_chain (f := f) (l := []) (by rw [Lk]; exact k) fun g r z => by cases z
  | g :: l, k, hd =>
    obtain ⟨l', L, S⟩ := lkP_lk l f g 1 1 (by decide) (by decide) k
    rw [psc_one, psc_one] at L
    have e : V (f :: g :: l) = V (f :: g :: l') := by
      funext t
      unfold V
      show ((vr 0 (sg (ev f t) :: sg (ev g t) :: sgs l t) : Nat) : Int) = ((vr 0 (sg (ev f t) :: sg (ev g t) :: sgs l' t) : Nat) : Int)
      rw [S t]
    rw [e]
    exact Cnt.of_chain L fun g' r z => by cases z; exact hd g l rfl
def Tri (L : List (List Rat)) : Prop := ∀ (i : Nat) (f g h : List Rat), L[i]? = some f → L[i + 1]? = some g → L[i + 2]? = some h → R3 f g h
theorem Tri.tl {f : List Rat} {L : List (List Rat)} (k : Tri (f :: L)) : Tri L := fun i a b c h1 h2 h3 => k (i + 1) a b c h1 h2 h3
theorem lkP_of : ∀ (L : List (List Rat)), Tri L → (∀ f, L.getLast? = some f → ∃ c : Rat, c ≠ 0 ∧ ∀ x, ev f x = c) → L ≠ [] → LkP L
  | [], _, _, n => absurd rfl n
  | [f], _, h, _ => by rw [LkP]; exact h f rfl
  | [f, g], _, h, _ => by rw [LkP]; exact h g rfl
  | f :: g :: h :: l, t, e, _ => by
    rw [LkP]
    exact ⟨t 0 f g h rfl rfl rfl, lkP_of (g :: h :: l) t.tl (fun a ha => e a (by rw [List.getLast?_cons_cons]; exact ha)) (by simp)⟩
theorem Tri.snoc {L : List (List Rat)} {h : List Rat} (t : Tri L) (e : ∀ f g, L[L.length - 2]? = some f → L[L.length - 1]? = some g → 2 ≤ L.length → R3 f g h) : Tri (L ++ [h]) := fun i a b c h1 h2 h3 => by
  have l3 := (List.getElem?_eq_some_iff.mp h3).1
  rw [List.length_append, List.length_singleton] at l3
  by_cases q : i + 2 < L.length
  · rw [List.getElem?_append_left (by omega)] at h1 h2 h3
    exact t i a b c h1 h2 h3
  · have ei : i + 2 = L.length := by omega
    rw [List.getElem?_append_left (by omega)] at h1 h2
    rw [ei, List.getElem?_append_right (Nat.le_refl _), Nat.sub_self] at h3
    have : h = c := Option.some.inj h3
    subst this
    exact e a b (by rw [show L.length - 2 = i by omega]; exact h1) (by rw [show L.length - 1 = i + 1 by omega]; exact h2) (by omega)
structure ChOk (p : List Int) (L : List (List Int)) : Prop where
  hd : ∃ l, L = p :: l
  ct : Ct (zr p) (L.map zr)
  sz : ∀ f ∈ L, f.length ≤ 7 ∧ Ht f 5000000
  len : L.length ≤ 7
theorem neg_len (r : List Int) : (r.map fun c => -c).length = r.length := by simp
theorem zr_neg (r : List Int) : zr (r.map fun c => -c) = psc (-1) (zr r) := by
  unfold zr psc
  rw [List.map_map, List.map_map]
  refine List.map_congr_left fun c _ => ?_
  show ((-c : Int) : Rat) = -1 * (c : Rat)
  rw [Rat.intCast_neg]; grind
theorem neg_tr {r : List Int} (t : Tr (zr r)) : Tr (zr (r.map fun c => -c)) := by
  rw [zr_neg]
  rcases t with t | t
  · left; rw [t]; rfl
  · right
    rw [ld_psc]
    intro z
    rcases mul_zero_cases z with z | z
    · exact absurd z (by decide)
    · exact t z
theorem neg_ht {r : List Int} {h : Nat} (k : Ht r h) : Ht (r.map fun c => -c) h := fun c hc => by
  obtain ⟨a, ha, rfl⟩ := List.mem_map.mp hc
  rw [Int.natAbs_neg]
  exact k a ha
structure ChI (p : List Int) (L : List (List Int)) (F : List Int) : Prop where
  hd : ∃ l, L = p :: l
  nx : (L = [p] ∧ ∀ x, ev (zr F) x = ev (pdv (zr p)) x) ∨ (∃ g l, L = p :: g :: l ∧ ∀ x, ev (zr g) x = ev (pdv (zr p)) x)
  all : ∀ f ∈ L, f ≠ [] ∧ Tr (zr f) ∧ f.length ≤ 7 ∧ Ht f 5000000
  tf : Tr (zr F)
  tri : Tri (L.map zr)
  r3 : F ≠ [] → ∀ f g, L[L.length - 2]? = some f → L[L.length - 1]? = some g → 2 ≤ L.length → R3 (zr f) (zr g) (zr F)
  cop : ∀ c, L.getLast? = some c → Cop (zr c) (zr F) ∧ Siz 1000 c F
  len : L.length + F.length ≤ 7
theorem zd_len' (p : List Int) : (zd p).length = p.length - 1 := by simp [zd]
theorem zr_zd_tr {p : List Int} (t : Tr (zr p)) : Tr (zr (zd p)) := by
  have e : zr (zd p) = tab (fun i => ((i + 1 : Nat) : Rat) * Kqg1.coefficient (zr p) (i + 1)) (p.length - 1) := by
    unfold zd
    rw [zr_tab]
    refine List.map_congr_left fun i _ => ?_
    rw [coef_zr, Rat.intCast_mul]; rfl
  by_cases h : p.length ≤ 1
  · left
    rw [e, show p.length - 1 = 0 by omega]; rfl
  · right
    obtain ⟨n, hn⟩ : ∃ n, p.length - 1 = n + 1 := ⟨p.length - 2, by omega⟩
    rw [e, hn, ld_tab]
    have np : zr p ≠ [] := fun z => by rw [zr_nil_iff] at z; rw [z] at h; simp at h
    have l := ld_coef np
    rw [zr_len, show p.length - 1 = n + 1 by omega] at l
    rw [l]
    intro z
    rcases mul_zero_cases z with z | z
    · have : ((n + 1 : Nat) : Rat) = 0 := z
      have h0 : ((0 : Nat) : Rat) < ((n + 1 : Nat) : Rat) := Rat.natCast_lt_natCast.mpr (by omega)
      rw [this] at h0
      exact absurd h0 (by decide)
    · exact t.ld np z
theorem zd_ht {p : List Int} {h : Nat} (l : p.length ≤ 7) (k : Ht p h) : Ht (zd p) (h + 3) := fun c hc => by
  unfold zd at hc
  obtain ⟨i, hi, rfl⟩ := List.mem_map.mp hc
  have hi : i < p.length - 1 := by simpa using hi
  have := k _ (cf_mem (p := p) (i := i + 1) (by omega))
  rw [Int.natAbs_mul, Nat.pow_add, Nat.mul_comm]
  exact Nat.mul_le_mul this (show ((i + 1 : Nat) : Int).natAbs ≤ 2 ^ 3 by omega)
theorem ChI.start {p : List Int} (t : Tr (zr p)) (n : p ≠ []) (l : p.length ≤ 7) (h : Ht p 990) (sq : Sqf (zr p)) : ChI p [p] (zd p) := by
  have pos := List.length_pos_iff.mpr n
  refine ⟨⟨[], rfl⟩, .inl ⟨rfl, fun x => ev_zd p x⟩, fun f hf => ?_, zr_zd_tr t, fun i f g h h1 h2 _ => by simp at h2, fun _ f g _ _ l => by simp at l, fun c hc => ?_, by rw [zd_len']; simp; omega⟩
  · have : f = p := by simpa using hf
    subst this
    exact ⟨n, t, l, ht_le h (by decide)⟩
  · have : p = c := Option.some.inj hc
    subst this
    obtain ⟨u, v, e⟩ := sq
    exact ⟨⟨u, v, fun x => by rw [ev_zd, e]⟩, ⟨l, by rw [zd_len']; omega, .inl ⟨ht_le h (by decide), ht_le (zd_ht l h) (by decide)⟩⟩⟩
theorem ChI.step {p : List Int} {L : List (List Int)} {F r c : List Int} {m n : Nat} (k : ChI p L F) (nF : F ≠ []) (hc : L.getLast? = some c) (hr : RemP c F r (m + (c.length + 1 - F.length) * (n + 1))) (hF : Ht F 5000000)
    (S : ∀ r : List Int, r.length < F.length → Ht r (m + (c.length + 1 - F.length) * (n + 1)) → Siz 1000 F r) : ChI p (L ++ [F]) (r.map fun c => -c) := by
  obtain ⟨l0, e0⟩ := k.hd
  have ne : L ≠ [] := by rw [e0]; simp
  have pos := List.length_pos_iff.mpr ne
  have posF := List.length_pos_iff.mpr nF
  have lc : L[L.length - 1]? = some c := by rw [← List.getLast?_eq_getElem?]; exact hc
  have rl := hr.len
  have l7 := k.len
  have S' := S r hr.len hr.ht
  obtain ⟨cp, sz⟩ := k.cop c hc
  refine ⟨⟨l0 ++ [F], by rw [e0]; rfl⟩, .inr ?_, fun f hf => ?_, neg_tr hr.tr, ?_, fun nr f g h1 h2 hl => ?_, fun c' hc' => ?_, ?_⟩
  · rcases k.nx with ⟨h, e⟩ | ⟨g, l, h, e⟩
    · exact ⟨F, [], by rw [h]; rfl, e⟩
    · exact ⟨g, l ++ [F], by rw [h]; rfl, e⟩
  · rcases List.mem_append.mp hf with h | h
    · exact k.all f h
    · have : f = F := by simpa using h
      subst this
      exact ⟨nF, k.tf, by omega, hF⟩
  · rw [List.map_append]
    refine k.tri.snoc fun f g h1 h2 hl => ?_
    rw [List.length_map] at h1 h2 hl
    rw [List.getElem?_map] at h1 h2
    cases ef : L[L.length - 2]? with
    | none => rw [ef] at h1; cases h1
    | some f' =>
      cases eg : L[L.length - 1]? with
      | none => rw [eg] at h2; cases h2
      | some g' =>
        rw [ef] at h1
        rw [eg] at h2
        have e1 : zr f' = f := Option.some.inj h1
        have e2 : zr g' = g := Option.some.inj h2
        rw [← e1, ← e2]
        exact k.r3 nF f' g' ef eg hl
  · rw [List.length_append, List.length_singleton] at h1 h2 hl
    rw [show L.length + 1 - 2 = L.length - 1 by omega, List.getElem?_append_left (by omega), lc] at h1
    rw [show L.length + 1 - 1 = L.length by omega, List.getElem?_append_right (Nat.le_refl _), Nat.sub_self] at h2
    have e1 : c = f := Option.some.inj h1
    have e2 : F = g := Option.some.inj h2
    subst e1 e2
    obtain ⟨a, d, q, ha, hd, e⟩ := hr.eq
    exact ⟨a, d, q, ha, hd, fun x => by rw [e, zr_neg, ev_psc]; grind⟩
  · rw [List.getLast?_append] at hc'
    have : F = c' := by simpa using hc'
    subst this
    obtain ⟨u, v, b⟩ := cp
    obtain ⟨a, d, q, ha, hd, e⟩ := hr.eq
    refine ⟨⟨padd v (psc (1 / a) (pmul u q)), psc (-(d / a)) u, fun x => ?_⟩, ⟨S'.l7, by rw [neg_len]; exact S'.s7, ?_⟩⟩
    · have := b x
      have := e x
      rw [zr_neg, ev_padd, ev_psc, ev_psc, ev_psc, ev_pmul]
      grind
    · rcases S'.ht with ⟨h1, h2⟩ | ⟨h0, h1, h2⟩
      · exact .inl ⟨h1, neg_ht h2⟩
      · exact .inr ⟨by rw [neg_len]; exact h0, h1, neg_ht h2⟩
  · rw [List.length_append, neg_len, List.length_singleton]; omega
theorem ChI.fin {p : List Int} {L : List (List Int)} (k : ChI p L []) : ChOk p L := by
  obtain ⟨l0, e0⟩ := k.hd
  have ne : L ≠ [] := by rw [e0]; simp
  refine ⟨k.hd, ⟨?_, far_V fun f hf => ?_⟩, fun f hf => (k.all f hf).2.2, by have := k.len; simpa using this⟩
  · have lk : LkP (L.map zr) := lkP_of _ k.tri (fun f hf => by
      rw [List.getLast?_map] at hf
      cases e : L.getLast? with
      | none => rw [e] at hf; cases hf
      | some c =>
        rw [e] at hf
        have ec : zr c = f := Option.some.inj hf
        obtain ⟨u, v, b⟩ := (k.cop c e).1
        have tc := (k.all c (List.mem_of_getLast? e)).2.1
        obtain ⟨d, hd, ed⟩ := unit_of (w := u) tc fun x => by
          have := b x
          show ev (zr c) x * ev u x = 1
          have z : ev (zr ([] : List Int)) x = 0 := rfl
          rw [z] at this
          grind
        exact ⟨d, hd, fun x => by rw [← ec, ed, ev_one]⟩) (by simpa using ne)
    rw [e0, List.map_cons] at lk ⊢
    refine cnt_of_lkP lk fun g r z x => ?_
    rcases k.nx with ⟨h, e⟩ | ⟨g', l, h, e⟩
    · rw [e0] at h
      have : l0 = [] := by simpa using h
      rw [this] at z
      cases z
    · rw [e0] at h
      have : l0 = g' :: l := by simpa using h
      rw [this, List.map_cons] at z
      have : zr g' = g := (List.cons.inj z).1
      rw [← this, e]
  · obtain ⟨f', hf', rfl⟩ := List.mem_map.mp hf
    obtain ⟨a, b, _⟩ := k.all f' hf'
    exact ⟨b, fun z => a (zr_nil_iff.mp z)⟩
end Kv
namespace Kv
def Sim (f g : List Rat) : Prop := ∃ c : Rat, c ≠ 0 ∧ ∀ x, ev f x = c * ev g x
theorem Sim.symm {f g : List Rat} (h : Sim f g) : Sim g f := by
  obtain ⟨c, hc, e⟩ := h
  exact ⟨1 / c, fun z => by have := div_mul_self (x := 1) hc; rw [z] at this; grind, fun x => by have := e x; grind⟩
theorem Sim.trans {f g h : List Rat} (a : Sim f g) (b : Sim g h) : Sim f h := by
  obtain ⟨c, hc, e⟩ := a
  obtain ⟨d, hd, k⟩ := b
  exact ⟨c * d, fun z => by rcases mul_zero_cases z with z | z <;> contradiction, fun x => by rw [e, k]; grind⟩
theorem Sim.refl (f : List Rat) : Sim f f := ⟨1, by decide, fun x => by grind⟩
theorem Sim.dv {f g : List Rat} (h : Sim f g) : Dv f g := by
  obtain ⟨c, hc, e⟩ := h.symm
  exact ⟨[c], fun x => by rw [e, ev_one]; grind⟩
theorem Sim.len {f g : List Rat} (h : Sim f g) (tf : Tr f) (tg : Tr g) : f.length = g.length := by
  obtain ⟨c, hc, e⟩ := h
  have tp : Tr (psc c g) := by
    rcases tg with z | z
    · left; rw [z]; rfl
    · right
      rw [ld_psc]
      intro y
      rcases mul_zero_cases y with y | y <;> contradiction
  have := same_of_ev tf tp fun x => by rw [e, ev_psc]
  rw [this, len_psc]
theorem Sim.pdv {f g : List Rat} (h : Sim f g) : Sim (pdv f) (pdv g) := by
  obtain ⟨c, hc, e⟩ := h
  exact ⟨c, hc, fun x => dv_sc e x⟩
theorem Gcd.sim {g f f' h h' : List Rat} (a : Sim f f') (b : Sim h h') (G : Gcd g f' h') : Gcd g f h := by
  obtain ⟨c, hc, e⟩ := a
  obtain ⟨d, hd, k⟩ := b
  refine ⟨?_, ?_, ?_⟩
  · obtain ⟨w, hw⟩ := G.l
    exact ⟨psc c w, fun x => by rw [e, hw, ev_psc]; grind⟩
  · obtain ⟨w, hw⟩ := G.r
    exact ⟨psc d w, fun x => by rw [k, hw, ev_psc]; grind⟩
  · obtain ⟨u, v, b⟩ := G.b
    exact ⟨psc (1 / c) u, psc (1 / d) v, fun x => by
      have := b x
      have := e x
      have := k x
      rw [ev_psc, ev_psc]; grind⟩
theorem Sqf.sim {f g : List Rat} (h : Sqf f) (s : Sim g f) : Sqf g := by
  obtain ⟨c, hc, e⟩ := s
  exact h.congr hc e
theorem ind_sim {f g : List Rat} (h : Sim f g) (s t : Rat) : ind f s t = ind g s t := by
  obtain ⟨c, hc, e⟩ := h
  exact ind_mul (w := [c]) (fun x => by rw [e, ev_one]; grind) (same_const hc (fun x => ev_one c x) s t)
theorem Cnt.sim {f g : List Rat} {W : Rat → Int} (h : Cnt f W) (s : Sim f g) : Cnt g W := by
  refine ⟨fun B hB => (h.at' B hB).mono fun x y _ ⟨a, b⟩ => ⟨by rw [a, ind_sim s], fun z w => ?_⟩⟩
  obtain ⟨c, hc, e⟩ := s
  exact b (by rw [e, z]; grind) (by rw [e, w]; grind)
theorem z_sim {f g : List Rat} (h : Sim f g) (t : Rat) : z f t = z g t := by
  obtain ⟨c, hc, e⟩ := h
  unfold z
  by_cases k : ev g t = 0
  · rw [if_pos k, if_pos (by rw [e, k]; grind)]
  · rw [if_neg k, if_neg (fun y => by rw [e] at y; rcases mul_zero_cases y with y | y <;> contradiction)]
structure LyR (W : List Int) (f : List Rat) : Prop where
  tw : Tr (zr W)
  nw : W ≠ []
  pw : Prim W
  l7 : W.length ≤ 7
  ht : Ht W 980
  tf : Tr f
  nf : f ≠ []
  sim : Sim (Kqg1.squarefree f) (zr W)
structure Lys (Ws : List (List Int)) (fs : List (List Rat)) : Prop where
  len : Ws.length = fs.length
  at_ : ∀ (i : Nat) (W : List Int) (f : List Rat), Ws[i]? = some W → fs[i]? = some f → LyR W f
theorem Lys.nil : Lys [] [] := ⟨rfl, fun i W f h => by simp at h⟩
theorem Lys.snoc {Ws : List (List Int)} {fs : List (List Rat)} {W : List Int} {f : List Rat} (h : Lys Ws fs) (k : LyR W f) : Lys (Ws ++ [W]) (fs ++ [f]) := by
  refine ⟨by rw [List.length_append, List.length_append, h.len]; rfl, fun i W' f' h1 h2 => ?_⟩
  have l := h.len
  by_cases q : i < Ws.length
  · rw [List.getElem?_append_left q] at h1
    rw [List.getElem?_append_left (by omega)] at h2
    exact h.at_ i W' f' h1 h2
  · have l1 := (List.getElem?_eq_some_iff.mp h1).1
    rw [List.length_append, List.length_singleton] at l1
    have e : i = Ws.length := by omega
    subst e
    rw [List.getElem?_append_right (Nat.le_refl _), Nat.sub_self] at h1
    rw [l, List.getElem?_append_right (Nat.le_refl _), Nat.sub_self] at h2
    have e1 : W = W' := Option.some.inj h1
    have e2 : f = f' := Option.some.inj h2
    subst e1 e2
    exact k
structure LyI (p0 : List Rat) (P Ws : _) (rest : List Int) (h : Nat) : Prop where
  tr : Tr (zr rest)
  ne : rest ≠ []
  prim : Prim rest
  l7 : rest.length ≤ 7
  fac : ∃ V : List Int, ∀ x, ev (zr P) x = ev (zr rest) x * ev (zr V) x
  pt : Tr (zr P)
  pn : P ≠ []
  pl : P.length ≤ 7
  ph : Ht P h
  h9 : h ≤ 920
  ly : ∃ (fs : List (List Rat)) (f : List Rat) (n : Nat), Lys Ws fs ∧ Tr f ∧ f ≠ [] ∧ Sim f (zr rest) ∧ f.length ≤ n ∧ Kqg1.multiplicityLayers p0.length p0 = fs ++ Kqg1.multiplicityLayers n f ∧ fs.length + f.length ≤ p0.length
theorem LyI.ht {p0 : List Rat} {P rest : List Int} {Ws : List (List Int)} {h : Nat} (k : LyI p0 P Ws rest h) : Ht rest 980 := by
  obtain ⟨V, e⟩ := k.fac
  have := k.h9
  exact ht_le (factor_ht k.pt k.pn k.pl k.l7 k.ph e) (by omega)
theorem LyI.start {p0 : List Rat} {P : List Int} {h : Nat} (t : Tr (zr P)) (n : P ≠ []) (l : P.length ≤ 7) (hp : Ht P h) (h9 : h ≤ 920) (t0 : Tr p0) (n0 : p0 ≠ []) (s : Sim p0 (zr P)) : LyI p0 P [] (prI P) h := by
  have cp := nz_of_tr t n
  have pe := prI_ev cp
  have c0 : (content P : Rat) ≠ 0 := by
    have : (0 : Rat) < (content P : Rat) := by exact_mod_cast cp
    intro y; rw [y] at this; exact absurd this (by decide)
  refine ⟨prI_tr t n, fun y => n ?_, prI_prim cp, by rw [prI_len]; exact l, ⟨[(content P : Int)], fun x => ?_⟩, t, n, l, hp, h9, [], p0, p0.length, .nil, t0, n0, s.trans ⟨_, c0, pe⟩, Nat.le_refl _, rfl, by simp⟩
  · have := prI_len P
    rw [y] at this
    exact List.length_eq_zero_iff.mp this.symm
  · rw [pe]
    show _ = _ * ev [((content P : Int) : Rat)] x
    rw [ev_one, Rat.mul_comm, Rat.intCast_natCast]
theorem LyI.fin {p0 : List Rat} {P rest : List Int} {Ws : List (List Int)} {h : Nat} (k : LyI p0 P Ws rest h) (c : ¬ 1 < rest.length) : Lys Ws (Kqg1.multiplicityLayers p0.length p0) ∧ Ws.length ≤ p0.length := by
  obtain ⟨fs, f, n, L, tf, nf, s, ln, e, le⟩ := k.ly
  have l := s.len tf k.tr
  rw [zr_len] at l
  have : Kqg1.multiplicityLayers n f = [] := by
    cases n with
    | zero => rfl
    | succ n => rw [Kqg1.multiplicityLayers, if_pos (by omega)]
  rw [this, List.append_nil] at e
  rw [e]
  exact ⟨L, by have := L.len; omega⟩
theorem gcd_shorter {f g : List Rat} (tf : Tr f) (l : 1 < f.length) (tg : Tr g) (h : Dv g (pdv f)) : g.length < f.length ∧ g ≠ [] := by
  have d := derivative_len tf
  have nd : Kqg1.derivative f ≠ [] := fun y => by rw [y] at d; simp at d; omega
  have := (h.congr (q := Kqg1.derivative f) fun x => ev_derivative f x).len tg (tr_derivative f) nd
  exact ⟨by omega, this.2⟩
theorem LyI.step {p0 : List Rat} {P rest g W : List Int} {Ws : List (List Int)} {h : Nat} (k : LyI p0 P Ws rest h) (c : 1 < rest.length) (G : Gcd (zr g) (zr rest) (zr (zd rest))) (pg : Prim g) (tg : Tr (zr g)) (ng : g ≠ [])
    (tW : Tr (zr W)) (nW : W ≠ []) (eW : ∀ x, ev (zr rest) x = ev (zr g) x * ev (zr W) x) : LyI p0 P (Ws ++ [W]) g h ∧ g.length < rest.length := by
  obtain ⟨fs, f, n, L, tf, nf, s, ln, e, le⟩ := k.ly
  have l := s.len tf k.tr
  rw [zr_len] at l
  have G' : Gcd (zr g) (zr rest) (pdv (zr rest)) := G.congr fun x => ev_zd rest x
  have Gf : Gcd (zr g) f (pdv f) := G'.sim s s.pdv
  obtain ⟨a, b, d⟩ := gcd_dv tf nf
  have ngz : zr g ≠ [] := fun y => ng (zr_nil_iff.mp y)
  have u : Sim (Kqg1.gcd f (Kqg1.derivative f)) (zr g) := by
    obtain ⟨c, hc, e⟩ := Gcd.unique tg a ngz Gf b
    exact ⟨c, hc, e⟩
  obtain ⟨sl, _⟩ := gcd_shorter tf (by omega) a b.r
  have lg := u.len a tg
  rw [zr_len] at lg
  have htr := k.ht
  obtain ⟨V, eV⟩ := k.fac
  have wl : W.length ≤ 7 := by
    have := Tr.mul_len tg tW k.tr ngz (fun y => nW (zr_nil_iff.mp y)) eW
    rw [zr_len, zr_len, zr_len] at this
    have := List.length_pos_iff.mpr ng
    have := k.l7
    omega
  have pW := (prim_factor k.prim eW).2
  have whtP : Ht W 980 := by
    have h9 := k.h9
    obtain ⟨q, _, eq⟩ := whole_quotient (P := P) (s := W) (w := pmul (zr g) (zr V)) pW (fun x => by rw [eV, eW, ev_pmul]; grind)
    exact ht_le (factor_ht k.pt k.pn k.pl wl k.ph (fun x => by rw [← eq, ev_pmul, eV, eW]; grind)) (by omega)
  have ly : LyR W f := by
    refine ⟨tW, nW, pW, wl, whtP, tf, nf, ?_⟩
    obtain ⟨c1, h1, e1⟩ := s
    obtain ⟨c2, h2, e2⟩ := u
    have q1 : ∀ x, ev f x = ev (Kqg1.squarefree f) x * ev (Kqg1.gcd f (Kqg1.derivative f)) x := fun x => by
      unfold Kqg1.squarefree
      rw [if_neg (by omega)]
      exact (rem_zero tf a d b.l).2 x
    have cc := cancel tg ngz (h := psc c2 (Kqg1.squarefree f)) (k := psc c1 (zr W)) fun x => by
      have := q1 x
      have := e1 x
      have := e2 x
      have := eW x
      rw [ev_psc, ev_psc]; grind
    refine ⟨c1 / c2, fun y => ?_, fun x => ?_⟩
    · have := div_mul_self (x := c1) h2
      rw [y] at this
      grind
    · have := cc x
      rw [ev_psc, ev_psc] at this
      have := div_mul_self (x := c1) h2
      grind
  refine ⟨⟨tg, ng, pg, by have := k.l7; omega, ?_, k.pt, k.pn, k.pl, k.ph, k.h9, ?_⟩, by omega⟩
  · obtain ⟨q, _, eq⟩ := whole_quotient (P := P) (s := g) (w := pmul (zr W) (zr V)) pg (fun x => by rw [eV, eW, ev_pmul]; grind)
    exact ⟨q, fun x => by rw [← eq, ev_pmul, eV, eW]; grind⟩
  · obtain ⟨m, rfl⟩ : ∃ m, n = m + 1 := ⟨n - 1, by omega⟩
    refine ⟨fs ++ [f], Kqg1.gcd f (Kqg1.derivative f), m, L.snoc ly, a, d, u, by omega, ?_, by rw [List.length_append, List.length_singleton]; omega⟩
    rw [e, Kqg1.multiplicityLayers, if_neg (by omega), List.append_assoc]
    rfl
def mxa (p : List Int) : Int := (p.map fun c => (c.natAbs : Int)).foldr max 0
theorem far_of_max {p : List Int} {m : Int} (t : Tr (zr p)) (n : p ≠ []) (h : ∀ c ∈ p, (c.natAbs : Int) ≤ m) : Far (zr p) ((m / ((lc p).natAbs : Int) + 2 : Int) : Rat) := by
  have l0 := lc_ne t n
  have lp : 0 < ((lc p).natAbs : Int) := by have := Int.natAbs_pos.mpr l0; omega
  have m0 : 0 ≤ m := by have := h _ (lc_mem n); omega
  have q0 : 0 ≤ m / ((lc p).natAbs : Int) := Int.ediv_nonneg m0 (by omega)
  refine far_of_dom (M := ((m / ((lc p).natAbs : Int) + 1 : Int) : Rat)) (fun y => n (zr_nil_iff.mp y)) t ?_ (fun c hc => ?_) ?_
  · have : ((0 : Int) : Rat) ≤ ((m / ((lc p).natAbs : Int) + 1 : Int) : Rat) := cast_le (by omega)
    exact this
  · obtain ⟨a, ha, rfl⟩ := List.mem_map.mp hc
    rw [lc_ld, ab_cast, ab_cast]
    have k := Int.lt_ediv_add_one_mul_self m lp
    have k2 : (a.natAbs : Int) ≤ (m / ((lc p).natAbs : Int) + 1) * ((lc p).natAbs : Int) := by have := h a ha; omega
    have := cast_le k2
    rw [Rat.intCast_mul, Rat.intCast_natCast, Rat.intCast_natCast] at this
    exact this
  · have e : ((m / ((lc p).natAbs : Int) + 2 : Int) : Rat) = 1 + ((m / ((lc p).natAbs : Int) + 1 : Int) : Rat) := by
      rw [show m / ((lc p).natAbs : Int) + 2 = 1 + (m / ((lc p).natAbs : Int) + 1) by omega, Rat.intCast_add]; rfl
    rw [e]
    exact Rat.le_refl
theorem Far.mono {p : List Rat} {a b : Rat} (h : Far p a) (k : a ≤ b) : Far p b := by
  obtain ⟨h1, m, hm, h2⟩ := h
  exact ⟨by grind, m, hm, fun t ht => h2 t (by grind)⟩
theorem Far.sim {f g : List Rat} {b : Rat} (h : Far f b) (s : Sim g f) : Far g b := by
  obtain ⟨h1, m, hm, h2⟩ := h
  obtain ⟨c, hc, e⟩ := s
  refine ⟨h1, ab c * m, mul_ps (ab_pos hc) hm, fun t ht => ?_⟩
  rw [e, ab_mul]
  exact mul_le_l (ab_nn c) (h2 t ht)
theorem Far.mul {f g p : List Rat} {b : Rat} (h : Far f b) (k : Far g b) (e : ∀ x, ev p x = ev f x * ev g x) : Far p b := by
  obtain ⟨h1, m, hm, h2⟩ := h
  obtain ⟨_, n, hn, k2⟩ := k
  refine ⟨h1, m * n, mul_ps hm hn, fun t ht => ?_⟩
  rw [e, ab_mul]
  exact mul_le (by grind) (h2 t ht) (by grind) (k2 t ht)
abbrev PV (Ls : List (List (List Int))) (t : Rat) : Int := sum (Ls.map fun L => V (L.map zr) t)
abbrev PZ (Ls : List (List (List Int))) (t : Rat) : Int := sum (Ls.map fun L => z (zr (L.headD [])) t)
structure FamOk (f : List Rat) (Ls : List (List (List Int))) : Prop where
  len : Ls.length = (Kqg1.layerChains f).length
  l7 : Ls.length ≤ 7
  at_ : ∀ (i : Nat) (L : List (List Int)) (S : List (List Rat)), Ls[i]? = some L → (Kqg1.layerChains f)[i]? = some S → ChOk (L.headD []) L ∧ Sim (hd S) (zr (L.headD []))
theorem sum_map_zip {α β : Type} {f : α → Int} {g : β → Int} : ∀ {l : List α} {m : List β}, l.length = m.length → (∀ (i : Nat) (x : α) (y : β), l[i]? = some x → m[i]? = some y → f x = g y) → sum (l.map f) = sum (m.map g)
  | [], [], _, _ => rfl
  | [], _ :: _, h, _ => by simp at h
  | _ :: _, [], h, _ => by simp at h
  | a :: l, b :: m, h, k => by
    rw [List.map_cons, List.map_cons, sum_cons, sum_cons, k 0 a b rfl rfl, sum_map_zip (by simpa using h) fun i x y h1 h2 => k (i + 1) x y h1 h2]
theorem FamOk.diff {f : List Rat} {Ls : List (List (List Int))} (tf : Tr f) (nf : f ≠ []) (F : FamOk f Ls) {s t : Rat} (h : s < t) : PV Ls s - PV Ls t = cu (Kqg1.layerChains f) t - cu (Kqg1.layerChains f) s := by
  unfold PV cu
  rw [← sum_map_sub, ← sum_map_sub]
  refine sum_map_zip F.len fun i L S h1 h2 => ?_
  obtain ⟨c, m⟩ := F.at_ i L S h1 h2
  have hS := (fam_layers tf nf).1 S (List.mem_of_getElem? h2)
  have := (c.ct.cnt).of_const (hS.cnt.sim m) h
  omega
theorem FamOk.zero {f : List Rat} {Ls : List (List (List Int))} (F : FamOk f Ls) (t : Rat) : cb (Kqg1.layerChains f) t = cu (Kqg1.layerChains f) t - PZ Ls t := by
  unfold cb cu PZ
  have : sum (Ls.map fun L => z (zr (L.headD [])) t) = sum ((Kqg1.layerChains f).map fun l => z (hd l) t) := sum_map_zip F.len fun i L S h1 h2 => (z_sim (F.at_ i L S h1 h2).2 t).symm
  rw [this, ← sum_map_sub]
theorem FamOk.still {f : List Rat} {Ls : List (List (List Int))} (tf : Tr f) (nf : f ≠ []) (F : FamOk f Ls) {b : Rat} (hb : Far f b) {t : Rat} (h : b ≤ t) : PV Ls t = PV Ls b := by
  refine sum_map_eq fun L hL => ?_
  obtain ⟨i, hi⟩ := List.getElem?_of_mem hL
  have il := (List.getElem?_eq_some_iff.mp hi).1
  have hS : (Kqg1.layerChains f)[i]? = some ((Kqg1.layerChains f)[i]'(by rw [← F.len]; exact il)) := List.getElem?_eq_getElem _
  obtain ⟨c, m⟩ := F.at_ i L _ hi hS
  have d := (fam_layers tf nf).2 _ (List.mem_of_getElem? hS)
  have dz : Dv (zr (L.headD [])) f := m.symm.dv.trans d
  rw [(c.ct.beyond dz hb h).1, (c.ct.beyond dz hb Rat.le_refl).1]
theorem FamOk.above {f : List Rat} {Ls : List (List (List Int))} (tf : Tr f) (nf : f ≠ []) (F : FamOk f Ls) {b : Rat} (hb : Far f b) (t : Rat) : PV Ls t - PV Ls b = tot (Kqg1.layerChains f) - cu (Kqg1.layerChains f) t := by
  obtain ⟨fm, pt⟩ := fam_layers tf nf
  by_cases h : t < b
  · rw [F.diff tf nf h, (cb_far fm pt hb Rat.le_refl).2.2.1]
  · have h' : b ≤ t := by grind
    rw [F.still tf nf hb h', (cb_far fm pt hb h').2.2.1]; omega
theorem FamOk.total {f : List Rat} {Ls : List (List (List Int))} (tf : Tr f) (nf : f ≠ []) (F : FamOk f Ls) {b : Rat} (hb : Far f b) : PV Ls (-b) - PV Ls b = tot (Kqg1.layerChains f) := by
  obtain ⟨fm, pt⟩ := fam_layers tf nf
  rw [F.above tf nf hb, (cb_far fm pt hb Rat.le_refl).2.2.2]; omega
end Kv
namespace Kv
theorem LyI.dht {p0 : List Rat} {P rest g : List Int} {Ws : List (List Int)} {h : Nat} (k : LyI p0 P Ws rest h) (pg : Prim g) (gl : g.length ≤ 7) (d : Dv (zr g) (zr rest)) : Ht g 980 := by
  obtain ⟨V, e⟩ := k.fac
  obtain ⟨w, hw⟩ := d.trans ⟨zr V, e⟩
  obtain ⟨W, _, eW⟩ := whole_quotient pg hw
  have := k.h9
  exact ht_le (factor_ht k.pt k.pn k.pl gl k.ph (fun x => by rw [← eW]; exact hw x)) (by omega)
theorem LyI.wl {p0 : List Rat} {P rest : List Int} {Ws : List (List Int)} {h : Nat} (k : LyI p0 P Ws rest h) : Ws.length ≤ p0.length := by
  obtain ⟨fs, f, n, L, _, _, _, _, _, le⟩ := k.ly
  have := L.len
  omega
end Kv
namespace Kv
def chg : List Bool → Nat
  | b :: c :: l => (if b = c then 0 else 1) + chg (c :: l)
  | _ => 0
def bzl (vs : List Int) : List Bool := (vs.filter fun v => !decide (v = 0)).map fun v => decide (v < 0)
theorem sg_int (v : Int) : (v = 0 → sg (v : Rat) = 0) ∧ (v < 0 → sg (v : Rat) = -1) ∧ (0 < v → sg (v : Rat) = 1) := by
  refine ⟨fun h => by rw [h]; exact sg_zero, fun h => sg_neg (by exact_mod_cast h), fun h => sg_pos (by exact_mod_cast h)⟩
theorem bzl_cons (v : Int) (vs : List Int) : bzl (v :: vs) = if v = 0 then bzl vs else decide (v < 0) :: bzl vs := by
  unfold bzl
  rw [List.filter_cons]
  by_cases h : v = 0
  · simp [h]
  · simp [h]
theorem vr_chg : ∀ (vs : List Int) (e : Int), (e = 1 ∨ e = -1) → vr e (vs.map fun (v : Int) => sg (v : Rat)) = chg (decide (e < 0) :: bzl vs)
  | [], e, _ => rfl
  | v :: vs, e, he => by
    obtain ⟨h0, h1, h2⟩ := sg_int v
    rw [List.map_cons, bzl_cons]
    by_cases z : v = 0
    · rw [if_pos z, vr_z (h0 z)]
      exact vr_chg vs e he
    · rw [if_neg z]
      rcases Int.lt_or_gt_of_ne z with n | n
      · rw [h1 n, vr_n (by decide), vr_chg vs (-1) (.inr rfl), decide_eq_true n]
        rcases he with rfl | rfl <;> rfl
      · rw [h2 n, vr_n (by decide), vr_chg vs 1 (.inl rfl), decide_eq_false (show ¬ v < 0 by omega)]
        rcases he with rfl | rfl <;> rfl
theorem vr_chg0 : ∀ (vs : List Int), vr 0 (vs.map fun (v : Int) => sg (v : Rat)) = chg (bzl vs)
  | [] => rfl
  | v :: vs => by
    obtain ⟨h0, h1, h2⟩ := sg_int v
    rw [List.map_cons, bzl_cons]
    by_cases z : v = 0
    · rw [if_pos z, vr_z (h0 z)]
      exact vr_chg0 vs
    · rw [if_neg z]
      rcases Int.lt_or_gt_of_ne z with n | n
      · rw [h1 n, vr_n (by decide), vr_chg vs (-1) (.inr rfl), decide_eq_true n]
        simp
      · rw [h2 n, vr_n (by decide), vr_chg vs 1 (.inl rfl), decide_eq_false (show ¬ v < 0 by omega)]
        simp
theorem chg_snoc : ∀ (l : List Bool) (b c : Bool), chg (l ++ [b, c]) = chg (l ++ [b]) + (if b = c then 0 else 1)
  | [], b, c => by simp [chg]
  | [a], b, c => by
    show chg [a, b, c] = chg [a, b] + _
    simp [chg]
  | a :: a' :: l, b, c => by
    have := chg_snoc (a' :: l) b c
    show (if a = a' then 0 else 1) + chg ((a' :: l) ++ [b, c]) = (if a = a' then 0 else 1) + chg ((a' :: l) ++ [b]) + _
    rw [this]; omega
theorem chg_take {l : List Bool} {i : Nat} {b c : Bool} (h1 : l[i]? = some b) (h2 : l[i + 1]? = some c) : chg (l.take (i + 2)) = chg (l.take (i + 1)) + (if b = c then 0 else 1) := by
  rw [take_last h2, take_last h1, List.append_assoc]
  exact chg_snoc _ b c
theorem chg_one (l : List Bool) : chg (l.take 1) = 0 := by
  cases l with
  | nil => rfl
  | cons a l => rfl
theorem V_chg {L : List (List Int)} {t : Rat} {vs : List Int} (len : vs.length = L.length) (h : ∀ (i : Nat) (v : Int) (p : List Int), vs[i]? = some v → L[i]? = some p → sg (v : Rat) = sg (ev (zr p) t)) : V (L.map zr) t = (chg (bzl vs) : Int) := by
  unfold V
  rw [← vr_chg0]
  congr 2
  refine List.ext_getElem? fun i => ?_
  rw [List.getElem?_map, List.getElem?_map, List.getElem?_map]
  cases e : L[i]? with
  | none =>
    have : vs[i]? = none := by
      rw [List.getElem?_eq_none_iff] at e ⊢
      omega
    rw [this]; rfl
  | some p =>
    have il := (List.getElem?_eq_some_iff.mp e).1
    have ev' : vs[i]? = some (vs[i]'(by omega)) := List.getElem?_eq_getElem _
    rw [ev']
    show some (sg (ev (zr p) t)) = some (sg _)
    rw [h i _ p ev' e]
theorem sum_sum (l : List Int) : l.sum = sum l := by
  induction l with
  | nil => rfl
  | cons a l ih => rw [List.sum_cons, ih]; rfl
end Kv
namespace Kv
structure JrOk (p q : List Rat) (L1 L2 Lg : List (List Int)) (b : Int) : Prop where
  tp : Tr p
  np : p ≠ []
  tq : Tr q
  nq : q ≠ []
  one : ChOk (L1.headD []) L1
  two : ChOk (L2.headD []) L2
  com : ChOk (Lg.headD []) Lg
  s1 : Sim (Kqg1.squarefree p) (zr (L1.headD []))
  s2 : Sim (Kqg1.squarefree q) (zr (L2.headD []))
  g : Gcd (zr (Lg.headD [])) (zr (L1.headD [])) (zr (L2.headD []))
  tg : Tr (zr (Lg.headD []))
  fp : Far p (b : Rat)
  fq : Far q (b : Rat)
abbrev JV (L1 L2 Lg : List (List Int)) (t : Rat) : Int := V (L1.map zr) t + V (L2.map zr) t - V (Lg.map zr) t
abbrev cuJ (p q : List Rat) (t : Rat) : Int := cu (Kqg1.layerChains (JP p q)) t
theorem ct_sq {s : List Rat} (t : Tr s) (n : s ≠ []) (q : Sqf s) : Ct s (Kqg1.sturmChain s) := by
  have := ct_spec t n
  rwa [squarefree_id t n q] at this
theorem JrOk.diff {p q : List Rat} {L1 L2 Lg : List (List Int)} {b : Int} (J : JrOk p q L1 L2 Lg b) {s t : Rat} (h : s < t) : JV L1 L2 Lg s - JV L1 L2 Lg t = cuJ p q t - cuJ p q s := by
  have hp := J.tp
  have np := J.np
  have hq := J.tq
  have nq := J.nq
  obtain ⟨nm, K, nJ⟩ := sf_joint hp np hq nq
  have S := sf_spec hp np
  have T := sf_spec hq nq
  have ns := ne_of_dv hp np S.dv
  obtain ⟨a, d, c, hc, cab, cag, cbg, ea, ed, eJ⟩ := joint_split hp np hq nq (tr_multiply p q) nm (ev_multiply p q) S T K
  obtain ⟨th, Hg, nh⟩ := gcd_spec S.tr T.tr ns
  have sg : Sim (zr (Lg.headD [])) (Kqg1.gcd (Kqg1.squarefree p) (Kqg1.squarefree q)) := by
    have G := J.g.sim J.s1 J.s2
    obtain ⟨e, he, k⟩ := Gcd.unique th J.tg nh Hg G
    exact ⟨e, he, k⟩
  have cJ := (ct_sq K.tr nJ K.sq).cnt
  have c1 := J.one.ct.cnt.sim J.s1.symm
  have c2 := J.two.ct.cnt.sim J.s2.symm
  have c3 := J.com.ct.cnt.sim sg
  have k := Cnt.joint hc cab cag cbg ea ed eJ cJ c1 c2 c3 h
  have e : cuJ p q t - cuJ p q s = V (Kqg1.sturmChain (JP p q)) s - V (Kqg1.sturmChain (JP p q)) t := by
    unfold cuJ
    rw [layers_sq K.tr nJ K.sq]
    by_cases l : (JP p q).length ≤ 1
    · rw [if_pos l]
      have pos := List.length_pos_iff.mpr nJ
      obtain ⟨x, hx⟩ := len_one (p := JP p q) (by omega)
      have x0 : x ≠ 0 := by
        have := K.tr.ld nJ
        rw [hx] at this
        exact this
      have := Cnt.const x0 (by rw [← hx]; exact cJ) h
      show (0 : Int) - 0 = _
      omega
    · rw [if_neg l]
      show sum [Vm _ - V _ t] - sum [Vm _ - V _ s] = _
      rw [sum_cons, sum_cons, sum_nil]
      omega
  rw [e, k]
  show V (L1.map zr) s + V (L2.map zr) s - V (Lg.map zr) s - (V (L1.map zr) t + V (L2.map zr) t - V (Lg.map zr) t) = _
  omega
theorem JrOk.ends {p q : List Rat} {L1 L2 Lg : List (List Int)} {b : Int} (J : JrOk p q L1 L2 Lg b) : cuJ p q (-(b : Rat)) = 0 ∧ cuJ p q (b : Rat) = tot (Kqg1.layerChains (JP p q)) ∧ 1 ≤ (b : Rat) := by
  obtain ⟨nm, K, nJ⟩ := sf_joint J.tp J.np J.tq J.nq
  obtain ⟨fm, pt⟩ := fam_layers K.tr nJ
  have far : Far (Kqg1.multiply p q) (b : Rat) := J.fp.mul J.fq (ev_multiply p q)
  have pt2 : Part (Kqg1.layerChains (JP p q)) (Kqg1.multiply p q) := fun l hl => (pt l hl).trans K.dv
  obtain ⟨_, _, h3, h4⟩ := cb_far fm pt2 far Rat.le_refl
  exact ⟨h4, h3, J.fp.1⟩
theorem cuJ_mono {p q : List Rat} (tp : Tr p) (np : p ≠ []) (tq : Tr q) (nq : q ≠ []) {s t : Rat} (h : s ≤ t) : cuJ p q s ≤ cuJ p q t := by
  obtain ⟨nm, K, nJ⟩ := sf_joint tp np tq nq
  obtain ⟨fm, _⟩ := fam_layers K.tr nJ
  by_cases c : s = t
  · rw [c]; exact Int.le_refl _
  · exact sum_map_le fun l hl => by have := (fm l hl).cnt.mono (show s < t by grind); omega
theorem cuJ_sep {p q : List Rat} (tp : Tr p) (np : p ≠ []) (sp : Sm p) (tq : Tr q) (nq : q ≠ []) (sq : Sm q) {a b : Rat} (hab : a < b) (hd : (b - a) * e2 32767 ≤ 1) : cuJ p q b - cuJ p q a ≤ 1 := by
  obtain ⟨nm, K, nJ⟩ := sf_joint tp np tq nq
  have k := sep_joint tp np sp tq nq sq hab hd
  unfold cuJ
  rw [layers_sq K.tr nJ K.sq]
  by_cases l : (JP p q).length ≤ 1
  · rw [if_pos l]; show (0 : Int) - 0 ≤ 1; omega
  · rw [if_neg l]
    show sum [Vm _ - V _ b] - sum [Vm _ - V _ a] ≤ 1
    rw [sum_cons, sum_cons, sum_nil]
    omega
structure Sp0 where
  low : Int
  high : Int
  scale : Int
  al : Int
  ah : Int
def Sp0.a (z : Sp0) : Rat := (z.low : Rat) / (z.scale : Rat)
def Sp0.b (z : Sp0) : Rat := (z.high : Rat) / (z.scale : Rat)
structure SpOk (W : Rat → Int) (B : Int) (z : Sp0) (e : Nat) : Prop where
  sc : z.scale = 2 ^ e
  wid : z.high - z.low = 2 * B
  lo : -(B * 2 ^ e) ≤ z.low
  hi : z.high ≤ B * 2 ^ e
  al : z.al = W z.a
  ah : z.ah = W z.b
def Cov (W : Rat → Int) (w0 : Int) (n : Int) : Int → List Sp0 → Prop
  | k, [] => k = n
  | k, z :: r => w0 - W z.a = k ∧ Cov W w0 n (w0 - W z.b) r
theorem pow2_rat (e : Nat) : (0 : Rat) < ((2 ^ e : Int) : Rat) := by
  have : (0 : Int) < 2 ^ e := Int.pow_pos (by decide)
  exact_mod_cast this
theorem SpOk.lt {W : Rat → Int} {B : Int} {z : Sp0} {e : Nat} (h : SpOk W B z e) (hB : 0 < B) : z.a < z.b := by
  unfold Sp0.a Sp0.b
  have p := pow2_rat e
  rw [h.sc, Rat.lt_div_iff p, div_mul_self (by grind)]
  have := h.wid
  exact_mod_cast (show z.low < z.high by omega)
theorem SpOk.width {W : Rat → Int} {B : Int} {z : Sp0} {e : Nat} (h : SpOk W B z e) : (z.b - z.a) * ((2 ^ e : Int) : Rat) = 2 * (B : Rat) := by
  have p := pow2_rat e
  have w : ((z.high - z.low : Int) : Rat) = ((2 * B : Int) : Rat) := by rw [h.wid]
  rw [Rat.intCast_sub, Rat.intCast_mul] at w
  have w2 : ((2 : Int) : Rat) = 2 := rfl
  rw [w2] at w
  unfold Sp0.a Sp0.b
  rw [h.sc]
  have e1 : (z.high : Rat) / ((2 ^ e : Int) : Rat) * ((2 ^ e : Int) : Rat) = z.high := div_mul_self (by grind)
  have e2 : (z.low : Rat) / ((2 ^ e : Int) : Rat) * ((2 ^ e : Int) : Rat) = z.low := div_mul_self (by grind)
  grind
def Sp0.lower (z : Sp0) (m : Int) : Sp0 := ⟨2 * z.low, z.low + z.high, 2 * z.scale, z.al, m⟩
def Sp0.upper (z : Sp0) (m : Int) : Sp0 := ⟨z.low + z.high, 2 * z.high, 2 * z.scale, m, z.ah⟩
def Sp0.mid (z : Sp0) : Rat := ((z.low + z.high : Int) : Rat) / ((2 * z.scale : Int) : Rat)
theorem two_div (x : Int) {s : Int} (h : (s : Rat) ≠ 0) : ((2 * x : Int) : Rat) / ((2 * s : Int) : Rat) = (x : Rat) / (s : Rat) := by
  rw [Rat.intCast_mul, Rat.intCast_mul]
  have : ((2 : Int) : Rat) = 2 := rfl
  rw [this]
  grind
theorem SpOk.sc0 {W : Rat → Int} {B : Int} {z : Sp0} {e : Nat} (h : SpOk W B z e) : (z.scale : Rat) ≠ 0 := by
  have p := pow2_rat e
  rw [h.sc]
  grind
theorem SpOk.low' {W : Rat → Int} {B : Int} {z : Sp0} {e : Nat} (h : SpOk W B z e) (hB : 0 < B) : SpOk W B (z.lower (W z.mid)) (e + 1) ∧ (z.lower (W z.mid)).a = z.a ∧ (z.lower (W z.mid)).b = z.mid := by
  have ea : (z.lower (W z.mid)).a = z.a := two_div _ h.sc0
  have w := h.wid
  have l := h.lo
  have u := h.hi
  refine ⟨⟨?_, ?_, ?_, ?_, ?_, rfl⟩, ea, rfl⟩
  · show 2 * z.scale = _
    rw [h.sc, Int.pow_succ]; omega
  · show z.low + z.high - 2 * z.low = _
    omega
  · show -(B * 2 ^ (e + 1)) ≤ 2 * z.low
    rw [Int.pow_succ, ← Int.mul_assoc]; omega
  · show z.low + z.high ≤ B * 2 ^ (e + 1)
    rw [Int.pow_succ, ← Int.mul_assoc]; omega
  · show z.al = _
    rw [ea]; exact h.al
theorem SpOk.up' {W : Rat → Int} {B : Int} {z : Sp0} {e : Nat} (h : SpOk W B z e) (hB : 0 < B) : SpOk W B (z.upper (W z.mid)) (e + 1) ∧ (z.upper (W z.mid)).a = z.mid ∧ (z.upper (W z.mid)).b = z.b := by
  have eb : (z.upper (W z.mid)).b = z.b := two_div _ h.sc0
  have w := h.wid
  have l := h.lo
  have u := h.hi
  refine ⟨⟨?_, ?_, ?_, ?_, rfl, ?_⟩, rfl, eb⟩
  · show 2 * z.scale = _
    rw [h.sc, Int.pow_succ]; omega
  · show 2 * z.high - (z.low + z.high) = _
    omega
  · show -(B * 2 ^ (e + 1)) ≤ z.low + z.high
    rw [Int.pow_succ, ← Int.mul_assoc]; omega
  · show 2 * z.high ≤ B * 2 ^ (e + 1)
    rw [Int.pow_succ, ← Int.mul_assoc]; omega
  · show z.ah = _
    rw [eb]; exact h.ah
theorem Cov.split {W : Rat → Int} {w0 n k : Int} {z : Sp0} {r : List Sp0} {B : Int} {e : Nat} (h : SpOk W B z e) (hB : 0 < B) (c : Cov W w0 n k (z :: r)) : Cov W w0 n k (z.lower (W z.mid) :: z.upper (W z.mid) :: r) := by
  obtain ⟨_, l1, l2⟩ := h.low' hB
  obtain ⟨_, u1, u2⟩ := h.up' hB
  obtain ⟨c1, c2⟩ := c
  refine ⟨by rw [l1]; exact c1, ?_, ?_⟩
  · rw [l2, u1]
  · rw [u2]; exact c2
theorem depth_bound {p q : List Rat} {L1 L2 Lg : List (List Int)} {B : Int} (J : JrOk p q L1 L2 Lg B) (sp : Sm p) (sq : Sm q) (hb : B.natAbs ≤ 2 ^ 1002) {z : Sp0} {e : Nat} (h : SpOk (JV L1 L2 Lg) B z e) (c : 1 < z.al - z.ah) : e < 33771 := by
  have b1 := J.ends.2.2
  have hB : 0 < B := by
    have : ((0 : Int) : Rat) < (B : Rat) := by
      have z : ((0 : Int) : Rat) = 0 := rfl
      rw [z]; grind
    exact_mod_cast this
  refine Classical.byContradiction fun k => ?_
  have lt := h.lt hB
  have d := J.diff lt
  rw [h.al, h.ah] at c
  have w := h.width
  have s := cuJ_sep J.tp J.np sp J.tq J.nq sq lt (by
    have p := pow2_rat e
    have e1 : 2 * B * 2 ^ 32767 ≤ 2 ^ e := by
      have h1 : B ≤ 2 ^ 1002 := by
        have : ((B.natAbs : Nat) : Int) ≤ ((2 ^ 1002 : Nat) : Int) := Int.ofNat_le.mpr hb
        have e : ((2 ^ 1002 : Nat) : Int) = 2 ^ 1002 := Int.natCast_pow 2 1002
        omega
      have h2 : (2 : Int) * 2 ^ 1002 * 2 ^ 32767 = 2 ^ 33770 := by
        rw [← Int.pow_succ', ← Int.pow_add]
      have h3 : (2 : Int) ^ 33770 ≤ 2 ^ e := by
        have k := Int.ofNat_le.mpr (Nat.pow_le_pow_right (show 0 < 2 by decide) (show 33770 ≤ e by omega))
        have e1 : ((2 ^ 33770 : Nat) : Int) = 2 ^ 33770 := Int.natCast_pow 2 33770
        have e2 : ((2 ^ e : Nat) : Int) = 2 ^ e := Int.natCast_pow 2 e
        rw [← e1, ← e2]
        exact k
      have h4 : 2 * B * 2 ^ 32767 ≤ 2 * 2 ^ 1002 * 2 ^ 32767 := Int.mul_le_mul_of_nonneg_right (by omega) (Int.le_of_lt (Int.pow_pos (by decide)))
      omega
    have e2' : ((2 * B * 2 ^ 32767 : Int) : Rat) ≤ ((2 ^ e : Int) : Rat) := by exact_mod_cast e1
    rw [Rat.intCast_mul, Rat.intCast_mul] at e2'
    have t2 : ((2 : Int) : Rat) = 2 := rfl
    have t3 : ((2 ^ 32767 : Int) : Rat) = e2 32767 := by
      unfold e2
      rw [← Rat.intCast_natCast, Int.natCast_pow]
      rfl
    rw [t2, t3, ← w] at e2'
    refine mul_le_cancel p ?_
    grind)
  omega
theorem joint_found {p q : List Rat} {L1 L2 Lg : List (List Int)} {B : Int} (J : JrOk p q L1 L2 Lg B) (sp : Sm p) (sq : Sm q) {fs : List Sp0} {w0 : Int} (hw : w0 = JV L1 L2 Lg (-(B : Rat))) (hn : (fs.length : Int) = w0 - JV L1 L2 Lg (B : Rat))
    (h : ∀ (i : Nat) (z : Sp0), fs[i]? = some z → w0 - JV L1 L2 Lg z.a = i ∧ w0 - JV L1 L2 Lg z.b = i + 1 ∧ -(B : Rat) ≤ z.a ∧ -(B : Rat) ≤ z.b) :
    Kqg2.jointMultiplicities p q = fs.map fun z => ((cu (Kqg1.layerChains p) z.b - cu (Kqg1.layerChains p) z.a).toNat, (cu (Kqg1.layerChains q) z.b - cu (Kqg1.layerChains q) z.a).toNat) := by
  obtain ⟨e0, e1, e2⟩ := J.ends
  have key : ∀ t, -(B : Rat) ≤ t → w0 - JV L1 L2 Lg t = cuJ p q t := fun t ht => by
    by_cases c : t = -(B : Rat)
    · rw [c, e0, hw]; omega
    · have := J.diff (show -(B : Rat) < t by grind)
      rw [e0] at this
      omega
  have en : (fs.length : Int) = tot (Kqg1.layerChains (JP p q)) := by
    rw [hn, key _ (by grind), e1]
  have := joint_spec J.tp J.np J.tq J.nq (sep_spec J.tp J.np sp J.tq J.nq sq) en (lo := fun k => (fs.getD k ⟨0, 0, 1, 0, 0⟩).a) (hi := fun k => (fs.getD k ⟨0, 0, 1, 0, 0⟩).b) fun k hk => by
    have hz : fs[k]? = some (fs[k]) := List.getElem?_eq_getElem hk
    have ed : fs.getD k ⟨0, 0, 1, 0, 0⟩ = fs[k] := by rw [List.getD_eq_getElem?_getD, hz]; rfl
    obtain ⟨a1, a2, a3, a4⟩ := h k _ hz
    rw [ed]
    have k1 := key _ a3
    have k2 := key _ a4
    exact ⟨by show cuJ p q _ = _; omega, by show cuJ p q _ = _; omega⟩
  rw [this]
  refine List.ext_getElem? fun i => ?_
  rw [List.getElem?_map, List.getElem?_map]
  by_cases hi : i < fs.length
  · rw [List.getElem?_range hi, List.getElem?_eq_getElem hi]
    have ed : fs.getD i ⟨0, 0, 1, 0, 0⟩ = fs[i] := by rw [List.getD_eq_getElem?_getD, List.getElem?_eq_getElem hi]; rfl
    dsimp only [Option.map_some]
    rw [ed]
  · rw [List.getElem?_eq_none (by simpa using hi), List.getElem?_eq_none (by omega)]; rfl
end Kv
namespace Kv
theorem V_of {L : List (List (List Rat))} {lJ : List (List Rat)} {J : List Rat} (hL : Fam L) (hJ : Ct J lJ) (eJ : hd lJ = J) (sq : Sqf J) (d : ∀ l ∈ L, Dv (hd l) J)
    {s t : Rat} {a b : Bool} (e : val [lJ] s a ≤ val [lJ] t b) : val L s a ≤ val L t b := by
  by_cases q : val [lJ] s a = val [lJ] t b
  · rw [val_eq hL hJ eJ sq d q]; exact Int.le_refl _
  · have fJ : Fam [lJ] := fun l hl => by rw [List.mem_singleton.mp hl, eJ]; exact hJ
    have up : ∀ {M : List (List (List Rat))}, Fam M → ∀ {s t : Rat} {a b : Bool}, (s < t ∨ (s = t ∧ (a = false ∨ b = true))) → val M s a ≤ val M t b := fun {M} hM {s t} {a b} h => by
      have m1 : ∀ {x y : Rat}, x ≤ y → cu M x ≤ cu M y := fun {x y} h => by
        by_cases c : x = y
        · rw [c]; exact Int.le_refl _
        · exact sum_map_le fun l hl => by have := (hM l hl).cnt.mono (show x < y by grind); omega
      have m2 : ∀ {x y : Rat}, x ≤ y → cb M x ≤ cb M y := fun h => cb_mono' hM h
      have m3 := cb_le_cu M
      rcases h with h | ⟨rfl, h⟩
      · have k1 := m1 (show s ≤ t by grind)
        have k2 := m2 (show s ≤ t by grind)
        have k3 := cu_le_cb hM h
        have k4 := m3 t
        have k5 := m3 s
        unfold val
        cases a <;> cases b <;> simp <;> omega
      · have k5 := m3 s
        unfold val
        cases a <;> cases b <;> simp_all
    by_cases h1 : s < t
    · exact up hL (.inl h1)
    · by_cases h2 : t < s
      · exact absurd (up fJ (s := t) (t := s) (a := b) (b := a) (.inl h2)) (by omega)
      · have : s = t := by grind
        subst this
        cases a
        · exact up hL (.inr ⟨rfl, .inl rfl⟩)
        · cases b
          · exact absurd (up fJ (s := s) (t := s) (a := false) (b := true) (.inr ⟨rfl, .inl rfl⟩)) (by omega)
          · exact up hL (.inr ⟨rfl, .inr rfl⟩)
theorem cu_at_cb {lJ : List (List Rat)} {J : List Rat} (hJ : Ct J lJ) (eJ : hd lJ = J) (t : Rat) : ∃ s, s < t ∧ cu [lJ] s = cb [lJ] t := by
  obtain ⟨d, hd0, k⟩ := hJ.cnt.left t
  obtain ⟨x, a, b, c⟩ := near (show t - 1 < t by grind) hd0
  refine ⟨x, b, ?_⟩
  unfold cu cb
  rw [List.map_cons, List.map_cons, sum_cons, sum_cons, eJ, k x b c]
  show _ + (0 : Int) = _ + 0
  omega
structure Jpl (p q : List Rat) (n : Nat) (c : Nat → Rat) : Prop where
  tt : (n : Int) = tot (Kqg1.layerChains (JP p q))
  at_ : ∀ k, k ≤ n → cu (Kqg1.layerChains (JP p q)) (c k) = k
theorem joint_chain {p q : List Rat} (hp : Tr p) (np : p ≠ []) (hq : Tr q) (nq : q ≠ []) (h : 0 < tot (Kqg1.layerChains (JP p q))) :
    Kqg1.layerChains (JP p q) = [Kqg1.sturmChain (JP p q)] ∧ Ct (JP p q) (Kqg1.sturmChain (JP p q)) ∧ hd (Kqg1.sturmChain (JP p q)) = JP p q ∧ Sqf (JP p q) := by
  obtain ⟨nm, S, nJ⟩ := sf_joint hp np hq nq
  have ctJ := ct_spec S.tr nJ
  rw [squarefree_id S.tr nJ S.sq] at ctJ
  refine ⟨?_, ctJ, by rw [hd_chain S.tr nJ, squarefree_id S.tr nJ S.sq], S.sq⟩
  rw [layers_sq S.tr nJ S.sq] at h ⊢
  by_cases c : (JP p q).length ≤ 1
  · rw [if_pos c] at h
    have : tot [] = 0 := rfl
    omega
  · rw [if_neg c]
theorem joint_places {p q : List Rat} (hp : Tr p) (np : p ≠ []) (sp : Sm p) (hq : Tr q) (nq : q ≠ []) (sq : Sm q) : ∃ n c, Jpl p q n c := by
  obtain ⟨nm, S, nJ⟩ := sf_joint hp np hq nq
  obtain ⟨fJ, pJ⟩ := fam_layers S.tr nJ
  have bJ := far_rootBound S.tr nJ
  have nn : 0 ≤ tot (Kqg1.layerChains (JP p q)) := by rw [← count_all fJ]; omega
  obtain ⟨n, hn⟩ : ∃ n : Nat, (n : Int) = tot (Kqg1.layerChains (JP p q)) := ⟨(tot (Kqg1.layerChains (JP p q))).toNat, by omega⟩
  have fl : ∀ (k : Nat), k < n → cb (Kqg1.layerChains (JP p q)) (Kqg1.dyadic (Kqg1.rootFloorByChains (Kqg1.layerChains (JP p q)) (Kqg1.rootBound (JP p q)) k 32768) 32768) ≤ k ∧
      (k : Int) < cb (Kqg1.layerChains (JP p q)) (Kqg1.dyadic (Kqg1.rootFloorByChains (Kqg1.layerChains (JP p q)) (Kqg1.rootBound (JP p q)) k 32768 + 1) 32768) :=
    fun k hk => rootFloor_spec fJ pJ bJ (by omega) 32768
  have sep := sep_spec hp np sp hq nq sq
  have nd : ((List.range n).map fun k => Kqg1.rootFloorByChains (Kqg1.layerChains (JP p q)) (Kqg1.rootBound (JP p q)) k 32768).Nodup := by
    refine nodup_of fun i j hij hj e => ?_
    have a := fl i (by omega)
    have b := fl j hj
    rw [← e] at b
    have := sep (Kqg1.rootFloorByChains (Kqg1.layerChains (JP p q)) (Kqg1.rootBound (JP p q)) i 32768)
    omega
  have ex : ∀ k : Nat, ∃ t : Rat, k ≤ n → cu (Kqg1.layerChains (JP p q)) t = k := fun k => by
    by_cases hk : k < n
    · obtain ⟨c1, _⟩ := cells_of_nodup fJ hn fl nd hk
      obtain ⟨lJ, ctJ, eJ, _⟩ := joint_chain hp np hq nq (by omega)
      obtain ⟨s, _, hs⟩ := cu_at_cb ctJ eJ (Kqg1.dyadic (Kqg1.rootFloorByChains (Kqg1.layerChains (JP p q)) (Kqg1.rootBound (JP p q)) k 32768) 32768)
      rw [← lJ] at hs
      exact ⟨s, fun _ => by rw [hs, c1]⟩
    · obtain ⟨_, _, h3, _⟩ := cb_far fJ pJ bJ Rat.le_refl
      exact ⟨_, fun h => by rw [h3]; omega⟩
  obtain ⟨c, hc⟩ := Classical.axiomOfChoice ex
  exact ⟨n, c, hn, fun k hk => hc k hk⟩
theorem Jpl.eq {p q : List Rat} {n : Nat} {c : Nat → Rat} (h : Jpl p q n c) (hp : Tr p) (np : p ≠ []) (sp : Sm p) (hq : Tr q) (nq : q ≠ []) (sq : Sm q) :
    Kqg2.jointMultiplicities p q = (List.range n).map fun k => ((cu (Kqg1.layerChains p) (c (k + 1)) - cu (Kqg1.layerChains p) (c k)).toNat, (cu (Kqg1.layerChains q) (c (k + 1)) - cu (Kqg1.layerChains q) (c k)).toNat) :=
  joint_spec hp np hq nq (sep_spec hp np sp hq nq sq) h.tt (lo := c) (hi := fun k => c (k + 1)) fun k hk => ⟨h.at_ k (by omega), h.at_ (k + 1) (by omega)⟩
structure Half (p q r : List Rat) : Prop where
  tr : Tr r
  ne : r ≠ []
  d : ∀ l ∈ Kqg1.layerChains r, Dv (hd l) (JP p q)
  m : Dv r (Kqg1.multiply p q)
theorem half_left {p q : List Rat} (hp : Tr p) (np : p ≠ []) (hq : Tr q) (nq : q ≠ []) : Half p q p := ⟨hp, np, (layers_joint hp np hq nq).1, ⟨q, fun x => ev_multiply p q x⟩⟩
theorem half_right {p q : List Rat} (hp : Tr p) (np : p ≠ []) (hq : Tr q) (nq : q ≠ []) : Half p q q := ⟨hq, nq, (layers_joint hp np hq nq).2, ⟨p, fun x => by rw [ev_multiply]; grind⟩⟩
theorem Half.le {p q r : List Rat} (H : Half p q r) (hp : Tr p) (np : p ≠ []) (hq : Tr q) (nq : q ≠ []) (h : 0 < tot (Kqg1.layerChains (JP p q))) {s t : Rat} {a b : Bool}
    (e : val (Kqg1.layerChains (JP p q)) s a ≤ val (Kqg1.layerChains (JP p q)) t b) : val (Kqg1.layerChains r) s a ≤ val (Kqg1.layerChains r) t b := by
  obtain ⟨lJ, ctJ, eJ, sq⟩ := joint_chain hp np hq nq h
  rw [lJ] at e
  exact V_of (fam_layers H.tr H.ne).1 ctJ eJ sq H.d e
theorem Half.zero {p q r : List Rat} (H : Half p q r) (hp : Tr p) (np : p ≠ []) (hq : Tr q) (nq : q ≠ []) {n : Nat} {c : Nat → Rat} (J : Jpl p q n c) (hn : 0 < n) : cu (Kqg1.layerChains r) (c 0) = 0 := by
  obtain ⟨nm, S, nJ⟩ := sf_joint hp np hq nq
  obtain ⟨fJ, pJ⟩ := fam_layers S.tr nJ
  have tm := tr_multiply p q
  have bm := far_rootBound tm nm
  have pJ2 : Part (Kqg1.layerChains (JP p q)) (Kqg1.multiply p q) := fun l hl => (pJ l hl).trans S.dv
  obtain ⟨fr, pr⟩ := fam_layers H.tr H.ne
  have pr2 : Part (Kqg1.layerChains r) (Kqg1.multiply p q) := fun l hl => (pr l hl).trans H.m
  obtain ⟨_, _, _, j4⟩ := cb_far fJ pJ2 bm Rat.le_refl
  obtain ⟨_, _, _, r4⟩ := cb_far fr pr2 bm Rat.le_refl
  have j0 := J.at_ 0 (Nat.zero_le _)
  have t0 : 0 < tot (Kqg1.layerChains (JP p q)) := by have := J.tt; omega
  have a := H.le hp np hq nq t0 (s := c 0) (t := -(Kqg1.rootBound (Kqg1.multiply p q) : Rat)) (a := true) (b := true) (by show cu _ _ ≤ cu _ _; rw [j0, j4]; exact Int.le_refl _)
  have b := H.le hp np hq nq t0 (s := -(Kqg1.rootBound (Kqg1.multiply p q) : Rat)) (t := c 0) (a := true) (b := true) (by show cu _ _ ≤ cu _ _; rw [j0, j4]; exact Int.le_refl _)
  have a : cu _ _ ≤ cu _ _ := a
  have b : cu _ _ ≤ cu _ _ := b
  omega
theorem Half.up {p q r : List Rat} (H : Half p q r) (hp : Tr p) (np : p ≠ []) (hq : Tr q) (nq : q ≠ []) {n : Nat} {c : Nat → Rat} (J : Jpl p q n c) {k : Nat} (hk : k < n) : cu (Kqg1.layerChains r) (c k) ≤ cu (Kqg1.layerChains r) (c (k + 1)) :=
  H.le hp np hq nq (by have := J.tt; omega) (a := true) (b := true) (by show cu _ _ ≤ cu _ _; rw [J.at_ k (by omega), J.at_ (k + 1) (by omega)]; omega)
theorem sum_append (a b : List Int) : sum (a ++ b) = sum a + sum b := by
  induction a with
  | nil => rw [List.nil_append, sum_nil]; omega
  | cons x a ih => rw [List.cons_append, sum_cons, sum_cons, ih]; omega
theorem Half.sum {p q r : List Rat} (H : Half p q r) (hp : Tr p) (np : p ≠ []) (hq : Tr q) (nq : q ≠ []) {n : Nat} {c : Nat → Rat} (J : Jpl p q n c) : ∀ k, k ≤ n → 0 < n →
    Kv.sum ((List.range k).map fun i => (((cu (Kqg1.layerChains r) (c (i + 1)) - cu (Kqg1.layerChains r) (c i)).toNat : Nat) : Int)) = cu (Kqg1.layerChains r) (c k)
  | 0, _, hn => by rw [H.zero hp np hq nq J hn]; rfl
  | k + 1, hk, hn => by
    have ih := H.sum hp np hq nq J k (by omega) hn
    have u := H.up hp np hq nq J (show k < n by omega)
    rw [List.range_succ, List.map_append, sum_append, ih]
    show _ + ((((cu (Kqg1.layerChains r) (c (k + 1)) - cu (Kqg1.layerChains r) (c k)).toNat : Nat) : Int) + 0) = _
    omega
theorem Half.floor {p q r : List Rat} (H : Half p q r) (hp : Tr p) (np : p ≠ []) (hq : Tr q) (nq : q ≠ []) {n : Nat} {c : Nat → Rat} (J : Jpl p q n c) {k : Nat} (hk : k < n) {i : Nat} (hi : (i : Int) = cu (Kqg1.layerChains r) (c k)) (h : cu (Kqg1.layerChains r) (c k) < cu (Kqg1.layerChains r) (c (k + 1))) (bits : Nat) :
    Kqg1.rootFloor r i bits = Kqg1.rootFloor (JP p q) k bits ∧ (i : Int) < tot (Kqg1.layerChains r) := by
  obtain ⟨nm, S, nJ⟩ := sf_joint hp np hq nq
  obtain ⟨fJ, pJ⟩ := fam_layers S.tr nJ
  obtain ⟨fr, pr⟩ := fam_layers H.tr H.ne
  have t0 : 0 < tot (Kqg1.layerChains (JP p q)) := by have := J.tt; omega
  obtain ⟨f1, f2⟩ := rootFloor_spec fJ pJ (far_rootBound S.tr nJ) (k := k) (by have := J.tt; omega) bits
  have g1 : cb (Kqg1.layerChains r) (Kqg1.dyadic (Kqg1.rootFloor (JP p q) k bits) bits) ≤ i := by
    rw [hi]
    exact H.le hp np hq nq t0 (a := false) (b := true) (by show cb _ _ ≤ cu _ _; rw [J.at_ k (by omega)]; exact f1)
  have g2 : (i : Int) < cb (Kqg1.layerChains r) (Kqg1.dyadic (Kqg1.rootFloor (JP p q) k bits + 1) bits) := by
    rw [hi]
    have : cu (Kqg1.layerChains r) (c (k + 1)) ≤ cb (Kqg1.layerChains r) (Kqg1.dyadic (Kqg1.rootFloor (JP p q) k bits + 1) bits) :=
      H.le hp np hq nq t0 (a := true) (b := false) (by show cu _ _ ≤ cb _ _; rw [J.at_ (k + 1) (by omega)]; exact f2)
    omega
  have lt : (i : Int) < tot (Kqg1.layerChains r) := by
    have := (cb_tot fr (Kqg1.dyadic (Kqg1.rootFloor (JP p q) k bits + 1) bits)).1
    omega
  obtain ⟨k1, k2⟩ := rootFloor_spec fr pr (far_rootBound H.tr H.ne) lt bits
  exact ⟨floor_unique fr k1 k2 g1 g2, lt⟩
theorem first_le {r : List Rat} (t : Tr r) (n : r ≠ []) {a b : Rat} (h : a < b) : V (Kqg1.sturmChain r) a - V (Kqg1.sturmChain r) b ≤ cu (Kqg1.layerChains r) b - cu (Kqg1.layerChains r) a := by
  obtain ⟨fm, _⟩ := fam_layers t n
  have key : ∀ {L : List (List (List Rat))}, Fam L → 0 ≤ cu L b - cu L a := fun {L} hL => by
    have : cu L a ≤ cu L b := sum_map_le fun l hl => by have := (hL l hl).cnt.mono h; omega
    omega
  by_cases c : r.length ≤ 1
  · obtain ⟨x, hx⟩ := len_one (p := r) (by have := List.length_pos_iff.mpr n; omega)
    have x0 : x ≠ 0 := by
      have := t.ld n
      rw [hx] at this
      exact this
    have ct := (ct_spec t n).cnt
    have e : Kqg1.squarefree r = [x] := by unfold Kqg1.squarefree; rw [if_pos c, hx]
    rw [e] at ct
    have := Cnt.const x0 ct h
    have := key fm
    omega
  · have e : ∃ R, Kqg1.layerChains r = Kqg1.sturmChain r :: R := by
      unfold Kqg1.layerChains
      cases e2 : r.length with
      | zero => omega
      | succ m =>
        rw [Kqg1.multiplicityLayers, if_neg c, List.map_cons]
        exact ⟨_, rfl⟩
    obtain ⟨R, e⟩ := e
    rw [e] at fm ⊢
    have := key (L := R) fun l hl => fm l (List.mem_cons_of_mem _ hl)
    unfold cu at this ⊢
    rw [List.map_cons, List.map_cons, sum_cons, sum_cons]
    omega
theorem joint_some {p q : List Rat} (hp : Tr p) (np : p ≠ []) (hq : Tr q) (nq : q ≠ []) {n : Nat} {c : Nat → Rat} (J : Jpl p q n c) {k : Nat} (hk : k < n) :
    cu (Kqg1.layerChains p) (c k) < cu (Kqg1.layerChains p) (c (k + 1)) ∨ cu (Kqg1.layerChains q) (c k) < cu (Kqg1.layerChains q) (c (k + 1)) := by
  obtain ⟨nm, K, nJ⟩ := sf_joint hp np hq nq
  have S := sf_spec hp np
  have T := sf_spec hq nq
  have ns := ne_of_dv hp np S.dv
  obtain ⟨a, d, e, hc, cab, cag, cbg, ea, ed, eJ⟩ := joint_split hp np hq nq (tr_multiply p q) nm (ev_multiply p q) S T K
  obtain ⟨th, Hg, nh⟩ := gcd_spec S.tr T.tr ns
  have t0 : 0 < tot (Kqg1.layerChains (JP p q)) := by have := J.tt; omega
  obtain ⟨lJ, ctJ, eJ2, sq⟩ := joint_chain hp np hq nq t0
  have fJ : Fam (Kqg1.layerChains (JP p q)) := (fam_layers K.tr nJ).1
  have j1 := J.at_ k (by omega)
  have j2 := J.at_ (k + 1) (by omega)
  have lt : c k < c (k + 1) := by
    refine Classical.byContradiction fun h => ?_
    have : cu (Kqg1.layerChains (JP p q)) (c (k + 1)) ≤ cu (Kqg1.layerChains (JP p q)) (c k) := by
      by_cases c2 : c (k + 1) = c k
      · rw [c2]; exact Int.le_refl _
      · exact sum_map_le fun l hl => by have := (fJ l hl).cnt.mono (show c (k + 1) < c k by grind); omega
    omega
  have sg : Sqf (Kqg1.gcd (Kqg1.squarefree p) (Kqg1.squarefree q)) := S.sq.factor (w := a) fun x => by rw [ea, Rat.mul_comm]
  have kk := Cnt.joint hc cab cag cbg ea ed eJ ctJ.cnt (ct_spec hp np).cnt (ct_spec hq nq).cnt (ct_sq th nh sg).cnt lt
  have m3 := (ct_sq th nh sg).cnt.mono lt
  have f1 := first_le hp np lt
  have f2 := first_le hq nq lt
  rw [lJ] at j1 j2
  unfold cu at j1 j2
  rw [List.map_cons, sum_cons] at j1 j2
  have j1 : Vm _ - V (Kqg1.sturmChain (JP p q)) (c k) + 0 = (k : Int) := j1
  have j2 : Vm _ - V (Kqg1.sturmChain (JP p q)) (c (k + 1)) + 0 = ((k + 1 : Nat) : Int) := j2
  omega
theorem joint_floor {p q : List Rat} (hp : Tr p) (np : p ≠ []) (sp : Sm p) (hq : Tr q) (nq : q ≠ []) (sq : Sm q) {k : Nat} {x : Nat × Nat} (hk : (Kqg2.jointMultiplicities p q)[k]? = some x) (bits : Nat) :
    (0 < x.1 → ∃ i : Nat, (i : Int) = Kv.sum (((Kqg2.jointMultiplicities p q).take k).map fun y => (y.1 : Int)) ∧ Kqg1.rootFloor p i bits = Kqg1.rootFloor (JP p q) k bits ∧ (i : Int) < tot (Kqg1.layerChains p)) ∧
    (x.1 = 0 → ∃ i : Nat, (i : Int) = Kv.sum (((Kqg2.jointMultiplicities p q).take k).map fun y => (y.2 : Int)) ∧ Kqg1.rootFloor q i bits = Kqg1.rootFloor (JP p q) k bits ∧ (i : Int) < tot (Kqg1.layerChains q)) ∧
    (Kqg2.jointMultiplicities p q).length = Kqg1.countRoots (JP p q) .minusInfinity .plusInfinity := by
  obtain ⟨n, c, J⟩ := joint_places hp np sp hq nq sq
  have e := J.eq hp np sp hq nq sq
  have ln : (Kqg2.jointMultiplicities p q).length = n := by rw [e]; simp
  have kn : k < n := by have := (List.getElem?_eq_some_iff.mp hk).1; omega
  have hx : x = ((cu (Kqg1.layerChains p) (c (k + 1)) - cu (Kqg1.layerChains p) (c k)).toNat, (cu (Kqg1.layerChains q) (c (k + 1)) - cu (Kqg1.layerChains q) (c k)).toNat) := by
    rw [e, List.getElem?_map, List.getElem?_range kn] at hk
    exact (Option.some.inj hk).symm
  have tk : (Kqg2.jointMultiplicities p q).take k = (List.range k).map fun k => ((cu (Kqg1.layerChains p) (c (k + 1)) - cu (Kqg1.layerChains p) (c k)).toNat, (cu (Kqg1.layerChains q) (c (k + 1)) - cu (Kqg1.layerChains q) (c k)).toNat) := by
    rw [e, ← List.map_take, List.take_range, show min k n = k by omega]
  have hl := half_left hp np hq nq
  have hr := half_right hp np hq nq
  have s1 := hl.sum hp np hq nq J k (by omega) (by omega)
  have s2 := hr.sum hp np hq nq J k (by omega) (by omega)
  have nnl : 0 ≤ cu (Kqg1.layerChains p) (c k) := by rw [← count_up (fam_layers hp np).1]; omega
  have nnr : 0 ≤ cu (Kqg1.layerChains q) (c k) := by rw [← count_up (fam_layers hq nq).1]; omega
  refine ⟨fun h => ?_, fun h => ?_, ?_⟩
  · rw [hx] at h
    obtain ⟨f1, f2⟩ := hl.floor hp np hq nq J kn (i := (cu (Kqg1.layerChains p) (c k)).toNat) (by omega) (by dsimp only at h; omega) bits
    refine ⟨_, ?_, f1, f2⟩
    rw [tk, List.map_map]
    show _ = Kv.sum ((List.range k).map fun i => (((cu (Kqg1.layerChains p) (c (i + 1)) - cu (Kqg1.layerChains p) (c i)).toNat : Nat) : Int))
    rw [s1]
    omega
  · rw [hx] at h
    have some := joint_some hp np hq nq J kn
    obtain ⟨f1, f2⟩ := hr.floor hp np hq nq J kn (i := (cu (Kqg1.layerChains q) (c k)).toNat) (by omega) (by dsimp only at h; omega) bits
    refine ⟨_, ?_, f1, f2⟩
    rw [tk, List.map_map]
    show _ = Kv.sum ((List.range k).map fun i => (((cu (Kqg1.layerChains q) (c (i + 1)) - cu (Kqg1.layerChains q) (c i)).toNat : Nat) : Int))
    rw [s2]
    omega
  · obtain ⟨nm, S, nJ⟩ := sf_joint hp np hq nq
    have := count_all (fam_layers S.tr nJ).1
    have e2 := J.tt
    unfold Kqg1.countRoots
    omega
end Kv
namespace Kv
def stp (d r : Int) (p : List Int) : List Int := List.zipWith (· - ·) (0 :: p.map fun a => d * a) ((p.map fun a => r * a) ++ [0])
theorem stp_len (d r : Int) (p : List Int) : (stp d r p).length = p.length + 1 := by unfold stp; simp
theorem ev_zip_sub : ∀ {a b : List Int}, a.length = b.length → ∀ x, ev (zr (List.zipWith (· - ·) a b)) x = ev (zr a) x - ev (zr b) x
  | [], [], _, x => by show ev [] x = ev [] x - ev [] x; rw [ev_nil]; grind
  | u :: a, v :: b, h, x => by
    have ih := ev_zip_sub (a := a) (b := b) (by simpa using h) x
    rw [List.zipWith_cons_cons]
    show ev (((u - v : Int) : Rat) :: zr _) x = ev ((u : Rat) :: zr a) x - ev ((v : Rat) :: zr b) x
    rw [ev_cons, ev_cons, ev_cons, ih, Rat.intCast_sub]
    grind
theorem zr_map_mul (c : Int) (p : List Int) : zr (p.map fun a => c * a) = psc (c : Rat) (zr p) := by
  unfold zr psc
  rw [List.map_map, List.map_map]
  refine List.map_congr_left fun a _ => ?_
  show ((c * a : Int) : Rat) = (c : Rat) * (a : Rat)
  rw [Rat.intCast_mul]
theorem stp_ev (d r : Int) (p : List Int) (x : Rat) : ev (zr (stp d r p)) x = ((d : Rat) * x - (r : Rat)) * ev (zr p) x := by
  unfold stp
  rw [ev_zip_sub (by simp), zr_append]
  have e0 : ev (zr (p.map fun a => r * a) ++ zr [0]) x = ev (zr (p.map fun a => r * a)) x := ev_snoc_zero _ x
  rw [e0, zr_map_mul, ev_psc]
  show ev (((0 : Int) : Rat) :: zr (p.map fun a => d * a)) x - _ = _
  rw [ev_cons, zr_map_mul, ev_psc]
  have : ((0 : Int) : Rat) = 0 := rfl
  rw [this]
  grind
theorem stp_ht {d r : Int} {p : List Int} {h : Nat} (hd : d.natAbs ≤ 2 ^ 10) (hr : r.natAbs ≤ 2 ^ 10) (hp : Ht p h) : Ht (stp d r p) (h + 11) := fun c hc => by
  obtain ⟨i, hi⟩ := List.getElem?_of_mem hc
  unfold stp at hi
  rw [List.getElem?_zipWith] at hi
  cases ea : (0 :: p.map fun a => d * a)[i]? with
  | none => rw [ea] at hi; cases hi
  | some u =>
    cases eb : ((p.map fun a => r * a) ++ [0])[i]? with
    | none => rw [ea, eb] at hi; cases hi
    | some v =>
      rw [ea, eb] at hi
      have e : u - v = c := Option.some.inj hi
      have hu : u.natAbs ≤ 2 ^ (10 + h) := by
        rcases List.mem_cons.mp (List.mem_of_getElem? ea) with q | q
        · rw [q]; exact Nat.zero_le _
        · obtain ⟨y, hy, rfl⟩ := List.mem_map.mp q
          exact mul_ht hd (hp y hy)
      have hv : v.natAbs ≤ 2 ^ (10 + h) := by
        rcases List.mem_append.mp (List.mem_of_getElem? eb) with q | q
        · obtain ⟨y, hy, rfl⟩ := List.mem_map.mp q
          exact mul_ht hr (hp y hy)
        · rw [List.mem_singleton.mp q]; exact Nat.zero_le _
      rw [← e]
      have := natAbs_le_two hu hv
      rw [show 10 + h + 1 = h + 11 by omega] at this
      exact this
def rts (d : Int) (c : List Int) : List Int := c.foldl (fun p r => stp d r p) [1]
def prd (d : Rat) (c : List Int) : List Rat := c.foldl (fun (p : List Rat) (x : Int) => Kqg1.multiply p [-((x : Rat) / d), 1]) [1]
theorem rts_snoc (d : Int) (c : List Int) (r : Int) : rts d (c ++ [r]) = stp d r (rts d c) := by unfold rts; rw [List.foldl_append]; rfl
theorem prd_snoc (d : Rat) (c : List Int) (r : Int) : prd d (c ++ [r]) = Kqg1.multiply (prd d c) [-((r : Rat) / d), 1] := by unfold prd; rw [List.foldl_append]; rfl
theorem snoc_ind {α : Type} {P : List α → Prop} (h0 : P []) (hs : ∀ l x, P l → P (l ++ [x])) (l : List α) : P l := by
  rw [← List.reverse_reverse l]
  induction l.reverse with
  | nil => exact h0
  | cons x r ih => rw [List.reverse_cons]; exact hs _ x ih
theorem prd_tr (d : Rat) (c : List Int) : Tr (prd d c) := snoc_ind (P := fun c => Tr (prd d c)) (.one (by decide)) (fun l x _ => by rw [prd_snoc]; exact tr_multiply _ _) c
theorem rts_len (d : Int) (c : List Int) : (rts d c).length = c.length + 1 := snoc_ind (P := fun c => (rts d c).length = c.length + 1) rfl (fun l x ih => by rw [rts_snoc, stp_len, ih, List.length_append]; rfl) c
theorem rts_ev {d : Int} (d0 : (d : Rat) ≠ 0) (c : List Int) : ∀ x, ev (zr (rts d c)) x = (d : Rat) ^ c.length * ev (prd (d : Rat) c) x :=
  snoc_ind (P := fun c => ∀ x, ev (zr (rts d c)) x = (d : Rat) ^ c.length * ev (prd (d : Rat) c) x)
    (fun x => by show ev [((1 : Int) : Rat)] x = (d : Rat) ^ 0 * ev [(1 : Rat)] x; rw [ev_one, ev_one, Rat.pow_zero]; show (1 : Rat) = 1 * 1; grind)
    (fun l r ih x => by
      rw [rts_snoc, prd_snoc, stp_ev, ev_multiply, ih, List.length_append, List.length_singleton, Rat.pow_succ, ev_cons, ev_one]
      have : (r : Rat) / (d : Rat) * (d : Rat) = (r : Rat) := div_mul_self d0
      grind) c
theorem rts_ht {d : Int} (hd : d.natAbs ≤ 2 ^ 10) (c : List Int) : (∀ r ∈ c, r.natAbs ≤ 2 ^ 10) → Ht (rts d c) (11 * c.length) :=
  snoc_ind (P := fun c => (∀ r ∈ c, r.natAbs ≤ 2 ^ 10) → Ht (rts d c) (11 * c.length)) (fun _ x hx => by
      have : x = 1 := by simpa [rts] using hx
      rw [this]; decide)
    (fun l r ih h => by
      rw [rts_snoc, List.length_append, List.length_singleton, Nat.mul_add]
      exact stp_ht hd (h r (by simp)) (ih fun s hs => h s (List.mem_append_left _ hs))) c
theorem ev_map_div {D : Rat} (c : List Int) (x : Rat) : ev (c.map fun (y : Int) => (y : Rat) / D) x = ev (zr c) x / D := by
  induction c with
  | nil => show ev [] x = ev [] x / D; rw [ev_nil]; grind
  | cons y c ih =>
    show ev ((y : Rat) / D :: _) x = ev ((y : Rat) :: zr c) x / D
    rw [ev_cons, ev_cons, ih]
    grind
theorem prd_eq {d : Int} (d0 : 0 < d) (c : List Int) : Kqg1.trim ((rts d c).map fun (y : Int) => (y : Rat) / ((d ^ c.length : Int) : Rat)) = prd (d : Rat) c := by
  have dn : (d : Rat) ≠ 0 := by
    have : (0 : Rat) < (d : Rat) := by exact_mod_cast d0
    grind
  refine same_of_ev (tr_trim _) (prd_tr _ _) fun x => ?_
  have pn : (d : Rat) ^ c.length ≠ 0 := by
    have := pow_pos' (show (0 : Rat) < (d : Rat) by exact_mod_cast d0) c.length
    grind
  rw [ev_trim, ev_map_div, rts_ev dn, Rat.intCast_pow]
  grind
theorem coef_map_scale (a : Rat) (p : List Rat) (i : Nat) : Kqg1.coefficient (p.map fun x => a * x) i = a * Kqg1.coefficient p i := by
  unfold Kqg1.coefficient
  rw [List.getD_eq_getElem?_getD, List.getD_eq_getElem?_getD, List.getElem?_map]
  cases p[i]? with
  | none => show (0 : Rat) = a * 0; grind
  | some x => rfl
theorem comb_eq (a b : Rat) (p q : List Rat) : Kqg1.trim ((List.range (max p.length q.length)).map fun i => a * Kqg1.coefficient p i + b * Kqg1.coefficient q i) = Kqg1.add (Kqg1.scale a p) (Kqg1.scale b q) := by
  refine same_of_ev (tr_trim _) (tr_add _ _) fun x => ?_
  rw [ev_trim, ev_add, ev_scale, ev_scale]
  have e := ev_tab_add (fun i => a * Kqg1.coefficient p i) (fun i => b * Kqg1.coefficient q i) (max p.length q.length) x
  have e1 := ev_tab_mul a (Kqg1.coefficient p) (max p.length q.length) x
  have e2 := ev_tab_mul b (Kqg1.coefficient q) (max p.length q.length) x
  rw [ev_tab_coef p _ (Nat.le_max_left _ _)] at e1
  rw [ev_tab_coef q _ (Nat.le_max_right _ _)] at e2
  rw [← e1, ← e2]
  exact e
theorem deriv_list {p : List Rat} (t : Tr p) : (List.range (p.length - 1)).map (fun i => ((i + 1 : Nat) : Rat) * Kqg1.coefficient p (i + 1)) = Kqg1.derivative p := by
  unfold Kqg1.derivative
  refine (trim_id ?_).symm
  by_cases h : p.length ≤ 1
  · left
    rw [show p.length - 1 = 0 by omega]
    rfl
  · right
    obtain ⟨n, hn⟩ : ∃ n, p.length - 1 = n + 1 := ⟨p.length - 2, by omega⟩
    rw [hn]
    have e := ld_tab n (fun i => ((i + 1 : Nat) : Rat) * Kqg1.coefficient p (i + 1))
    show ld (tab _ _) ≠ 0
    rw [e]
    have np : p ≠ [] := fun z => by rw [z] at h; simp at h
    have l := ld_coef np
    rw [hn] at l
    show ((n + 1 : Nat) : Rat) * Kqg1.coefficient p (n + 1) ≠ 0
    rw [l]
    intro z
    rcases mul_zero_cases z with z | z
    · have : ((n + 1 : Nat) : Rat) = ((0 : Nat) : Rat) := z
      have := Rat.natCast_inj.mp this
      omega
    · exact t.ld np z
end Kv
namespace Il
open PySem PySem.Spec PyProof.Rows L2
def topS (i : Nat) : Stmt := PySem.Challenge.pw_interlaced_s01_answers.main.body.getD i (.Pass ⟨0, 0, 0, 0⟩)
section
variable {X : Cx}
def CMulX (i j : Int) : Prop := i.natAbs.log2 + j.natAbs.log2 < 134000000
theorem CMulX.ok {i j : Int} (h : CMulX i j) : IntMulOk i j := by
  intro z
  rw [Bool.and_eq_true] at z
  have z3 := of_decide_eq_true z.2
  have e : bitsLine = 134217728 := by decide
  have b (x : Int) : Builtin.Int.intBits x ≤ x.natAbs.log2 + 1 := by
    unfold Builtin.Int.intBits
    split <;> omega
  have h1 := b i
  have h2 := b j
  unfold CMulX at h
  rw [e] at z3
  omega
theorem op_mulX : OpR X (binaryOp .Mult) (rI CMulX fun i j => .int (i * j)) := opI fun _ _ _ _ _ _ _ hc q => mul_int q hc.ok
theorem ip_mulX : PIp X .Mult (rI CMulX fun i j => .int (i * j)) := opI fun _ _ _ _ _ _ _ hc q => imul_int q hc.ok
def CDivS (_ j : Int) : Prop := j ≠ 0 ∧ j.natAbs.log2 < 9000
theorem op_fdivS : OpR X (binaryOp .FloorDiv) (rI CDivS fun i j => .int (i.fdiv j)) := opI fun _ _ _ _ _ _ _ hc q => floordiv_int hc.1 q (.inl (PyProof.noPylong_of_log2 hc.2))
structure Deep (X : Cx) : Prop where
  ns : X.base.NoSeer
  tree : X.prog.given.tree = none
  dp : X.A.depth + Builtin.pylongFrames < recursionLimit
  st : ∃ env l, X.stack = env :: l ∧ env.scope.isGenerator = false ∧ env.scope.isCoroutine = false ∧ env.builtins = builtinsNs ∧ env.globals = mainGlobals
theorem op_fdivX (d : Deep X) : OpR X (binaryOp .FloorDiv) (rI (fun _ j => j ≠ 0) fun i j => .int (i.fdiv j)) := by
  intro pins s σ H x y v u Q I rx ry h
  obtain ⟨i, j, rfl, rfl, hc, q⟩ := h
  obtain ⟨t, rfl⟩ := rx
  obtain ⟨t', rfl⟩ := ry
  obtain ⟨env, l, e, g1, g2, g3, g4⟩ := d.st
  exact floordiv_int hc ⟨.int (i.fdiv j), H, I.tok _, ⟨_, rfl⟩, q⟩
    (.inr (PySem.PylongRoom.of I.nolimit d.dp (PySem.SeerAt.of (d.ns.keeps I.bk) d.tree (by rw [I.ok.frames, e]) g1 g2 g3 g4)))
def rIxP (K : PySem.W.Frag) : V → V → Hp → VK → Prop := fun x y H Q => ∃ p xs, ∃ j : Nat, ∃ v, x = .ref p ∧ y = .int j ∧ SqL K H p xs ∧ xs[j]? = some v ∧ Q v H
theorem get_list : PGet X (rIxP X.K) := by
  intro pins s σ H o i ov iv Q I ro ri h
  obtain ⟨p, xs, j, z, rfl, rfl, hq, he, q⟩ := h
  cases ro
  obtain ⟨t, rfl⟩ := ri
  obtain ⟨its, r, pl, hz⟩ := I.list hq
  obtain ⟨w, ew, rw'⟩ := r.get he
  have hl := r.length
  have hn := line63
  have hj := (List.getElem?_eq_some_iff.mp he).1
  exact wpAny_getItem_list pl.isList (by omega) (by omega) (by rw [Int.toNat_natCast]; simpa using ew) ⟨z, H, I, rw', q⟩
end
end Il
namespace Il
open PySem PySem.Spec PyProof.Rows L2
section
variable {prog : Program} {w : World} {A : Around} {E : Value → Shared → Prop} {s : Shared}
theorem grow_rev {R : Result → Shared → Prop} {it l S : Addr} {items : Array Value} {c : Nat} (hh : A.handled = none) (hi : s.heap.IsRevIter it l ((items.size : Int) - 1)) (hl : s.heap.IsList l items) (hne : l ≠ it) (hn : items.size ≤ sizeLine)
    (h1 : S ≠ it) (h2 : S ≠ l) (hS : s.heap.get? S = some { cls := .type "list", data := .seq #[] c })
    (hR : ∀ h' tk acc c', (∀ b o, b ≠ S → b ≠ it → s.heap.get? b = some o → h'.get? b = some o) → h'.get? S = some { cls := .type "list", dict := none, data := .seq acc c', slots := #[] } → ItemsOf (fun i v => items[items.size - 1 - i]? = some v) acc items.size → R (.ok (.ret .none)) { s with heap := h', toks := tk }) :
    wpAny (model prog w) A.in1 (Builtin.List.listExtendWith (.ref S) (.ref it) .none) (fun fin s' => match fin with | .done f => R (.ok f) s' | .again c' => c'.quiet = true ∧ codeAny (model prog w) A c' R s') (fun e s' => R (.error e) s') s := by
  have W := (Walks.listRev (prog := prog) (w := w) (A := A.in1) hh it l hne items).toS
  have nf : S ∉ [it, l] := by simp [h1, h2]
  have ty : s.TypeIs (.ref it) "list_reverseiterator" := hi.typeIs
  have e0 : ((items.size : Nat) : Int) - 1 - ((0 : Nat) : Int) = (items.size : Int) - 1 := by omega
  have run : ∀ (h : Heap) (c₁ tk : Nat), h.IsRevIter it l ((items.size : Int) - 1) → h.IsList l items → (∀ b o, b ≠ S → s.heap.get? b = some o → h.get? b = some o) → h.get? S = some { cls := .type "list", data := .seq #[] c₁ } →
      codeAny (model prog w) A (.builtin "list.extend.loop" ⟨[.ref S, .ref it, .none], []⟩) R { s with heap := h, toks := tk } := fun h c₁ tk a1 a2 a3 a4 =>
    codeAny_extend_loopS W hn S nf .none items.size 0 _ #[] c₁ rfl (Nat.zero_le _) ⟨Nat.zero_le _, by rw [e0]; exact a1, a2⟩ a4 (ItemsOf.nil _) fun s' acc c' mv g1 g2 => by
      rw [Moved.eq_with mv]
      exact hR s'.heap s'.toks acc c' (fun b o n1 n2 e => mv.heap b o (by simp [n1, n2]) (a3 b o n1 e)) g1 g2
  have same : Builtin.List.listSameRef (.ref S) (.ref it) = false := by simp [Builtin.List.listSameRef, h1]
  unfold Builtin.List.listExtendWith
  refine wpAny_bind (wpAny_typeOf ty ?_)
  rw [if_neg (by rw [same]; decide)]
  refine wpAny_bind (wpAny_pyIter_revIter hi (wpAny_bind (wpAny_holding ?_)))
  unfold Builtin.List.listLengthHint
  refine wpAny_bind (wpAny_specialOf ty RT.nolen_lri ?_)
  show wpAny _ A.in1 (specialOf (.ref it) ("__length_hint__" : Str) >>= _) _ _ _
  refine wpAny_bind (wpAny_specialOf ty RT.hint_lri ?_)
  generalize hid : ("list_reverseiterator.__length_hint__" : String) = id0
  wp_delta
  rw [show splitId id0 = some ("list_reverseiterator", "__length_hint__") from by subst hid; decide +kernel]
  subst hid
  refine wpAny_bind (wpAny_isInstance (b := true) ty (by rw [isSubtype_type]; kernel_rfl) (wpAny_pure ?_))
  rw [if_neg (by decide)]
  exact wpAny_pure ⟨plainId_quiet PySem.F.plain_extend_loop _, run _ c _ hi hl (fun b o _ e => e) hS⟩
theorem init_rev {R : Result → Shared → Prop} {it l S : Addr} {items : Array Value} (hh : A.handled = none) (hi : s.heap.IsRevIter it l ((items.size : Int) - 1)) (hl : s.heap.IsList l items) (hne : l ≠ it) (hn : items.size ≤ sizeLine)
    (h1 : S ≠ it) (h2 : S ≠ l) (hS : s.heap.get? S = some { cls := .type "list", data := .seq #[] })
    (hR : ∀ h' tk acc c', (∀ b o, b ≠ S → b ≠ it → s.heap.get? b = some o → h'.get? b = some o) → h'.get? S = some { cls := .type "list", dict := none, data := .seq acc c', slots := #[] } → ItemsOf (fun i v => items[items.size - 1 - i]? = some v) acc items.size → R (.ok (.ret .none)) { s with heap := h', toks := tk }) :
    wpAny (model prog w) A.in1 (Builtin.«list.__init__» ⟨[.ref S, .ref it], []⟩) (fun fin s' => match fin with | .done f => R (.ok f) s' | .again c' => c'.quiet = true ∧ codeAny (model prog w) A c' R s') (fun e s' => R (.error e) s') s := by
  show wpAny _ _ (do let old ← Builtin.List.listItems (.ref S); Builtin.List.listUpdate (.ref S) (fun _ => #[]); letGo old.toList.reverse; Builtin.List.listExtendWith (.ref S) (.ref it) .none) _ _ s
  refine wpAny_bind ?_
  unfold Builtin.List.listItems
  refine wpAny_bind (wpAny_seqItems hS rfl (wpAny_pure ?_))
  show wpAny _ _ (updateSeq S (fun _ => #[]) >>= fun _ => letGo ([] : List Value) >>= fun _ => Builtin.List.listExtendWith (.ref S) (.ref it) .none) _ _ s
  have kp : ∀ b o, b ≠ S → s.heap.get? b = some o → (s.heap.update S (Obj.mapSeq (fun _ => (#[] : Array Value)))).get? b = some o := fun b o n e => (Heap.get?_update_other _ _ (Ne.symm n)).trans e
  refine wpAny_bind (wpAny_updateSeq hS rfl (wpAny_bind (wpAny_letGo ?_)))
  obtain ⟨ol, q1, q2⟩ := id hl
  exact grow_rev hh (hi.at fun o e => kp _ o (Ne.symm h1) e) ⟨ol, kp _ _ (Ne.symm h2) q1, q2⟩ hne hn h1 h2 (Heap.get?_update_self (Obj.mapSeq (fun _ => (#[] : Array Value))) hS rfl)
    fun h' tk acc c' k g1 g2 => hR h' tk acc c' (fun b o n1 n2 e => k b o n1 n2 (kp b o n1 e)) g1 g2
theorem list_rev {Q : Value → Shared → Prop} {it l : Addr} {items : Array Value} (hh : A.handled = none) (hi : s.heap.IsRevIter it l ((items.size : Int) - 1)) (hl : s.heap.IsList l items) (hne : l ≠ it) (hn : items.size ≤ sizeLine)
    (hQ : ∀ h' tk acc c', (∀ b o, b ≠ it → s.heap.get? b = some o → h'.get? b = some o) → h'.get? s.heap.objs.size = some { cls := .type "list", dict := none, data := .seq acc c', slots := #[] } → ItemsOf (fun i v => items[items.size - 1 - i]? = some v) acc items.size → Q (.ref s.heap.objs.size) { s with heap := h', toks := tk }) :
    wpAny (model prog w) A (call (.type "list") [.ref it]) Q E s := by
  refine callType_codes (Q₁ := fun obj s₁ => obj = .ref s.heap.objs.size ∧ s₁ = { s with heap := s.heap.push { cls := .type "list", data := .seq #[] } }) PySem.F.called_list (PySem.F.typeCall_list_1 _) PySem.F.entry_list_init (code_list_new _ ⟨rfl, rfl⟩) ?_
  rintro obj s₁ ⟨rfl, rfl⟩
  have hS : (s.heap.push { cls := .type "list", data := .seq #[] }).get? s.heap.objs.size = some { cls := .type "list", data := .seq #[] } := Heap.get?_push_size _ rfl
  have up : ∀ b o, s.heap.get? b = some o → (s.heap.push { cls := .type "list", data := .seq #[] }).get? b = some o := fun b o e => Heap.get?_push_of_some _ e
  obtain ⟨oi, q1, _⟩ := id hi
  obtain ⟨ol, q2, q3⟩ := id hl
  refine ⟨⟨_, hS, rfl⟩, PySem.F.args_list_init_2 _ _, init_rev (A := A.in1) hh (hi.at fun o e => up _ o e) ⟨ol, up _ _ q2, q3⟩ hne hn (Ne.symm (Nat.ne_of_lt (Heap.lt_size q1))) (Ne.symm (Nat.ne_of_lt (Heap.lt_size q2))) hS fun h' tk acc c' k g1 g2 => ?_⟩
  exact ⟨rfl, hQ h' tk acc c' (fun b o n e => k b o (Nat.ne_of_lt (Heap.lt_size e)) n (up b o e)) g1 g2⟩
end
def tLstRev (K : PySem.W.Frag) (te : TE) : TE := fun σ H Q => te σ H fun v H1 => ∃ (a : Addr) (xs : List V), v = .ref a ∧ SqL K H1 a xs ∧ ∀ q, H1 q = none → Q (.ref q) (upd H1 q (.lst xs.reverse))
section
variable {X : Cx}
theorem pe_lstRev {e : Expr} {te : TE} {p p2 pos pos2 : Pos} (hc : X.calm = true) (hg : Gl X "list") (hm : X.mg "list" = none) (hg2 : Gl X "reversed") (hm2 : X.mg "reversed" = none) (he : PE X e te)
    (hs : starEach [e] X.env = (false, eval e X.env) :: starEach [] X.env := by rfl)
    (hs2 : starEach [.Call (.Name "reversed" p2) [e] [] pos2] X.env = (false, eval (.Call (.Name "reversed" p2) [e] [] pos2) X.env) :: starEach [] X.env := by rfl) :
    PE X (.Call (.Name "list" p) [.Call (.Name "reversed" p2) [e] [] pos2] [] pos) (tLstRev X.K te) := by
  refine ⟨fun pins s σ H Q I h => Call_ (ld_blt I hg hm boot_list (callWith_type1 (args_cons (Call_ (ld_blt I hg2 hm2 boot_reversed (callWith_type1 (args_cons (thn (he.run pins s σ H _ I h) fun u s1 ⟨v, H1, I1, r1, q1⟩ => args_nil ?_) hs) hs rfl))) hs2) hs2 rfl))⟩
  obtain ⟨a, xs, rfl, hq, q⟩ := q1
  obtain rfl : u = Value.ref a := r1
  obtain ⟨its, rv, pl, hz⟩ := I1.list hq
  have hl := pl.isList
  obtain ⟨ol, hol, _⟩ := id hl
  have ne : a ≠ s1.heap.objs.size := Nat.ne_of_lt (Heap.lt_size hol)
  have I2 : Inv X pins σ H1 { s1 with heap := s1.heap.push (revObj a ((its.toArray.size : Int) - 1)) } := I1.kept (t' := s1.toks) fun b o e => Heap.get?_push_of_some _ e
  have f := I1.fpOk (H' := H1) (b := s1.heap.objs.size) (Nat.le_refl _) (I1.hok.fresh (Nat.le_refl _))
  have hn : its.toArray.size ≤ sizeLine := by rw [List.size_toArray, ← rv.length]; exact hz
  refine call_reversed_list hl (args_nil (list_rev (s := { s1 with heap := s1.heap.push (revObj a ((its.toArray.size : Int) - 1)) }) (I1.ok.hd hc) ⟨_, Heap.get?_push_size _ rfl, rfl, rfl⟩ (hl.push _) ne hn fun h' tk acc c' hk g1 g2 => ?_))
  have rv' : Vals xs.reverse acc.toList := RT.vals_rev rv g2
  refine ⟨.ref _, upd H1 _ (.lst xs.reverse), I2.turnedNew (t' := tk) (ch := [s1.heap.objs.size]) (fun b o hb e => hk b o (by simpa using hb) e) (fun b hb => ?_) (Nat.le_refl _) (show ObjOk X.prog X.w _ _ _ (.lst xs.reverse) from ⟨by rw [List.length_reverse]; exact hz, acc.toList, c', rv', by rw [Array.toArray_toList]; exact g1⟩), rfl, q _ (I2.hok.fresh (Nat.le_refl _))⟩
  obtain rfl : b = s1.heap.objs.size := by simpa using hb
  exact f
end
end Il
namespace Il
open PySem PySem.Spec PyProof.Rows L2
structure Df (P : Program) (w : World) (K : PySem.W.Frag) (mg : Str → Option Value) (base : Heap) (x : Str) (k : Nat) (ps : List Str) (sp : Sp) : Prop where
  ex : ∃ (f : Addr) (fd : FuncData), mg x = some (.ref f) ∧ PySem.W.keepIn K (.ref f) = true ∧ Binds K fd ps [] ∧ FnOk P w K mg base CX0 k f fd ps sp
section
variable {X : Cx}
theorem pd {x : Str} {k : Nat} {ps : List Str} {sp : Sp} {e : Expr} {es : List Expr} {t : TA} {p pos : Pos} (D : Df X.prog X.w X.K X.mg X.base x k ps sp) (hr : Room k X.A) (ha : PA X (e :: es) t) (hg : Gl X x := by rfl)
    (hdb : (x == ("__debug__" : Str)) = false := by decide) (he : starEach (e :: es) X.env = (false, eval e X.env) :: starEach es X.env := by rfl) (hpl : (backTo pos (starEach es X.env)).any (·.1) = false := by rfl) :
    PE X (.Call (.Name x p) (e :: es) [] pos) (tCall sp [] E0 t) := by
  obtain ⟨f, fd, h1, h2, h3, h4⟩ := D.ex
  exact pe_call h4 hr hg h1 h2 h3 .nil pass0 ha hdb he hpl
end
theorem while_w {c : TT} {tb : TS} {D : Ends} {σ : L2.St} {H : Hp} (Pv : L2.St → Hp → Prop) (mu : L2.St → Hp → Nat) (h0 : Pv σ H)
    (hs : ∀ σ H, Pv σ H → c σ H fun b H1 => if b = true then ∃ N : L2.St → Hp → Prop, (∀ σ' H', N σ' H' → ∃ m', m' < mu σ H ∧ m' = mu σ' H' ∧ Pv σ' H') ∧ tb { D with nx := N, ct := N, bk := D.nx } σ H1 else D.nx σ H1) : tWhile c tb D σ H := by
  refine ⟨fun m σ H => m = mu σ H ∧ Pv σ H, ⟨_, rfl, h0⟩, ?_⟩
  rintro m σ H ⟨rfl, p⟩
  exact hs σ H p
def LI (H : Hp) (a : Addr) (p : List Int) : Prop := H a = some (.lst (p.map V.int))
def GiveL (H : Hp) (Q : VK) (p : List Int) : Prop := ∀ (H' : Hp) (a : Addr), Same H H' → LI H' a p → Q (.ref a) H'
theorem LI.sq {K : PySem.W.Frag} {H : Hp} {a : Addr} {p : List Int} (h : LI H a p) : SqL K H a (p.map V.int) := SqL.of h
theorem LI.same {H H' : Hp} {a : Addr} {p : List Int} (h : LI H a p) (s : Same H H') : LI H' a p := s _ _ h
theorem same_new {H H' : Hp} {p : Addr} {o : HO} (s : Same H H') (n : H' p = Option.none) : Same H (upd H' p o) := fun b u e => by
  rw [upd_ne (ne_of_none (s _ _ e) n)]
  exact s _ _ e
theorem same_own {H H' : Hp} {p : Addr} {o : HO} (s : Same H H') (n : H p = Option.none) : Same H (upd H' p o) := fun b u e => by
  rw [upd_ne (ne_of_none e n)]
  exact s _ _ e
theorem upd_upd {H : Hp} {p : Addr} {o u : HO} : upd (upd H p o) p u = upd H p u := by
  funext b
  by_cases e : b = p
  · subst e; rw [upd_same, upd_same]
  · rw [upd_ne e, upd_ne e, upd_ne e]
theorem upd_new {H : Hp} {D : Addr} {o : HO} (h : H D = Option.none) : Same H (upd H D o) := same_new (Same.refl H) h
theorem take_more {α : Type} {l : List α} {i : Nat} {x : α} (h : l[i]? = some x) : l.take (i + 1) = l.take i ++ [x] := by
  rw [List.take_add_one, h]; rfl
theorem lc_pure {K : PySem.W.Frag} {a : Addr} {xs : List V} {g : TG} {te : TE} {vs : List Nat} {σ : L2.St} {H1 : Hp} {D : Addr} {Qd : Hp → Prop} (ys : List V) (hl : xs.length = ys.length) (hS : SqL K H1 a xs) (hD : H1 D = Option.none) (sz : ys.length ≤ 10000)
    (hs : ∀ (i : Nat) (x y : V), xs[i]? = some x → ys[i]? = some y → ∀ (H : Hp) (R : VK), Same H1 H → R y H → g x (wipe σ vs) H fun σ2 H2 => wipe σ2 vs = wipe σ vs ∧ te σ2 H2 R)
    (hd : Qd (upd H1 D (.lst ys))) :
    ∃ W : Nat → Nat → Hp → Prop, (∃ m, W 0 m (upd H1 D (.lst []))) ∧ ∀ i m H, W i m H →
      ((Itl K a).stop i H ∧ Qd H) ∨ ((Itl K a).go i H ∧ ∃ Nx : Hp → Prop, (∀ H', Nx H' → ∃ m', m' < m ∧ W (i + 1) m' H') ∧ ∀ x H', (Itl K a).yld i H x H' → g x (wipe σ vs) H' fun σ2 H2 => wipe σ2 vs = wipe σ vs ∧ tYes σ2 H2 fun b H3 =>
        if b = true then te σ2 H3 fun y H4 => ∃ acc, H4 D = some (.lst acc) ∧ acc.length < sizeLine ∧ Nx (upd H4 D (.lst (acc ++ [y]))) else Nx H3) := by
  refine lc_list (K := K) (a := a) (xs := xs) (fun i H => H = upd H1 D (.lst (ys.take i))) (by rw [List.take_zero]) (fun i H _ e => by rw [e]; exact (upd_new hD).seq hS) (fun i x H hx e => ?_) (fun H e => by rw [e, hl, List.take_length]; exact hd)
  subst e
  have hi : i < ys.length := by rw [← hl]; exact (List.getElem?_eq_some_iff.mp hx).1
  have hy : ys[i]? = some ys[i] := List.getElem?_eq_getElem hi
  refine hs i x ys[i] hx hy _ _ (upd_new hD) ⟨_, upd_same, ?_, ?_⟩
  · rw [List.length_take]
    exact Nat.lt_of_le_of_lt (Nat.min_le_right _ _) (Nat.lt_of_le_of_lt sz (by decide))
  · rw [upd_upd, take_more hy]
theorem lc_pureR {lo : Int} {n : Nat} {g : TG} {te : TE} {vs : List Nat} {σ : L2.St} {H1 : Hp} {D : Addr} {Qd : Hp → Prop} (ys : List V) (hl : n = ys.length) (hD : H1 D = Option.none) (sz : ys.length ≤ 10000)
    (hs : ∀ (i : Nat) (y : V), ys[i]? = some y → ∀ (H : Hp) (R : VK), Same H1 H → R y H → g (.int (lo + i)) (wipe σ vs) H fun σ2 H2 => wipe σ2 vs = wipe σ vs ∧ te σ2 H2 R)
    (hd : Qd (upd H1 D (.lst ys))) :
    ∃ W : Nat → Nat → Hp → Prop, (∃ m, W 0 m (upd H1 D (.lst []))) ∧ ∀ i m H, W i m H →
      ((Itr lo n).stop i H ∧ Qd H) ∨ ((Itr lo n).go i H ∧ ∃ Nx : Hp → Prop, (∀ H', Nx H' → ∃ m', m' < m ∧ W (i + 1) m' H') ∧ ∀ x H', (Itr lo n).yld i H x H' → g x (wipe σ vs) H' fun σ2 H2 => wipe σ2 vs = wipe σ vs ∧ tYes σ2 H2 fun b H3 =>
        if b = true then te σ2 H3 fun y H4 => ∃ acc, H4 D = some (.lst acc) ∧ acc.length < sizeLine ∧ Nx (upd H4 D (.lst (acc ++ [y]))) else Nx H3) := by
  refine lc_range (lo := lo) (n := n) (fun i H => H = upd H1 D (.lst (ys.take i))) (by rw [List.take_zero]) (fun i H hi e => ?_) (fun H e => by rw [e, hl, List.take_length]; exact hd)
  subst e
  rw [hl] at hi
  have hy : ys[i]? = some ys[i] := List.getElem?_eq_getElem hi
  refine hs i ys[i] hy _ _ (upd_new hD) ⟨_, upd_same, ?_, ?_⟩
  · rw [List.length_take]
    exact Nat.lt_of_le_of_lt (Nat.min_le_right _ _) (Nat.lt_of_le_of_lt sz (by decide))
  · rw [upd_upd, take_more hy]
section
variable {X : Cx}
theorem ix_listK (K : PySem.W.Frag) (h : X.K = K := by rfl) : IxR X (rIxL K) := by subst h; exact ix_list
theorem ix_tupK (K : PySem.W.Frag) (h : X.K = K := by rfl) : IxR X (rIxT K) := by subst h; exact ix_tup
def LenAt (K : PySem.W.Frag) (H : Hp) (p : Addr) (n : Nat) : Prop := ∃ ys : List V, (SqL K H p ys ∨ SqT K H p ys) ∧ ys.length = n
theorem call_lenK (K : PySem.W.Frag) (h : X.K = K := by rfl) : CallR X (.builtin "len") (fun xs H Q => ∃ (p : Addr) (n : Nat), xs = [.ref p] ∧ LenAt K H p n ∧ Q (.int n) H) := by
  subst h
  rintro pins s σ H xs us Q I r ⟨p, n, e, ⟨ys, q1, rfl⟩, q2⟩
  exact call_len_seq pins s σ H xs us Q I r ⟨p, ys, e, q1, q2⟩
theorem LI.len {K : PySem.W.Frag} {H : Hp} {a : Addr} {p : List Int} (h : LI H a p) : LenAt K H a p.length := ⟨_, .inl h.sq, List.length_map _⟩
theorem pe_fldK {o : Expr} {ta : TE} {f : Str} {pos : Pos} (K : PySem.W.Frag) (ho : PE X o ta) (h : X.K = K := by rfl) (hb : attributeBase o f X.env (eval o X.env) = eval o X.env := by rfl) : PE X (.Attribute o f pos) (tFld K ta f) := by
  subst h
  exact pe_fld ho hb
end
structure Nm (mg : Str → Option Value) : Prop where
  abs : mg "abs" = none
  len : mg "len" = none
  range : mg "range" = none
  list : mg "list" = none
  enumerate : mg "enumerate" = none
  reversed : mg "reversed" = none
  max : mg "max" = none
  min : mg "min" = none
  sum : mg "sum" = none
  all : mg "all" = none
  any : mg "any" = none
  zip : mg "zip" = none
theorem pe_gl {X : Cx} {x : Str} {i : Int} {pos : Pos} (h : ∃ t, X.mg x = some (.int i t)) (hg : Gl X x := by rfl) (hd : (x == ("__debug__" : Str)) = false := by decide) : PE X (.Name x pos) (tC (.int i)) := by
  obtain ⟨t, e⟩ := h
  exact pe_glob hg e ⟨t, rfl⟩ hd
structure Fx (K : PySem.W.Frag) (mg : Str → Option Value) (x : Str) (st : Stmt) : Prop where
  ex : ∃ (f : Addr) (fd : FuncData), Fun K x x st f fd ∧ mg x = some (.ref f)
theorem df_of {P : Program} {w : World} {K : PySem.W.Frag} {mg : Str → Option Value} {base : Heap} {x : Str} {st : Stmt} {N ps : List Str} {k : Nat} {sp : Sp} (F : Fx K mg x st) (S : FnScope N ps (defScope st))
    (b : ∀ (kV doc pm : Value) (an : Option Addr) (cdv ct : Value) (us : List Value), us.length = ps.length → bindArgs (PySem.W.fnOf x x (defArgs st) (defBody st) (defScope st) .none kV doc pm an cdv ct) ⟨us, []⟩ = pure (ps.zip us))
    (len : ∀ vs H Q E, sp vs H Q E → vs.length = ps.length)
    (body : ∀ (f : Addr) (cdv : Value) (A : Around) (outer : List Env) (s : Shared) (H : Hp) (vs : List V) (Q : VK) (E : XK), Room k (A.deeper (envOfC x (defScope st) s.heap.objs.size f cdv)) → sp vs H Q E →
      ∃ t, PSs (cxOf CX0 P w K mg base N x (defScope st) f cdv A outer s H E).nox (defBody st) t ∧ t { nx := fun _ H' => Q .non H', rt := Q } (start N vs) H) : Df P w K mg base x (k + 1) ps sp := by
  obtain ⟨f, fd, h1, h2⟩ := F.ex
  exact ⟨f, fd, h2, h1.kp, h1.binds b, h1.ok S len fun cdv A outer s H vs Q E hr h => body f cdv A outer s H vs Q E hr h⟩
abbrev sGd : Stmt := topS 1
abbrev NGd : List Str := ["first", "second", "larger", "smaller", "rest"]
theorem scGd : FnScope NGd ["first", "second"] (defScope sGd) := ⟨rfl, rfl, rfl, by decide +kernel, rfl, by decide +kernel, by decide +kernel⟩
def spGd : Sp := fun vs H Q _ => ∃ a b : Int, vs = [.int a, .int b] ∧ Q (.int (Int.gcd a b : Nat)) H
section
variable {P : Program} {w : World} {K : PySem.W.Frag} {mg : Str → Option Value} {base : Heap}
theorem abs_of (a : Int) : (if a < 0 then -a else a) = (a.natAbs : Int) := by split <;> omega
theorem gcd_turn {x y : Int} (h0 : 0 ≤ x) (h : 0 < y) : Int.gcd y (x % y) = Int.gcd x y := by
  have e : (x % y).natAbs = x.natAbs % y.natAbs := by
    obtain ⟨n, rfl⟩ := Int.eq_ofNat_of_zero_le h0
    obtain ⟨m, rfl⟩ := Int.eq_ofNat_of_zero_le (show 0 ≤ y by omega)
    rfl
  show Nat.gcd y.natAbs (x % y).natAbs = Nat.gcd x.natAbs y.natAbs
  rw [e, Nat.gcd_comm x.natAbs, Nat.gcd_rec y.natAbs x.natAbs, Nat.gcd_comm]
theorem df_gd (F : Fx K mg "greatest_divisor" sGd) (T : Nm mg) : Df P w K mg base "greatest_divisor" 1 ["first", "second"] spGd := by
  refine df_of F scGd (fun _ _ _ _ _ _ us hl => match us, hl with | [_, _], _ => rfl) (fun vs H Q E h => ?_) (fun f cdv A outer s H vs Q E hr h => ?_)
  · obtain ⟨a, b, rfl, _⟩ := h
    rfl
  · obtain ⟨a, b, rfl, k⟩ := h
    refine ⟨_, (pss_cons (ps_set (i := 2) scGd.nd rfl (.inl rfl) (pe_callB call_abs (by rfl) T.abs (by decide +kernel) (pa_cons (pv 0) pa_nil)))
      (pss_cons (ps_set (i := 3) scGd.nd rfl (.inl rfl) (pe_callB call_abs (by rfl) T.abs (by decide +kernel) (pa_cons (pv 1) pa_nil)))
      (pss_cons (ps_while PassesOwn.never (pt_cmpR op_gt (pv 3) pe_int (nomark _)) (pss_cons (ps_set (i := 4) scGd.nd rfl (.inl rfl) (pe_op op_mod (pv 2) (pv 3)))
      (pss_cons (ps_set (i := 2) scGd.nd rfl (.inl rfl) (pv 3))
      (pss_one (ps_set (i := 3) scGd.nd rfl (.inl rfl) (pv 4))))))
      (pss_one (ps_ret (pv 2)))))), ?_⟩
    refine ⟨_, rfl, a, rfl, ?_⟩
    refine ⟨_, rfl, b, rfl, ?_⟩
    refine while_w (fun σ H' => H' = H ∧ ∃ (x y : Int) (v : Option V), σ = [some (.int a), some (.int b), some (.int x), some (.int y), v] ∧ 0 ≤ x ∧ 0 ≤ y ∧ Int.gcd x y = Int.gcd a b)
      (fun σ _ => match σ with | [_, _, _, some (.int y), _] => y.toNat | _ => 0) ⟨rfl, _, _, _, rfl, by split <;> omega, by split <;> omega, ?_⟩ ?_
    · rw [abs_of, abs_of]; simp [Int.gcd]
    · rintro σ H1 ⟨rfl, x, y, v, rfl, hx, hy, g⟩
      refine ⟨_, rfl, _, _, rfl, rfl, _, rfl, ?_⟩
      by_cases c : 0 < y
      · rw [decide_eq_true c]
        refine iteT ⟨fun σ' H' => H' = H1 ∧ σ' = [some (.int a), some (.int b), some (.int y), some (.int (x % y)), some (.int (x % y))], ?_, ?_⟩
        · rintro σ' H' ⟨rfl, rfl⟩
          have := Int.emod_lt_of_pos x c
          have h0 := Int.emod_nonneg x (show y ≠ 0 by omega)
          exact ⟨_, (by show (x % y).toNat < y.toNat; omega), rfl, rfl, y, x % y, _, rfl, hy, h0, (gcd_turn hx c).trans g⟩
        · exact ⟨_, rfl, _, rfl, _, _, rfl, rfl, c, _, rfl, _, rfl, rfl, rfl⟩
      · rw [decide_eq_false c]
        refine iteF ?_
        have : y = 0 := by omega
        subst this
        refine ⟨_, rfl, ?_⟩
        rw [Int.gcd_zero_right] at g
        rw [← g] at k
        rwa [show ((x.natAbs : Nat) : Int) = x by omega] at k
end
end Il
namespace Il
open PySem PySem.Spec PyProof.Rows L2
theorem log2_le_of {n a : Nat} (h : n ≤ 2 ^ a) : n.log2 ≤ a := by
  have h2 : n < 2 ^ (a + 1) := Nat.lt_of_le_of_lt h (Nat.pow_lt_pow_right (by omega) (by omega))
  have := PySem.Flt.log2_lt_of (by omega) h2
  omega
theorem mulX_of {i j : Int} {a b : Nat} (ha : i.natAbs ≤ 2 ^ a) (hb : j.natAbs ≤ 2 ^ b) (h : a + b ≤ 133000000) : CMulX i j := by
  have := log2_le_of ha
  have := log2_le_of hb
  show i.natAbs.log2 + j.natAbs.log2 < 134000000
  omega
theorem divS_of {i j : Int} {a : Nat} (h0 : j ≠ 0) (h : j.natAbs ≤ 2 ^ a) (ha : a < 9000) : CDivS i j := by
  have := log2_le_of h
  exact ⟨h0, by omega⟩
theorem small_of {n a : Nat} (h : n ≤ a) (ha : a ≤ 10000 := by decide) : n < sizeLine := Nat.lt_of_le_of_lt h (Nat.lt_of_le_of_lt ha (by decide))
theorem atI_last {α : Type} {xs : List α} {x : α} (h : xs[xs.length - 1]? = some x) : atI xs (-1) = some x := by
  have l := (List.getElem?_eq_some_iff.mp h).1
  unfold atI ixN
  rw [if_neg (by decide), if_pos (by omega)]
  show xs[((-1 : Int) + (xs.length : Int)).toNat]? = some x
  rw [show ((-1 : Int) + (xs.length : Int)).toNat = xs.length - 1 by omega]
  exact h
theorem li_at {p : List Int} {i : Nat} {x : Int} (h : p[i]? = some x) : (p.map V.int)[i]? = some (V.int x) := by
  rw [List.getElem?_map, h]; rfl
theorem li_get {p : List Int} {i : Nat} {v : V} (h : (p.map V.int)[i]? = some v) : ∃ x, p[i]? = some x ∧ v = V.int x := by
  rw [List.getElem?_map] at h
  cases e : p[i]? with
  | none => rw [e] at h; cases h
  | some x => rw [e] at h; exact ⟨x, rfl, (Option.some.inj h).symm⟩
theorem deep_of {X : Cx} {k : Nat} (ns : X.base.NoSeer) (tr : X.prog.given.tree = none) (hr : Room k X.A) (hk : 33 ≤ k := by decide) (st : ∃ env l, X.stack = env :: l ∧ env.scope.isGenerator = false ∧ env.scope.isCoroutine = false ∧ env.builtins = builtinsNs ∧ env.globals = mainGlobals := by exact ⟨_, _, rfl, rfl, rfl, rfl, rfl⟩) : Deep X :=
  ⟨ns, tr, by have := hr.dp; have e : Builtin.pylongFrames = 100 := rfl; omega, st⟩
section
variable {P : Program} {w : World} {K : PySem.W.Frag} {mg : Str → Option Value} {base : Heap}
abbrev sLm : Stmt := topS 2
abbrev NLm : List Str := ["first", "second"]
theorem scLm : FnScope NLm ["first", "second"] (defScope sLm) := ⟨rfl, rfl, rfl, by decide +kernel, rfl, by decide +kernel, by decide +kernel⟩
def spLm : Sp := fun vs H Q _ => ∃ a b : Nat, vs = [.int a, .int b] ∧ 0 < a ∧ 0 < b ∧ a ≤ 2 ^ 8000 ∧ b ≤ 2 ^ 8000 ∧ Q (.int (Nat.lcm a b : Nat)) H
theorem df_lm (F : Fx K mg "least_multiple" sLm) (D_greatest_divisor : Df P w K mg base "greatest_divisor" 1 ["first", "second"] spGd) : Df P w K mg base "least_multiple" 2 ["first", "second"] spLm := by
  refine df_of F scLm (fun _ _ _ _ _ _ us hl => match us, hl with | [_, _], _ => rfl) (fun vs H Q E h => ?_) (fun f cdv A outer s H vs Q E hr h => ?_)
  · obtain ⟨a, b, rfl, _⟩ := h
    rfl
  · obtain ⟨a, b, rfl, ha, hb, la, lb, k⟩ := h
    refine ⟨_, (pss_one (ps_ret (pe_op op_mulX (pe_op op_fdivS (pv 0) (pd D_greatest_divisor (hr.mono (by decide)) (pa_cons (pv 0) (pa_cons (pv 1) pa_nil)))) (pv 1)))), ?_⟩
    have g : 0 < Nat.gcd a b := Nat.gcd_pos_of_pos_left _ ha
    have gl : Nat.gcd a b ≤ a := Nat.gcd_le_left _ ha
    refine ⟨_, rfl, _, rfl, _, rfl, a, b, rfl, ?_⟩
    have e : Int.gcd (a : Int) (b : Int) = Nat.gcd a b := rfl
    rw [e]
    have dl := Nat.div_le_self a (Nat.gcd a b)
    have ef : Int.fdiv (a : Int) (Nat.gcd a b : Int) = ((a / Nat.gcd a b : Nat) : Int) := by
      rw [Int.fdiv_eq_ediv_of_nonneg _ (by omega)]; rfl
    refine ⟨_, _, rfl, rfl, divS_of (a := 8000) (by omega) (Nat.le_trans gl la) (by decide), _, rfl, _, _, rfl, rfl, ?_, ?_⟩
    · rw [ef]
      exact mulX_of (a := 8000) (b := 8000) (Nat.le_trans dl la) lb (by decide)
    · rw [ef]
      have e2 : (a / Nat.gcd a b) * b = Nat.lcm a b := by
        rw [Nat.lcm, Nat.div_mul_right_comm (Nat.gcd_dvd_left a b)]
      have e3 : ((a / Nat.gcd a b : Nat) : Int) * (b : Int) = (Nat.lcm a b : Nat) := by rw [← e2]; simp
      show Q (.int (((a / Nat.gcd a b : Nat) : Int) * (b : Int))) H
      rw [e3]
      exact k
abbrev sDg : Stmt := topS 4
abbrev NDg : List Str := ["polynomial"]
theorem scDg : FnScope NDg ["polynomial"] (defScope sDg) := ⟨rfl, rfl, rfl, by decide +kernel, rfl, by decide +kernel, by decide +kernel⟩
def spDg : Sp := fun vs H Q _ => ∃ (a : Addr) (p : List Int), vs = [.ref a] ∧ LI H a p ∧ Q (.int ((p.length : Int) - 1)) H
theorem df_dg (F : Fx K mg "degree_of" sDg) (T : Nm mg) : Df P w K mg base "degree_of" 1 ["polynomial"] spDg := by
  refine df_of F scDg (fun _ _ _ _ _ _ us hl => match us, hl with | [_], _ => rfl) (fun vs H Q E h => ?_) (fun f cdv A outer s H vs Q E hr h => ?_)
  · obtain ⟨a, p, rfl, _⟩ := h
    rfl
  · obtain ⟨a, p, rfl, hp, k⟩ := h
    refine ⟨_, (pss_one (ps_ret (pe_op op_sub (pe_callB (call_lenK K) (by rfl) T.len (by decide +kernel) (pa_cons (pv 0) pa_nil)) pe_int))), ?_⟩
    exact ⟨_, rfl, a, _, rfl, hp.len, _, _, rfl, rfl, k⟩
abbrev sTr : Stmt := topS 5
abbrev NTr : List Str := ["coefficients", "count"]
theorem scTr : FnScope NTr ["coefficients"] (defScope sTr) := ⟨rfl, rfl, rfl, by decide +kernel, rfl, by decide +kernel, by decide +kernel⟩
def spTr : Sp := fun vs H Q _ => ∃ (a : Addr) (p : List Int), vs = [.ref a] ∧ LI H a p ∧ ∀ c : Nat, c ≤ p.length → Kv.zr (p.take c) = Kqg1.trim (Kv.zr p) → GiveL H Q (p.take c)
theorem cut_up (xs : List V) {c : Nat} (h : c ≤ xs.length) : cutV xs none (some (c : Int)) = xs.take c := by
  unfold cutV
  rw [HT.sIx_none, HT.sIx_nat, List.drop_zero, Nat.min_eq_left h, Nat.sub_zero]
theorem df_tr (F : Fx K mg "trimmed" sTr) (T : Nm mg) : Df P w K mg base "trimmed" 1 ["coefficients"] spTr := by
  refine df_of F scTr (fun _ _ _ _ _ _ us hl => match us, hl with | [_], _ => rfl) (fun vs H Q E h => ?_) (fun f cdv A outer s H vs Q E hr h => ?_)
  · obtain ⟨a, p, rfl, _⟩ := h
    rfl
  · obtain ⟨a, p, rfl, hp, k⟩ := h
    refine ⟨_, (pss_cons (ps_set (i := 1) scTr.nd rfl (.inl rfl) (pe_callB (call_lenK K) (by rfl) T.len (by decide +kernel) (pa_cons (pv 0) pa_nil)))
      (pss_cons (ps_while PassesOwn.never (PW.pt (pw_and (pt_cmpR op_gt (pv 1) pe_int (nomark _)) (pw_and1 (pt_cmpR op_eq (pe_ix (ix_listK K) (pv 0) (pe_op op_sub (pv 1) pe_int) (fun _ _ => rfl)) pe_int (nomark _))))) (pss_one (ps_aug (i := 1) scTr.nd rfl (.inl rfl) pe_int ip_sub)))
      (pss_one (ps_ret (pe_slice sl_list (pv 0) po_none (po_some (pv 1))))))), ?_⟩
    refine ⟨_, rfl, a, _, rfl, hp.len, ?_⟩
    refine while_w (fun σ H' => H' = H ∧ ∃ c : Nat, σ = [some (.ref a), some (.int c)] ∧ c ≤ p.length ∧ Kqg1.trim (Kv.zr (p.take c)) = Kqg1.trim (Kv.zr p))
      (fun σ _ => match σ with | [_, some (.int y)] => y.toNat | _ => 0) ⟨rfl, _, rfl, Nat.le_refl _, by rw [List.take_length]⟩ ?_
    rintro σ H1 ⟨rfl, c, rfl, hc, e⟩
    have out : Kv.Tr (Kv.zr (p.take c)) → tRet (tSl (rSlL K) (tVar 0) tNoPart (tPart (tVar 1))) { nx := fun _ H' => Q .non H', rt := Q } [some (.ref a), some (.int c)] H1 := fun t => by
      refine ⟨_, rfl, _, rfl, _, rfl, a, _, rfl, hp.sq, fun q hq => ?_⟩
      rw [cut_up _ (by rw [List.length_map]; exact hc), ← List.map_take]
      exact k c hc ((Kv.trim_id t).symm.trans e) _ q (upd_new hq) upd_same
    refine ⟨_, rfl, _, _, rfl, rfl, _, rfl, ?_⟩
    cases c with
    | zero => exact iteF (iteF (out .nil))
    | succ c =>
      have hx := Kv.cf_get (p := p) (i := c) (by omega)
      rw [decide_eq_true (show (0 : Int) < ((c + 1 : Nat) : Int) by omega)]
      refine iteT ⟨_, rfl, _, rfl, _, _, rfl, rfl, a, _, _, _, rfl, rfl, hp.sq, at_of (j := c) (by omega) (li_at hx), rfl, _, rfl, ?_⟩
      by_cases z : Kv.cf p c = 0
      · rw [z] at hx ⊢
        refine iteT ⟨fun σ' H' => H' = H1 ∧ σ' = [some (.ref a), some (.int c)], ?_, ?_⟩
        · rintro σ' H' ⟨rfl, rfl⟩
          exact ⟨_, (by show c < ((c + 1 : Nat) : Int).toNat; omega), rfl, rfl, c, rfl, by omega, (Kv.trim_take hx).symm.trans e⟩
        · refine ⟨_, rfl, _, _, rfl, rfl, rfl, ?_⟩
          show [some (V.ref a), some (V.int (((c + 1 : Nat) : Int) - 1))] = _
          rw [show ((c + 1 : Nat) : Int) - 1 = (c : Int) by omega]
      · rw [decide_eq_false (fun q => z (V.int.inj q))]
        exact iteF (out (Kv.tr_take hx z))
theorem zd_len (p : List Int) : (Kv.zd p).length = p.length - 1 := by simp [Kv.zd]
theorem zd_at {p : List Int} {i : Nat} (h : i < p.length - 1) : (Kv.zd p)[i]? = some (((i + 1 : Nat) : Int) * Kv.cf p (i + 1)) := by
  unfold Kv.zd
  rw [List.getElem?_map, List.getElem?_range h]
  rfl
abbrev sDv : Stmt := topS 6
abbrev NDv : List Str := ["polynomial", "power"]
theorem scDv : FnScope NDv ["polynomial"] (defScope sDv) := ⟨rfl, rfl, rfl, by decide +kernel, rfl, by decide +kernel, by decide +kernel⟩
def spDv : Sp := fun vs H Q _ => ∃ (a : Addr) (p : List Int), vs = [.ref a] ∧ LI H a p ∧ p.length ≤ 100 ∧ Kv.Ht p 100000000 ∧ GiveL H Q (Kv.zd p)
theorem df_dv (F : Fx K mg "derivative_of" sDv) (T : Nm mg) : Df P w K mg base "derivative_of" 1 ["polynomial"] spDv := by
  refine df_of F scDv (fun _ _ _ _ _ _ us hl => match us, hl with | [_], _ => rfl) (fun vs H Q E h => ?_) (fun f cdv A outer s H vs Q E hr h => ?_)
  · obtain ⟨a, p, rfl, _⟩ := h
    rfl
  · obtain ⟨a, p, rfl, hp, hl, hb, k⟩ := h
    refine ⟨_, (pss_one (ps_ret (pe_lc (own := [("power", 1)]) (g := gName 1) (by rfl) scDv.nd (pi_range2 (by rfl) T.range (pa_cons pe_int (pa_cons (pe_callB (call_lenK K) (by rfl) T.len (by decide +kernel) (pa_cons (pv 0) pa_nil)) pa_nil))) (blkOk_by (N := NDv) (sc := defScope sDv) (by decide +kernel)) (fun _ _ _ _ _ => pg_name (i := 1) scDv.nd rfl (Or.inl rfl)) (fun _ _ _ _ _ => pts_nil) (fun _ _ _ _ _ => (pe_op op_mulX (pv 1) (pe_ix (ix_listK K) (pv 0) (pv 1) (fun _ _ => rfl))))))), ?_⟩
    refine ⟨_, rfl, a, _, rfl, hp.len, ?_⟩
    refine ⟨_, _, rfl, ⟨by decide, by decide, by omega, by omega⟩, fun D hD => ?_⟩
    refine lc_pureR (lo := 1) ((Kv.zd p).map V.int) (by rw [List.length_map, zd_len]; omega) hD (by rw [List.length_map, zd_len]; omega) (fun i y hy H' R s' r => ?_) ?_
    · obtain ⟨x, hx, rfl⟩ := li_get hy
      have hi : i < p.length - 1 := by
        have := (List.getElem?_eq_some_iff.mp hx).1
        rwa [zd_len] at this
      have e : x = ((i + 1 : Nat) : Int) * Kv.cf p (i + 1) := by
        rw [zd_at hi] at hx
        exact (Option.some.inj hx).symm
      refine ⟨rfl, _, rfl, _, rfl, _, rfl, a, _, _, _, rfl, rfl, (hp.same s').sq, at_of (j := i + 1) (by omega) (li_at (Kv.cf_get (p := p) (i := i + 1) (by omega))), _, _, rfl, rfl, ?_, ?_⟩
      · exact mulX_of (a := 10) (b := 100000000) (by omega) (hb _ (Kv.cf_mem (by omega))) (by decide)
      · rw [e] at r
        rw [show (1 : Int) + (i : Int) = ((i + 1 : Nat) : Int) by omega]
        exact r
    · exact k _ D (upd_new hD) upd_same
abbrev sPp : Stmt := topS 7
abbrev NPp : List Str := ["polynomial", "content", "coefficient"]
theorem scPp : FnScope NPp ["polynomial"] (defScope sPp) := ⟨rfl, rfl, rfl, by decide +kernel, rfl, by decide +kernel, by decide +kernel⟩
def spPp : Sp := fun vs H Q _ => ∃ (a : Addr) (p : List Int), vs = [.ref a] ∧ LI H a p ∧ p.length ≤ 100 ∧ (p = [] ∨ 0 < Kv.content p) ∧ GiveL H Q (Kv.prI p)
theorem df_pp (F : Fx K mg "primitive_part" sPp) (ns : base.NoSeer) (tr : P.given.tree = none) (D_greatest_divisor : Df P w K mg base "greatest_divisor" 1 ["first", "second"] spGd) : Df P w K mg base "primitive_part" 34 ["polynomial"] spPp := by
  refine df_of F scPp (fun _ _ _ _ _ _ us hl => match us, hl with | [_], _ => rfl) (fun vs H Q E h => ?_) (fun f cdv A outer s H vs Q E hr h => ?_)
  · obtain ⟨a, p, rfl, _⟩ := h
    rfl
  · obtain ⟨a, p, rfl, hp, hl, hc, k⟩ := h
    refine ⟨_, (pss_cons (ps_set (i := 1) scPp.nd rfl (.inr rfl) pe_int)
      (pss_cons (ps_for PassesOwn.never rfl (pi_list (pv 0)) (pg_name (i := 2) scPp.nd rfl (.inl rfl)) (pss_one (ps_set (i := 1) scPp.nd rfl (.inr rfl) (pd D_greatest_divisor (hr.mono (by decide)) (pa_cons (pv 1) (pa_cons (pv 2) pa_nil))))))
      (pss_one (ps_ret (pe_lc (own := [("coefficient", 2)]) (g := gName 2) (by rfl) scPp.nd (pi_list (pv 0)) (blkOk_by (N := NPp) (sc := defScope sPp) (by decide +kernel)) (fun _ _ _ _ _ => pg_name (i := 2) scPp.nd rfl (Or.inl rfl)) (fun _ _ _ _ _ => pts_nil) (fun _ _ _ _ _ => (pe_op (op_fdivX (deep_of ns tr hr)) (pv 2) (pv 1)))))))), ?_⟩
    refine ⟨_, rfl, a, rfl, ⟨_, hp.sq⟩, for_list (K := K) (a := a) (xs := p.map V.int) (fun i σ H' => H' = H ∧ ∃ v : Option V, σ = [some (.ref a), some (.int (Kv.content (p.take i) : Nat)), v]) ⟨rfl, none, rfl⟩ (fun i σ H' _ e => by rw [e.1]; exact hp.sq) ?_ ?_⟩
    · rintro i y σ H' hi ⟨rfl, v, rfl⟩
      obtain ⟨z, hz, rfl⟩ := li_get hi
      refine ⟨_, rfl, _, rfl, _, _, rfl, rfl, some (.int z), ?_⟩
      rw [take_more hz, Kv.content_snoc]
      rfl
    · rintro σ H' ⟨rfl, v, rfl⟩
      rw [List.length_map, List.take_length]
      refine ⟨_, rfl, a, rfl, ⟨_, hp.sq⟩, fun D hD => lc_pure ((Kv.prI p).map V.int) (by simp [Kv.prI]) hp.sq hD (by simp [Kv.prI]; omega) (fun i x y hx hy H' R s' r => ?_) ?_⟩
      · obtain ⟨z, hz, rfl⟩ := li_get hx
        obtain ⟨u, hu, rfl⟩ := li_get hy
        have e : u = z / (Kv.content p : Int) := by simp [Kv.prI, hz] at hu; exact hu.symm
        have cp : 0 < Kv.content p := by
          rcases hc with q | q
          · rw [q] at hz; simp at hz
          · exact q
        refine ⟨rfl, _, rfl, _, rfl, _, _, rfl, rfl, (by omega), ?_⟩
        show R (.int (z.fdiv (Kv.content p : Int))) H'
        rw [Int.fdiv_eq_ediv_of_nonneg _ (by omega), ← e]
        exact r
      · exact k _ D (upd_new hD) upd_same
end
end Il
namespace Il
open PySem PySem.Spec PyProof.Rows L2
theorem ixN_nat {n j : Nat} (h : j < n) : ixN n (j : Int) = some j := by
  unfold ixN
  rw [if_pos (by omega), if_pos (by omega), Int.toNat_natCast]
theorem cut_last (xs : List V) : cutV xs none (some (-1)) = xs.take (xs.length - 1) := by
  unfold cutV
  have e : HT.sIx xs.length xs.length (some (-1)) = xs.length - 1 := by
    show (if (-1 : Int) < 0 then ((-1 : Int) + (xs.length : Int)).toNat else min (-1 : Int).toNat xs.length) = _
    rw [if_pos (by decide)]
    omega
  rw [HT.sIx_none, e, List.drop_zero, Nat.sub_zero]
theorem li_last {p : List Int} (h : p ≠ []) : atI (p.map V.int) (-1) = some (V.int (Kv.lc p)) := by
  refine atI_last ?_
  rw [List.length_map]
  exact li_at (Kv.lc_cf h)
section
variable {P : Program} {w : World} {K : PySem.W.Frag} {mg : Str → Option Value} {base : Heap}
abbrev sSd : Stmt := topS 8
abbrev NSd : List Str := ["dividend", "factor", "divisor", "shift", "difference", "power", "coefficient"]
theorem scSd : FnScope NSd ["dividend", "factor", "divisor"] (defScope sSd) := ⟨rfl, rfl, rfl, by decide +kernel, rfl, by decide +kernel, by decide +kernel⟩
def spSd : Sp := fun vs H Q _ => ∃ (a b : Addr) (p q : List Int) (f : Int), vs = [.ref a, .int f, .ref b] ∧ LI H a p ∧ LI H b q ∧ q.length ≤ p.length ∧ f.natAbs ≤ 2 ^ 60000000 ∧ Kv.Ht q 60000000 ∧ GiveL H Q (Kv.sdI p f q)
theorem df_sd (F : Fx K mg "shifted_difference" sSd) (T : Nm mg) : Df P w K mg base "shifted_difference" 1 ["dividend", "factor", "divisor"] spSd := by
  refine df_of F scSd (fun _ _ _ _ _ _ us hl => match us, hl with | [_, _, _], _ => rfl) (fun vs H Q E h => ?_) (fun f cdv A outer s H vs Q E hr h => ?_)
  · obtain ⟨a, b, p, q, f, rfl, _⟩ := h
    rfl
  · obtain ⟨a, b, p, q, c, rfl, hp, hq, hl, hc, hb, k⟩ := h
    refine ⟨_, (pss_cons (ps_set (i := 3) scSd.nd rfl (.inl rfl) (pe_op op_sub (pe_callB (call_lenK K) (by rfl) T.len (by decide +kernel) (pa_cons (pv 0) pa_nil)) (pe_callB (call_lenK K) (by rfl) T.len (by decide +kernel) (pa_cons (pv 2) pa_nil))))
      (pss_cons (ps_set (i := 4) scSd.nd rfl (.inl rfl) (pe_callTy call_list_of (by rfl) T.list (by decide +kernel) (pa_cons (pv 0) pa_nil)))
      (pss_cons (ps_for PassesOwn.never rfl (pi_enum (by rfl) T.enumerate (pa_cons (pv 2) pa_nil)) (pg_tup (by rfl) (pgs_cons (pg_name (i := 5) scSd.nd rfl (Or.inl rfl)) (pgs_cons (pg_name (i := 6) scSd.nd rfl (Or.inl rfl)) pgs_nil))) (pss_one (ps_augS (pv 4) (pe_op op_add (pv 3) (pv 5)) get_list (pe_op op_mulX (pv 1) (pv 6)) ip_sub set_list)))
      (pss_one (ps_ret (pv 4)))))), ?_⟩
    refine ⟨_, rfl, a, _, rfl, hp.len, _, rfl, b, _, rfl, hq.len, _, _, rfl, rfl, ?_⟩
    refine ⟨_, rfl, a, _, rfl, .inl hp.sq, fun d hd => ?_⟩
    have s1 : Same H (upd H d (.lst (p.map V.int))) := upd_new hd
    refine ⟨_, rfl, b, _, rfl, (hq.same s1).sq, for_it (walk_enum (xs := q.map V.int)) (fun j σ H' => ∃ v v' : Option V, σ = [some (.ref a), some (.int c), some (.ref b), some (.int ((p.length : Int) - (q.length : Int))), some (.ref d), v, v'] ∧ Same H H' ∧ LI H' d (Kv.sdJ p c q j))
      ⟨none, none, rfl, s1, by rw [Kv.sdJ_zero]; exact upd_same⟩ (fun j σ H' _ ⟨_, _, _, s2, _⟩ => (hq.same s2).sq) ?_ ?_⟩
    · rintro j x σ H1 H2 hj ⟨v, v', rfl, s2, hD⟩ ⟨t, y, z, rfl, ht, rfl, e1, e2⟩
      obtain ⟨u, hu, rfl⟩ := li_get e2
      obtain rfl : V.int (j : Nat) = y := Option.some.inj e1
      have s3 : Same H (upd H1 t (.tup [.int (j : Nat), .int u])) := same_new s2 ht
      have hD3 : upd H1 t (.tup [.int (j : Nat), .int u]) d = some (.lst ((Kv.sdJ p c q j).map V.int)) := by
        rw [upd_ne (ne_of_none hD ht)]; exact hD
      obtain ⟨g1, g2⟩ := Kv.sdJ_step (f := c) hl hu
      have jl := (List.getElem?_eq_some_iff.mp hu).1
      have ei : (p.length : Int) - (q.length : Int) + (j : Int) = ((p.length - q.length + j : Nat) : Int) := by omega
      refine ⟨t, _, rfl, SqT.of upd_same, rfl, _, _, rfl, _, _, rfl, rfl, ?_⟩
      refine ⟨_, rfl, _, rfl, _, rfl, _, _, rfl, rfl, d, _, p.length - q.length + j, _, rfl, congrArg V.int ei, SqL.of hD3, li_at g1, _, rfl, _, rfl, _, _, rfl, rfl, mulX_of hc (hb _ (List.mem_of_getElem? hu)) (by decide), _, _, rfl, rfl, ?_⟩
      refine ⟨d, _, _, p.length - q.length + j, rfl, congrArg V.int ei, hD3, ?_, _, _, rfl, same_own s3 hd, ?_⟩
      · rw [List.length_map, Kv.sdJ_len]
        exact ixN_nat (by omega)
      · show upd _ d _ d = _
        rw [upd_same, ← g2, List.map_set]
    · rintro σ H1 ⟨v, v', rfl, s2, hD⟩
      rw [List.length_map] at hD
      exact ⟨_, rfl, k _ d s2 hD⟩
abbrev sRm : Stmt := topS 9
abbrev NRm : List Str := ["dividend", "divisor", "scale", "sign", "rest", "factor", "scaled", "coefficient"]
theorem scRm : FnScope NRm ["dividend", "divisor"] (defScope sRm) := ⟨rfl, rfl, rfl, by decide +kernel, rfl, by decide +kernel, by decide +kernel⟩
def spRm : Sp := fun vs H Q _ => ∃ (a b : Addr) (p q : List Int) (m n : Nat), vs = [.ref a, .ref b] ∧ LI H a p ∧ LI H b q ∧ q ≠ [] ∧ p.length ≤ 7 ∧ q.length ≤ 7 ∧ Kv.Tr (Kv.zr p) ∧ Kv.Tr (Kv.zr q) ∧ Kv.Ht p m ∧ Kv.Ht q n ∧ m ≤ 5000000 ∧ n ≤ 5000000 ∧
  ∀ r, Kv.RemP p q r (m + (p.length + 1 - q.length) * (n + 1)) → GiveL H Q r
theorem df_rm (F : Fx K mg "remainder_of" sRm) (T : Nm mg) (D_trimmed : Df P w K mg base "trimmed" 1 ["coefficients"] spTr) (D_shifted_difference : Df P w K mg base "shifted_difference" 1 ["dividend", "factor", "divisor"] spSd)
    (D_primitive_part : Df P w K mg base "primitive_part" 34 ["polynomial"] spPp) : Df P w K mg base "remainder_of" 35 ["dividend", "divisor"] spRm := by
  refine df_of F scRm (fun _ _ _ _ _ _ us hl => match us, hl with | [_, _], _ => rfl) (fun vs H Q E h => ?_) (fun f cdv A outer s H vs Q E hr h => ?_)
  · obtain ⟨a, b, p, q, m, n, rfl, _⟩ := h
    rfl
  · obtain ⟨a, b, p, q, m, n, rfl, hp, hq, nq, lp, lq, tp, tq, mp, mq, hm, hn, k⟩ := h
    refine ⟨_, (pss_cons (ps_set (i := 2) scRm.nd rfl (.inr rfl) (pe_callB call_abs (by rfl) T.abs (by decide +kernel) (pa_cons (pe_ix (ix_listK K) (pv 1) (pe_un un_neg pe_int) (fun _ _ => rfl)) pa_nil)))
      (pss_cons (ps_set (i := 3) scRm.nd rfl (.inl rfl) (pe_ifExp (pt_cmpR op_gt (pe_ix (ix_listK K) (pv 1) (pe_un un_neg pe_int) (fun _ _ => rfl)) pe_int (nomark _)) pe_int (pe_un un_neg pe_int)))
      (pss_cons (ps_set (i := 4) scRm.nd rfl (.inl rfl) (pv 0))
      (pss_cons (ps_while PassesOwn.never (pt_cmpR op_ge (pe_callB (call_lenK K) (by rfl) T.len (by decide +kernel) (pa_cons (pv 4) pa_nil)) (pe_callB (call_lenK K) (by rfl) T.len (by decide +kernel) (pa_cons (pv 1) pa_nil)) (nomark _)) (pss_cons (ps_set (i := 5) scRm.nd rfl (.inl rfl) (pe_op op_mulX (pv 3) (pe_ix (ix_listK K) (pv 4) (pe_un un_neg pe_int) (fun _ _ => rfl))))
      (pss_cons (ps_setLc (i := 6) (own := [("coefficient", 7)]) (g := gName 7) (by rfl) scRm.nd rfl rfl (sw_true rfl rfl rfl (by decide +kernel)) (pi_list (pv 4)) (blkOk_by (N := NRm) (sc := defScope sRm) (by decide +kernel)) (fun _ _ _ _ _ => pg_name (i := 7) scRm.nd rfl (Or.inl rfl)) (fun _ _ _ _ _ => pts_nil) (fun _ _ _ _ _ => (pe_op op_mulX (pv 2) (pv 7))))
      (pss_one (ps_set (i := 4) scRm.nd rfl (.inl rfl) (pd D_trimmed (hr.mono (by decide)) (pa_cons (pd D_shifted_difference (hr.mono (by decide)) (pa_cons (pv 6) (pa_cons (pv 5) (pa_cons (pv 1) pa_nil)))) pa_nil)))))))
      (pss_one (ps_ret (pd D_primitive_part (hr.mono (by decide)) (pa_cons (pv 4) pa_nil)))))))), ?_⟩
    have l0 := Kv.lc_ne tq nq
    have nql := List.length_pos_iff.mpr nq
    refine ⟨_, rfl, _, rfl, b, _, _, _, rfl, rfl, hq.sq, li_last nq, _, rfl, ?_⟩
    rw [abs_of]
    obtain ⟨sn, n1, n2, key⟩ : ∃ sn : Int, sn.natAbs = 1 ∧ ((Kv.lc q).natAbs : Int) = sn * Kv.lc q ∧ ∀ (R : VK) (σ : L2.St), R (.int sn) H → (if decide (0 < Kv.lc q) = true then tC (.int 1) σ H R else tUn (rU fun i => .int (-i)) (tC (.int 1)) σ H R) := by
      by_cases c : 0 < Kv.lc q
      · exact ⟨1, rfl, by omega, fun R σ h => by rw [decide_eq_true c]; exact iteT h⟩
      · exact ⟨-1, rfl, by omega, fun R σ h => by rw [decide_eq_false c]; exact iteF ⟨1, rfl, h⟩⟩
    refine ⟨_, rfl, _, rfl, b, _, _, _, rfl, rfl, hq.sq, li_last nq, _, _, rfl, rfl, _, rfl, key _ _ ?_⟩
    refine ⟨_, rfl, while_w (fun σ H' => ∃ (ra : Addr) (r : List Int) (v v' : Option V) (j : Nat), σ = [some (.ref a), some (.ref b), some (.int ((Kv.lc q).natAbs : Int)), some (.int sn), some (.ref ra), v, v', none] ∧ Same H H' ∧ LI H' ra r ∧ Kv.RemI p q r ∧
        Kv.Ht r (m + j * (n + 1)) ∧ j + r.length ≤ p.length ∧ (j = 0 ∨ j + q.length ≤ p.length + 1))
      (fun σ H' => match σ with | [_, _, _, _, some (.ref ra), _, _, _] => (match H' ra with | some (.lst xs) => xs.length | _ => 0) | _ => 0)
      ⟨a, p, none, none, 0, rfl, Same.refl H, hp, .start tp, by rw [Nat.zero_mul]; exact mp, by omega, .inl rfl⟩ ?_⟩
    rintro σ H1 ⟨ra, r, v, v', j, rfl, s1, hra, I, hb, j1, j2⟩
    refine ⟨_, rfl, ra, _, rfl, hra.len, _, rfl, b, _, rfl, (hq.same s1).len, _, _, rfl, rfl, _, rfl, ?_⟩
    have hjm : m + j * (n + 1) ≤ 40000007 := by
      have : j * (n + 1) ≤ 7 * 5000001 := Nat.mul_le_mul (by omega) (by omega)
      omega
    by_cases c : q.length ≤ r.length
    · rw [decide_eq_true (show (q.length : Int) ≤ (r.length : Int) by omega)]
      have nr : r ≠ [] := fun z => by rw [z] at c; simp at c; exact nq c
      have sq : sn * Kv.lc r = sn * Kv.lc r := rfl
      have b1 : (sn * Kv.lc r).natAbs ≤ 2 ^ (m + j * (n + 1)) := by rw [Int.natAbs_mul, n1, Nat.one_mul]; exact hb _ (Kv.lc_mem nr)
      have b2 : ((Kv.lc q).natAbs : Int).natAbs ≤ 2 ^ n := by rw [Int.natAbs_natCast]; exact mq _ (Kv.lc_mem nq)
      refine iteT ⟨fun σ' H' => (∃ (ra : Addr) (r' : List Int) (v v' : Option V) (j : Nat), σ' = [some (.ref a), some (.ref b), some (.int ((Kv.lc q).natAbs : Int)), some (.int sn), some (.ref ra), v, v', none] ∧ Same H H' ∧ LI H' ra r' ∧ Kv.RemI p q r' ∧
        Kv.Ht r' (m + j * (n + 1)) ∧ j + r'.length ≤ p.length ∧ (j = 0 ∨ j + q.length ≤ p.length + 1) ∧ r'.length < r.length), ?_, ?_⟩
      · rintro σ' H' ⟨ra', r', v, v', j, rfl, s2, h2, I2, k1, k2, k3, k4⟩
        refine ⟨_, ?_, rfl, ra', r', v, v', j, rfl, s2, h2, I2, k1, k2, k3⟩
        show (match H' ra' with | some (.lst xs) => xs.length | _ => 0) < (match H1 ra with | some (.lst xs) => xs.length | _ => 0)
        rw [show H' ra' = _ from h2, show H1 ra = _ from hra]
        show (r'.map V.int).length < (r.map V.int).length
        rw [List.length_map, List.length_map]
        exact k4
      · refine ⟨_, rfl, _, rfl, 1, rfl, ra, _, _, _, rfl, rfl, hra.sq, li_last nr, _, _, rfl, rfl, mulX_of (a := 1) (by rw [n1]; decide) (hb _ (Kv.lc_mem nr)) (by omega), ?_⟩
        refine ⟨_, rfl, ra, rfl, ⟨_, hra.sq⟩, fun D hD => lc_pure ((r.map fun x => ((Kv.lc q).natAbs : Int) * x).map V.int) (by simp) hra.sq hD (by simp; omega) (fun i x y hx hy H' R s' rr => ?_) ?_⟩
        · obtain ⟨z, hz, rfl⟩ := li_get hx
          obtain ⟨u, hu, rfl⟩ := li_get hy
          rw [List.getElem?_map, hz] at hu
          obtain rfl : ((Kv.lc q).natAbs : Int) * z = u := Option.some.inj hu
          exact ⟨rfl, _, rfl, _, rfl, _, _, rfl, rfl, mulX_of b2 (hb _ (List.mem_of_getElem? hz)) (by omega), rr⟩
        · refine ⟨_, rfl, _, rfl, _, rfl, D, b, _, q, _, rfl, upd_same, hq.same (s1.trans (upd_new hD)), by rw [List.length_map]; exact c, Kv.pow_up b1 (by omega), Kv.ht_le mq (by omega), fun H2 a2 s2 h2 => ?_⟩
          refine ⟨a2, _, rfl, h2, fun c' hc' ec H3 a3 s3 h3 => ?_⟩
          obtain ⟨I', l'⟩ := I.step nq tq n2 (by have := Int.natAbs_pos.mpr l0; omega) c ec
          refine ⟨a3, _, _, _, j + 1, rfl, ((s1.trans (upd_new hD)).trans s2).trans s3, h3, I', ?_, by omega, .inr (by omega), l'⟩
          have := Kv.step_ht (sn := sn) hb mq nq nr (by rw [Int.natAbs_natCast]) n1 rfl (n := c')
          rwa [show m + (j + 1) * (n + 1) = m + j * (n + 1) + (n + 1) by rw [Nat.succ_mul]; omega]
    · rw [decide_eq_false (show ¬ (q.length : Int) ≤ (r.length : Int) by omega)]
      refine iteF ⟨_, rfl, ra, r, rfl, hra, by omega, I.cond, fun H2 a2 s2 h2 => ?_⟩
      have jb : j * (n + 1) ≤ (p.length + 1 - q.length) * (n + 1) := Nat.mul_le_mul_right _ (by omega)
      exact k _ (I.fin (by omega) (Kv.ht_le hb (by omega))) H2 a2 (s1.trans s2) h2
end
end Il
namespace Il
open PySem PySem.Spec PyProof.Rows L2
section
variable {P : Program} {w : World} {K : PySem.W.Frag} {mg : Str → Option Value} {base : Heap}
abbrev sEq : Stmt := topS 10
abbrev NEq : List Str := ["dividend", "divisor", "descending", "rest", "factor"]
theorem scEq : FnScope NEq ["dividend", "divisor"] (defScope sEq) := ⟨rfl, rfl, rfl, by decide +kernel, rfl, by decide +kernel, by decide +kernel⟩
def spEq : Sp := fun vs H Q _ => ∃ (a b : Addr) (p q : List Int), vs = [.ref a, .ref b] ∧ LI H a p ∧ LI H b q ∧ p ≠ [] ∧ Kv.Tr (Kv.zr p) ∧ Kv.Tr (Kv.zr q) ∧ Kv.Prim q ∧ p.length ≤ 7 ∧ q.length ≤ 7 ∧ Kv.Ht p 1000 ∧ Kv.Ht q 1000 ∧ Kv.Dv (Kv.zr q) (Kv.zr p) ∧
  ∀ W, Kv.Tr (Kv.zr W) → W ≠ [] → (∀ x, Kv.ev (Kv.zr p) x = Kv.ev (Kv.zr q) x * Kv.ev (Kv.zr W) x) → GiveL H Q W
theorem df_eq (F : Fx K mg "exact_quotient" sEq) (T : Nm mg) (D_shifted_difference : Df P w K mg base "shifted_difference" 1 ["dividend", "factor", "divisor"] spSd) : Df P w K mg base "exact_quotient" 2 ["dividend", "divisor"] spEq := by
  refine df_of F scEq (fun _ _ _ _ _ _ us hl => match us, hl with | [_, _], _ => rfl) (fun vs H Q E h => ?_) (fun f cdv A outer s H vs Q E hr h => ?_)
  · obtain ⟨a, b, p, q, rfl, _⟩ := h
    rfl
  · obtain ⟨a, b, p, q, rfl, hp, hq, np, tp, tq, pq, lp, lq, mp, mq, dv, k⟩ := h
    refine ⟨_, (pss_cons (ps_set (i := 2) scEq.nd rfl (.inl rfl) (pe_lst pa_nil))
      (pss_cons (ps_set (i := 3) scEq.nd rfl (.inl rfl) (pv 0))
      (pss_cons (ps_while PassesOwn.never (pt_cmpR op_ge (pe_callB (call_lenK K) (by rfl) T.len (by decide +kernel) (pa_cons (pv 3) pa_nil)) (pe_callB (call_lenK K) (by rfl) T.len (by decide +kernel) (pa_cons (pv 1) pa_nil)) (nomark _)) (pss_cons (ps_set (i := 4) scEq.nd rfl (.inl rfl) (pe_op op_fdivS (pe_ix (ix_listK K) (pv 3) (pe_un un_neg pe_int) (fun _ _ => rfl)) (pe_ix (ix_listK K) (pv 1) (pe_un un_neg pe_int) (fun _ _ => rfl))))
      (pss_cons (ps_expr (pe_bm PySem.F.plainAttrs_list PySem.F.slot_list_append PySem.F.type_list_append mt_append (pv 2) (pa_cons (pv 4) pa_nil)))
      (pss_one (ps_set (i := 3) scEq.nd rfl (.inl rfl) (pe_slice sl_list (pd D_shifted_difference (hr.mono (by decide)) (pa_cons (pv 3) (pa_cons (pv 4) (pa_cons (pv 1) pa_nil)))) po_none (po_some (pe_un un_neg pe_int))))))))
      (pss_one (ps_ret (pe_lstRev rfl (by rfl) T.list (by rfl) T.reversed (pv 2))))))), ?_⟩
    obtain ⟨W, X, tW, nW, eW⟩ := Kv.ExQ.start tp np tq pq dv
    have nq : q ≠ [] := fun z => by
      rw [z] at pq
      exact absurd (show (0 : Nat) = 1 from pq) (by decide)
    have lW : W.length ≤ 7 := by have := X.len; have := List.length_pos_iff.mpr nq; omega
    have hW : Kv.Ht W 1060 := Kv.factor_ht tp np lp lW mp (fun x => (eW x).trans (Rat.mul_comm _ _))
    have l0 := Kv.lc_ne tq nq
    have pos := List.length_pos_iff.mpr nq
    refine ⟨Nat.zero_le _, fun d hd => ⟨_, rfl, ?_⟩⟩
    refine while_w (fun σ H' => ∃ (ra : Addr) (r : List Int) (v : Option V) (t : Nat), σ = [some (.ref a), some (.ref b), some (.ref d), some (.ref ra), v] ∧ Same H H' ∧ LI H' ra r ∧ ra ≠ d ∧ LI H' d (W.drop t).reverse ∧ Kv.ExQ q W r t)
      (fun σ H' => match σ with | [_, _, _, some (.ref ra), _] => (match H' ra with | some (.lst xs) => xs.length | _ => 0) | _ => 0)
      ⟨a, p, none, W.length, rfl, upd_new hd, hp.same (upd_new hd), ne_of_none hp hd, by rw [List.drop_length]; exact upd_same, X⟩ ?_
    rintro σ H1 ⟨ra, r, v, t, rfl, s1, hra, nd, hd1, Y⟩
    have yl := Y.len
    refine ⟨_, rfl, ra, _, rfl, hra.len, _, rfl, b, _, rfl, (hq.same s1).len, _, _, rfl, rfl, _, rfl, ?_⟩
    cases t with
    | succ t =>
      rw [decide_eq_true (show (q.length : Int) ≤ (r.length : Int) by omega)]
      have tw := Y.tw
      have nr : r ≠ [] := fun z => by rw [z] at yl; simp at yl; omega
      have er : Kv.lc r = Kv.lc q * Kv.cf W t := by rw [← Y.top nq, Kv.cf_at (Kv.lc_cf nr)]
      have ed : (Kv.lc r).fdiv (Kv.lc q) = Kv.cf W t := by rw [er]; exact Int.mul_fdiv_cancel_left _ l0
      refine iteT ⟨fun σ' H' => (∃ (ra : Addr) (r' : List Int) (v : Option V) (t : Nat), σ' = [some (.ref a), some (.ref b), some (.ref d), some (.ref ra), v] ∧ Same H H' ∧ LI H' ra r' ∧ ra ≠ d ∧ LI H' d (W.drop t).reverse ∧ Kv.ExQ q W r' t ∧ r'.length < r.length), ?_, ?_⟩
      · rintro σ' H' ⟨ra', r', v, t, rfl, s2, h2, n2, g2, Y2, k4⟩
        refine ⟨_, ?_, rfl, ra', r', v, t, rfl, s2, h2, n2, g2, Y2⟩
        show (match H' ra' with | some (.lst xs) => xs.length | _ => 0) < (match H1 ra with | some (.lst xs) => xs.length | _ => 0)
        rw [show H' ra' = _ from h2, show H1 ra = _ from hra]
        show (r'.map V.int).length < (r.map V.int).length
        rw [List.length_map, List.length_map]
        exact k4
      · refine ⟨_, rfl, 1, rfl, ra, _, _, _, rfl, rfl, hra.sq, li_last nr, _, rfl, 1, rfl, b, _, _, _, rfl, rfl, (hq.same s1).sq, li_last nq, _, _, rfl, rfl, divS_of (a := 1000) l0 (mq _ (Kv.lc_mem nq)) (by decide), ?_⟩
        refine ⟨_, rfl, .inl ⟨rfl, _, SqL.of hd1⟩, _, rfl, d, _, _, rfl, rfl, hd1, ?_, ?_⟩
        · rw [List.length_map, List.length_reverse, List.length_drop]
          exact small_of (show _ ≤ 7 by omega)
        · have s2 : Same H (upd H1 d (.lst ((W.drop (t + 1)).reverse.map V.int ++ [V.int ((Kv.lc r).fdiv (Kv.lc q))]))) := same_own s1 hd
          have hd2 : LI (upd H1 d (.lst ((W.drop (t + 1)).reverse.map V.int ++ [V.int ((Kv.lc r).fdiv (Kv.lc q))]))) d (W.drop t).reverse := by
            show upd _ d _ d = _
            rw [upd_same, ed, ← Kv.drop_rev (show t < W.length by omega), List.map_append]
            rfl
          have hra2 : LI (upd H1 d (.lst ((W.drop (t + 1)).reverse.map V.int ++ [V.int ((Kv.lc r).fdiv (Kv.lc q))]))) ra r := by
            show upd _ d _ ra = _
            rw [upd_ne nd]
            exact hra
          refine ⟨_, rfl, _, rfl, _, rfl, ra, b, r, q, _, rfl, hra2, hq.same s2, by omega, ?_, Kv.ht_le mq (by decide), fun H2 a2 s3 h3 => ?_⟩
          · rw [ed]
            exact Kv.pow_up (hW _ (Kv.cf_mem (by omega))) (by decide)
          · have s4 := s2.trans s3
            refine ⟨1, rfl, _, rfl, a2, _, rfl, SqL.of h3, fun a3 n3 => ?_⟩
            have hd3 := hd2.same s3
            refine ⟨a3, (Kv.sdI r (Kv.cf W t) q).take (r.length - 1), _, t, rfl, same_new s4 n3, ?_, (fun z => by rw [z, show H2 d = _ from hd3] at n3; cases n3), ?_, Y.step nq, ?_⟩
            · show upd _ a3 _ a3 = _
              rw [upd_same, cut_last, List.length_map, Kv.sdI_len, ed, List.map_take]
            · show upd _ a3 _ d = _
              rw [upd_ne (ne_of_none hd3 n3)]
              exact hd3
            · rw [List.length_take, Kv.sdI_len]
              have := List.length_pos_iff.mpr nr
              omega
    | zero =>
      rw [decide_eq_false (show ¬ (q.length : Int) ≤ (r.length : Int) by omega)]
      refine iteF ⟨_, rfl, d, _, rfl, SqL.of hd1, fun z hz => ?_⟩
      refine k W tW nW eW _ z (same_new s1 hz) ?_
      show upd _ z _ z = _
      rw [upd_same, ← List.map_reverse, List.reverse_reverse, List.drop_zero]
abbrev sCd : Stmt := topS 11
abbrev NCd : List Str := ["first", "second", "larger", "smaller", "rest"]
theorem scCd : FnScope NCd ["first", "second"] (defScope sCd) := ⟨rfl, rfl, rfl, by decide +kernel, rfl, by decide +kernel, by decide +kernel⟩
def spCd : Sp := fun vs H Q _ => ∃ (a b : Addr) (p q : List Int), vs = [.ref a, .ref b] ∧ LI H a p ∧ LI H b q ∧ p ≠ [] ∧ Kv.Tr (Kv.zr p) ∧ Kv.Tr (Kv.zr q) ∧ p.length ≤ 7 ∧ q.length ≤ 7 ∧ Kv.Ht p 1000 ∧ Kv.Ht q 1000 ∧
  ∀ g, Kv.Gcd (Kv.zr g) (Kv.zr p) (Kv.zr q) → Kv.Prim g → Kv.Tr (Kv.zr g) → g ≠ [] → GiveL H Q g
theorem df_cd (F : Fx K mg "common_divisor" sCd) (T : Nm mg) (D_remainder_of : Df P w K mg base "remainder_of" 35 ["dividend", "divisor"] spRm) (D_primitive_part : Df P w K mg base "primitive_part" 34 ["polynomial"] spPp) :
    Df P w K mg base "common_divisor" 36 ["first", "second"] spCd := by
  refine df_of F scCd (fun _ _ _ _ _ _ us hl => match us, hl with | [_, _], _ => rfl) (fun vs H Q E h => ?_) (fun f cdv A outer s H vs Q E hr h => ?_)
  · obtain ⟨a, b, p, q, rfl, _⟩ := h
    rfl
  · obtain ⟨a, b, p, q, rfl, hp, hq, np, tp, tq, lp, lq, mp, mq, k⟩ := h
    refine ⟨_, (pss_cons (ps_set (i := 2) scCd.nd rfl (.inl rfl) (pv 0))
      (pss_cons (ps_set (i := 3) scCd.nd rfl (.inl rfl) (pv 1))
      (pss_cons (ps_while PassesOwn.never (pt_cmpR op_gt (pe_callB (call_lenK K) (by rfl) T.len (by decide +kernel) (pa_cons (pv 3) pa_nil)) pe_int (nomark _)) (pss_cons (ps_set (i := 4) scCd.nd rfl (.inl rfl) (pd D_remainder_of (hr.mono (by decide)) (pa_cons (pv 2) (pa_cons (pv 3) pa_nil))))
      (pss_cons (ps_set (i := 2) scCd.nd rfl (.inl rfl) (pv 3))
      (pss_one (ps_set (i := 3) scCd.nd rfl (.inl rfl) (pv 4))))))
      (pss_one (ps_ret (pd D_primitive_part (hr.mono (by decide)) (pa_cons (pv 2) pa_nil))))))), ?_⟩
    refine ⟨_, rfl, _, rfl, while_w (fun σ H' => ∃ (ra rb : Addr) (L S : List Int) (v : Option V), σ = [some (.ref a), some (.ref b), some (.ref ra), some (.ref rb), v] ∧ Same H H' ∧ LI H' ra L ∧ LI H' rb S ∧ L ≠ [] ∧ Kv.Tr (Kv.zr L) ∧ Kv.Tr (Kv.zr S) ∧ Kv.Siz 1000 L S ∧
        ∀ g, Kv.Gcd g (Kv.zr L) (Kv.zr S) → Kv.Gcd g (Kv.zr p) (Kv.zr q))
      (fun σ H' => match σ with | [_, _, _, some (.ref ra), _] => (match H' ra with | some (.lst xs) => xs.length | _ => 0) | _ => 0)
      ⟨a, b, p, q, none, rfl, Same.refl H, hp, hq, np, tp, tq, ⟨lp, lq, .inl ⟨mp, mq⟩⟩, fun _ z => z⟩ ?_⟩
    rintro σ H1 ⟨ra, rb, L, S, v, rfl, s1, ha, hb, nL, tL, tS, Z, G⟩
    refine ⟨_, rfl, rb, _, rfl, hb.len, _, _, rfl, rfl, _, rfl, ?_⟩
    by_cases c : S = []
    · subst c
      rw [decide_eq_false (show ¬ (0 : Int) < (([] : List Int).length : Int) by simp)]
      have cp := Kv.nz_of_tr tL nL
      have l7 := Z.l7
      refine iteF ⟨_, rfl, ra, L, rfl, ha, by omega, .inr cp, fun H2 a2 s2 h2 => ?_⟩
      have cq : (Kv.content L : Rat) ≠ 0 := by
        have : (0 : Rat) < (Kv.content L : Rat) := by exact_mod_cast cp
        intro z
        rw [z] at this
        exact absurd this (by decide)
      refine k _ (G _ (Kv.Gcd.scale cq (Kv.prI_ev cp) (Kv.Gcd.self _))) (Kv.prI_prim cp) (Kv.prI_tr tL nL) (fun z => nL ?_) H2 a2 (s1.trans s2) h2
      have := Kv.prI_len L
      rw [z] at this
      exact List.length_eq_zero_iff.mp this.symm
    · have pS := List.length_pos_iff.mpr c
      rw [decide_eq_true (show (0 : Int) < (S.length : Int) by omega)]
      obtain ⟨m, n, h1, h2, h3, h4, step⟩ := Z.step pS
      refine iteT ⟨fun σ' H' => (∃ (ra rb : Addr) (L' S' : List Int) (v : Option V), σ' = [some (.ref a), some (.ref b), some (.ref ra), some (.ref rb), v] ∧ Same H H' ∧ LI H' ra L' ∧ LI H' rb S' ∧ L' ≠ [] ∧ Kv.Tr (Kv.zr L') ∧ Kv.Tr (Kv.zr S') ∧ Kv.Siz 1000 L' S' ∧
        (∀ g, Kv.Gcd g (Kv.zr L') (Kv.zr S') → Kv.Gcd g (Kv.zr p) (Kv.zr q)) ∧ S'.length < S.length), ?_, ?_⟩
      · rintro σ' H' ⟨ra', rb', L', S', v, rfl, s2, g1, g2, g3, g4, g5, g6, g7, k4⟩
        refine ⟨_, ?_, rfl, ra', rb', L', S', v, rfl, s2, g1, g2, g3, g4, g5, g6, g7⟩
        show (match H' rb' with | some (.lst xs) => xs.length | _ => 0) < (match H1 rb with | some (.lst xs) => xs.length | _ => 0)
        rw [show H' rb' = _ from g2, show H1 rb = _ from hb]
        show (S'.map V.int).length < (S.map V.int).length
        rw [List.length_map, List.length_map]
        exact k4
      · refine ⟨_, rfl, _, rfl, ra, rb, L, S, m, n, rfl, ha, hb, c, Z.l7, Z.s7, tL, tS, h1, h2, by omega, by omega, fun r hr' H2 a2 s2 g2 => ?_⟩
        exact ⟨_, rfl, _, rfl, rb, a2, S, r, _, rfl, s1.trans s2, hb.same s2, g2, c, tS, hr'.tr, step r hr'.len hr'.ht, fun g z => G g (hr'.gcd z), hr'.len⟩
abbrev sSv : Stmt := topS 12
abbrev NSv : List Str := ["polynomial", "numerator", "denominator", "value", "scale", "coefficient"]
theorem scSv : FnScope NSv ["polynomial", "numerator", "denominator"] (defScope sSv) := ⟨rfl, rfl, rfl, by decide +kernel, rfl, by decide +kernel, by decide +kernel⟩
def spSv : Sp := fun vs H Q _ => ∃ (a : Addr) (p : List Int) (n d : Int), vs = [.ref a, .int n, .int d] ∧ LI H a p ∧ 0 < d ∧ n.natAbs ≤ 2 ^ 40000 ∧ d.natAbs ≤ 2 ^ 40000 ∧ p.length ≤ 7 ∧ Kv.Ht p 5000000 ∧
  ∀ v : Int, Kv.sg (v : Rat) = Kv.sg (Kv.ev (Kv.zr p) ((n : Rat) / (d : Rat))) → Q (.int v) H
theorem df_sv (F : Fx K mg "scaled_value" sSv) (T : Nm mg) : Df P w K mg base "scaled_value" 1 ["polynomial", "numerator", "denominator"] spSv := by
  refine df_of F scSv (fun _ _ _ _ _ _ us hl => match us, hl with | [_, _, _], _ => rfl) (fun vs H Q E h => ?_) (fun f cdv A outer s H vs Q E hr h => ?_)
  · obtain ⟨a, p, n, d, rfl, _⟩ := h
    rfl
  · obtain ⟨a, p, n, d, rfl, hp, d0, bn, bd, lp, mp, k⟩ := h
    refine ⟨_, (pss_cons (ps_set (i := 3) scSv.nd rfl (.inl rfl) pe_int)
      (pss_cons (ps_set (i := 4) scSv.nd rfl (.inl rfl) pe_int)
      (pss_cons (ps_for PassesOwn.never rfl (pi_reversed (by rfl) T.reversed (pa_cons (pv 0) pa_nil)) (pg_name (i := 5) scSv.nd rfl (.inl rfl)) (pss_cons (ps_set (i := 3) scSv.nd rfl (.inl rfl) (pe_op op_add (pe_op op_mulX (pv 3) (pv 1)) (pe_op op_mulX (pv 5) (pv 4))))
      (pss_one (ps_aug (i := 4) scSv.nd rfl (.inl rfl) (pv 2) ip_mulX))))
      (pss_one (ps_ret (pv 3)))))), ?_⟩
    refine ⟨_, rfl, a, _, rfl, hp.sq, for_it (walk_rev (xs := p.map V.int)) (fun i σ H' => H' = H ∧ i ≤ p.length ∧ ∃ v : Option V, σ = [some (.ref a), some (.int n), some (.int d), some (.int (Kv.svp n d (p.drop (p.length - i)))), some (.int (d ^ i)), v])
      ⟨rfl, Nat.zero_le _, none, by rw [Nat.sub_zero, List.drop_length, Int.pow_zero]; rfl⟩ (fun i σ H' _ e => by rw [e.1]; exact hp.sq) ?_ ?_⟩
    · rintro i x σ H1 H2 hi ⟨rfl, hil, v, rfl⟩ ⟨rfl, hx⟩
      rw [List.length_map] at hi hx
      obtain ⟨z, hz, rfl⟩ := li_get hx
      have i7 : i * 40000 ≤ 7 * 40000 := Nat.mul_le_mul_right _ (by omega)
      have b1 := Kv.svp_ht bn bd (p.drop (p.length - i)) (fun c hc => mp c (List.mem_of_mem_drop hc))
      have b2 := Kv.pow_ht bd i
      have lb : (p.drop (p.length - i)).length * (40000 + 1) ≤ 7 * 40001 := Nat.mul_le_mul_right _ (by rw [List.length_drop]; omega)
      refine ⟨_, rfl, _, rfl, _, _, rfl, rfl, mulX_of b1 bn (by omega), _, rfl, _, rfl, _, _, rfl, rfl, mulX_of (mp _ (List.mem_of_getElem? hz)) b2 (by omega), _, _, rfl, rfl, ?_⟩
      refine ⟨_, rfl, _, rfl, _, _, rfl, rfl, mulX_of b2 bd (by omega), rfl, by omega, some (.int z), ?_⟩
      rw [Kv.drop_svp hi, Int.pow_succ, Kv.cf_at hz]
      rfl
    · rintro σ H1 ⟨rfl, hil, v, rfl⟩
      rw [List.length_map, Nat.sub_self, List.drop_zero]
      exact ⟨_, rfl, k _ (Kv.svp_sg d0 p)⟩
end
end Il
namespace Il
open PySem PySem.Spec PyProof.Rows L2
structure LsAt {α : Type} (R : Hp → Addr → α → Prop) (H : Hp) (a : Addr) (xs : List α) (as : List Addr) : Prop where
  lst : H a = some (.lst (as.map V.ref))
  len : as.length = xs.length
  at_ : ∀ (i : Nat) (b : Addr) (x : α), as[i]? = some b → xs[i]? = some x → R H b x
def Ls {α : Type} (R : Hp → Addr → α → Prop) (H : Hp) (a : Addr) (xs : List α) : Prop := ∃ as, LsAt R H a xs as
def Keeps {α : Type} (R : Hp → Addr → α → Prop) : Prop := ∀ H H' a x, Same H H' → R H a x → R H' a x
theorem Ls.same {α : Type} {R : Hp → Addr → α → Prop} (k : Keeps R) {H H' : Hp} {a : Addr} {xs : List α} (h : Ls R H a xs) (s : Same H H') : Ls R H' a xs := by
  obtain ⟨as, h⟩ := h
  exact ⟨as, s _ _ h.lst, h.len, fun i b x h1 h2 => k H H' b x s (h.at_ i b x h1 h2)⟩
theorem Ls.len {α : Type} {R : Hp → Addr → α → Prop} {K : PySem.W.Frag} {H : Hp} {a : Addr} {xs : List α} (h : Ls R H a xs) : LenAt K H a xs.length := by
  obtain ⟨as, h⟩ := h
  exact ⟨_, .inl (SqL.of h.lst), by rw [List.length_map, h.len]⟩
theorem Ls.keeps {α : Type} {R : Hp → Addr → α → Prop} (k : Keeps R) : Keeps (Ls R) := fun _ _ _ _ s h => h.same k s
theorem LsAt.get {α : Type} {R : Hp → Addr → α → Prop} {H : Hp} {a : Addr} {xs : List α} {as : List Addr} (h : LsAt R H a xs as) {i : Nat} {x : α} (hx : xs[i]? = some x) : ∃ b, as[i]? = some b ∧ R H b x := by
  have l := (List.getElem?_eq_some_iff.mp hx).1
  have e : as[i]? = some (as[i]'(by rw [h.len]; exact l)) := List.getElem?_eq_getElem _
  exact ⟨_, e, h.at_ i _ x e hx⟩
theorem LsAt.ofV {α : Type} {R : Hp → Addr → α → Prop} {H : Hp} {a : Addr} {xs : List α} {as : List Addr} (h : LsAt R H a xs as) {i : Nat} {v : V} (hv : (as.map V.ref)[i]? = some v) : ∃ b x, as[i]? = some b ∧ xs[i]? = some x ∧ v = V.ref b ∧ R H b x := by
  rw [List.getElem?_map] at hv
  cases e : as[i]? with
  | none => rw [e] at hv; cases hv
  | some b =>
    rw [e] at hv
    have l := (List.getElem?_eq_some_iff.mp e).1
    have ex : xs[i]? = some (xs[i]'(by rw [← h.len]; exact l)) := List.getElem?_eq_getElem _
    exact ⟨b, _, rfl, ex, (Option.some.inj hv).symm, h.at_ i b _ e ex⟩
theorem ref_at {as : List Addr} {i : Nat} {b : Addr} (h : as[i]? = some b) : (as.map V.ref)[i]? = some (V.ref b) := by
  rw [List.getElem?_map, h]; rfl
def New {α : Type} (R : Hp → Addr → α → Prop) (H : Hp) (Q : VK) (xs : α) : Prop := ∀ (H' : Hp) (a : Addr), Same H H' → H a = Option.none → R H' a xs → Q (.ref a) H'
theorem LsAt.snoc {α : Type} {R : Hp → Addr → α → Prop} {H : Hp} {a b : Addr} {xs : List α} {x : α} {as : List Addr} (h : LsAt R H a xs as)
    (st : ∀ (i : Nat) (c : Addr) (y : α), as[i]? = some c → xs[i]? = some y → R (upd H a (.lst (as.map V.ref ++ [.ref b]))) c y) (k : R (upd H a (.lst (as.map V.ref ++ [.ref b]))) b x) :
    LsAt R (upd H a (.lst (as.map V.ref ++ [.ref b]))) a (xs ++ [x]) (as ++ [b]) := by
  refine ⟨by rw [upd_same, List.map_append]; rfl, by rw [List.length_append, List.length_append, h.len]; rfl, fun i c y h1 h2 => ?_⟩
  have l := h.len
  by_cases q : i < as.length
  · rw [List.getElem?_append_left q] at h1
    rw [List.getElem?_append_left (by omega)] at h2
    exact st i c y h1 h2
  · have l1 := (List.getElem?_eq_some_iff.mp h1).1
    rw [List.length_append, List.length_singleton] at l1
    have e : i = as.length := by omega
    subst e
    rw [List.getElem?_append_right (Nat.le_refl _), Nat.sub_self] at h1
    rw [l, List.getElem?_append_right (Nat.le_refl _), Nat.sub_self] at h2
    have e1 : b = c := Option.some.inj h1
    have e2 : x = y := Option.some.inj h2
    subst e1 e2
    exact k
def Po (H : Hp) (a : Addr) (p : List Int) : Prop := LI H a p ∧ p ≠ []
theorem Po.keeps : Keeps Po := fun _ _ _ _ s h => ⟨h.1.same s, h.2⟩
theorem Po.upd {H : Hp} {a d : Addr} {p : List Int} {as : List Addr} {o : HO} (h : Po H a p) (hd : H d = some (.lst (as.map V.ref))) : Po (upd H d o) a p := by
  refine ⟨?_, h.2⟩
  show L2.upd H d o a = _
  rw [upd_ne]
  · exact h.1
  · rintro rfl
    have e := hd.symm.trans h.1
    obtain ⟨x, q, rfl⟩ := List.exists_cons_of_ne_nil h.2
    have e2 : as.map V.ref = (x :: q).map V.int := by injection e with e; injection e
    cases as with
    | nil => simp at e2
    | cons b bs => simp at e2
abbrev Ch := Ls Po
theorem Ch.upd {H : Hp} {a d : Addr} {L : List (List Int)} {as : List Addr} {o : HO} (h : Ch H a L) (hd : H d = some (.lst (as.map V.ref))) (n : a ≠ d) : Ch (upd H d o) a L := by
  obtain ⟨bs, h⟩ := h
  exact ⟨bs, by rw [upd_ne n]; exact h.lst, h.len, fun i b x h1 h2 => (h.at_ i b x h1 h2).upd hd⟩
abbrev Chs := Ls Ch
theorem chs_keeps : Keeps Chs := Ls.keeps (Ls.keeps Po.keeps)
theorem lc_rel {K : PySem.W.Frag} {a : Addr} {xs : List V} {g : TG} {te : TE} {vs : List Nat} {σ : L2.St} {H1 : Hp} {D : Addr} {Qd : Hp → Prop} (R : Nat → V → Prop) (hS : SqL K H1 a xs) (hD : H1 D = Option.none) (sz : xs.length ≤ 10000)
    (hs : ∀ (i : Nat) (x : V), xs[i]? = some x → ∀ (H : Hp) (Rk : VK), Same H1 H → (∀ y, R i y → Rk y H) → g x (wipe σ vs) H fun σ2 H2 => wipe σ2 vs = wipe σ vs ∧ te σ2 H2 Rk)
    (hd : ∀ ys : List V, ys.length = xs.length → (∀ (i : Nat) (y : V), ys[i]? = some y → R i y) → Qd (upd H1 D (.lst ys))) :
    ∃ W : Nat → Nat → Hp → Prop, (∃ m, W 0 m (upd H1 D (.lst []))) ∧ ∀ i m H, W i m H →
      ((Itl K a).stop i H ∧ Qd H) ∨ ((Itl K a).go i H ∧ ∃ Nx : Hp → Prop, (∀ H', Nx H' → ∃ m', m' < m ∧ W (i + 1) m' H') ∧ ∀ x H', (Itl K a).yld i H x H' → g x (wipe σ vs) H' fun σ2 H2 => wipe σ2 vs = wipe σ vs ∧ tYes σ2 H2 fun b H3 =>
        if b = true then te σ2 H3 fun y H4 => ∃ acc, H4 D = some (.lst acc) ∧ acc.length < sizeLine ∧ Nx (upd H4 D (.lst (acc ++ [y]))) else Nx H3) := by
  refine lc_list (K := K) (a := a) (xs := xs) (fun i H => ∃ ys : List V, H = upd H1 D (.lst ys) ∧ ys.length = i ∧ ∀ (j : Nat) (y : V), ys[j]? = some y → R j y) ⟨[], rfl, rfl, fun j y h => by simp at h⟩ (fun i H _ ⟨ys, e, _⟩ => by rw [e]; exact (upd_new hD).seq hS)
    (fun i x H hx ⟨ys, e, ly, hy⟩ => ?_) (fun H ⟨ys, e, ly, hy⟩ => by rw [e]; exact hd ys ly hy)
  subst e
  have hi := (List.getElem?_eq_some_iff.mp hx).1
  refine hs i x hx _ _ (upd_new hD) fun y hR => ⟨_, upd_same, small_of (show ys.length ≤ 10000 by omega), ys ++ [y], by rw [upd_upd], by rw [List.length_append, ly]; rfl, fun j u hu => ?_⟩
  by_cases q : j < ys.length
  · rw [List.getElem?_append_left q] at hu
    exact hy j u hu
  · have l1 := (List.getElem?_eq_some_iff.mp hu).1
    rw [List.length_append, List.length_singleton] at l1
    have ej : j = ys.length := by omega
    subst ej
    rw [List.getElem?_append_right (Nat.le_refl _), Nat.sub_self] at hu
    have e1 : y = u := Option.some.inj hu
    rw [← e1, ly]
    exact hR
structure Dm (P : Program) (w : World) (K : PySem.W.Frag) (mg : Str → Option Value) (base : Heap) (C : Addr) (m : Str) (k : Nat) (ps : List Str) (sp : Sp) : Prop where
  cls : Cls K C
  ex : ∃ (f : Addr) (fd : FuncData), Meth K C m f ∧ Binds K fd ps [] ∧ FnOk P w K mg base CX0 k f fd ps sp
structure Dk (P : Program) (w : World) (K : PySem.W.Frag) (mg : Str → Option Value) (base : Heap) (x : Str) (C : Addr) (k : Nat) (ps : List Str) (sp : Sp) : Prop where
  gl : mg x = some (.ref C)
  ex : ∃ (f : Addr) (fd : FuncData), Mk K C f ∧ Binds K fd ps [] ∧ FnOk P w K mg base CX0 k f fd ps sp
section
variable {X : Cx} {C : Addr} {m x : Str} {k : Nat} {ps : List Str} {sp : Sp} {o e : Expr} {es : List Expr} {ta : TE} {t : TA} {p pos apos : Pos} {pl : Sem Bool}
theorem pm (D : Dm X.prog X.w X.K X.mg X.base C m k ps sp) (hr : Room k X.A) (he : PE X o ta) (ha : PA X (e :: es) t)
    (hst : starEach (e :: es) X.env = (false, eval e X.env) :: starEach es X.env := by rfl) (hpl : (backTo pos (starEach es X.env)).any (·.1) = false := by rfl)
    (ht : eval (.Call (.Attribute o m apos) (e :: es) [] pos) X.env = (do
      let ov ← eval o X.env
      standAt apos.atName
      let (f, first) ← holding [ov] (getMethod ov m pl)
      callWith pos f first (backTo pos (starEach (e :: es) X.env)) (backToKw pos (keywordEach [] X.env))) := by rfl) :
    PE X (.Call (.Attribute o m apos) (e :: es) [] pos) (tMeth C m sp [] E0 ta t) := by
  obtain ⟨f, fd, h1, h2, h3⟩ := D.ex
  exact pe_meth (pl := pl) he D.cls h1 h3 hr h2 .nil pass0 ha hst hpl ht
theorem pm0 (D : Dm X.prog X.w X.K X.mg X.base C m k ps sp) (hr : Room k X.A) (he : PE X o ta)
    (ht : eval (.Call (.Attribute o m apos) [] [] pos) X.env = (do
      let ov ← eval o X.env
      standAt apos.atName
      let (f, first) ← holding [ov] (getMethod ov m pl)
      callWith pos f first (backTo pos (starEach [] X.env)) (backToKw pos (keywordEach [] X.env))) := by rfl) :
    PE X (.Call (.Attribute o m apos) [] [] pos) (tMeth C m sp [] E0 ta tNil) := by
  obtain ⟨f, fd, h1, h2, h3⟩ := D.ex
  exact pe_meth0 (pl := pl) he D.cls h1 h3 hr h2 .nil pass0 ht
theorem pmk (D : Dk X.prog X.w X.K X.mg X.base x C k ps sp) (hr : Room (k + 1) X.A) (ha : PA X (e :: es) t) (hg : Gl X x := by rfl) (hdb : (x == ("__debug__" : Str)) = false := by decide)
    (he : starEach (e :: es) X.env = (false, eval e X.env) :: starEach es X.env := by rfl) (hpl : (backTo pos (starEach es X.env)).any (·.1) = false := by rfl) : PE X (.Call (.Name x p) (e :: es) [] pos) (tMake C sp [] E0 t) := by
  obtain ⟨f, fd, h1, h2, h3⟩ := D.ex
  exact pe_make h1 h3 hr hg D.gl h2 .nil pass0 ha hdb he hpl
end
structure FxM (K : PySem.W.Frag) (C : Addr) (m qual : Str) (st : Stmt) : Prop where
  ex : ∃ (f : Addr) (fd : FuncData), Fun K m qual st f fd ∧ Meth K C m f
structure FxI (K : PySem.W.Frag) (C : Addr) (qual : Str) (st : Stmt) : Prop where
  ex : ∃ (f : Addr) (fd : FuncData), Fun K "__init__" qual st f fd ∧ Mk K C f
section
variable {P : Program} {w : World} {K : PySem.W.Frag} {mg : Str → Option Value} {base : Heap}
theorem dm_of {C : Addr} {m qual : Str} {st : Stmt} {N ps : List Str} {k : Nat} {sp : Sp} (c : Cls K C) (F : FxM K C m qual st) (S : FnScope N ps (defScope st))
    (b : ∀ (kV doc pm : Value) (an : Option Addr) (cdv ct : Value) (us : List Value), us.length = ps.length → bindArgs (PySem.W.fnOf m qual (defArgs st) (defBody st) (defScope st) .none kV doc pm an cdv ct) ⟨us, []⟩ = pure (ps.zip us))
    (len : ∀ vs H Q E, sp vs H Q E → vs.length = ps.length)
    (body : ∀ (f : Addr) (cdv : Value) (A : Around) (outer : List Env) (s : Shared) (H : Hp) (vs : List V) (Q : VK) (E : XK), Room k (A.deeper (envOfC qual (defScope st) s.heap.objs.size f cdv)) → sp vs H Q E →
      ∃ t, PSs (cxOf CX0 P w K mg base N qual (defScope st) f cdv A outer s H E).nox (defBody st) t ∧ t { nx := fun _ H' => Q .non H', rt := Q } (start N vs) H) : Dm P w K mg base C m (k + 1) ps sp := by
  obtain ⟨f, fd, h1, h2⟩ := F.ex
  exact ⟨c, f, fd, h2, h1.binds b, h1.ok S len fun cdv A outer s H vs Q E hr h => body f cdv A outer s H vs Q E hr h⟩
theorem dk_of {x : Str} {C : Addr} {qual : Str} {st : Stmt} {N ps : List Str} {k : Nat} {sp : Sp} (g : mg x = some (.ref C)) (F : FxI K C qual st) (S : FnScope N ps (defScope st))
    (b : ∀ (kV doc pm : Value) (an : Option Addr) (cdv ct : Value) (us : List Value), us.length = ps.length → bindArgs (PySem.W.fnOf "__init__" qual (defArgs st) (defBody st) (defScope st) .none kV doc pm an cdv ct) ⟨us, []⟩ = pure (ps.zip us))
    (len : ∀ vs H Q E, sp vs H Q E → vs.length = ps.length)
    (body : ∀ (f : Addr) (cdv : Value) (A : Around) (outer : List Env) (s : Shared) (H : Hp) (vs : List V) (Q : VK) (E : XK), Room k (A.deeper (envOfC qual (defScope st) s.heap.objs.size f cdv)) → sp vs H Q E →
      ∃ t, PSs (cxOf CX0 P w K mg base N qual (defScope st) f cdv A outer s H E).nox (defBody st) t ∧ t { nx := fun _ H' => Q .non H', rt := Q } (start N vs) H) : Dk P w K mg base x C (k + 1) ps sp := by
  obtain ⟨f, fd, h1, h2⟩ := F.ex
  exact ⟨g, f, fd, h2, h1.binds b, h1.ok S len fun cdv A outer s H vs Q E hr h => body f cdv A outer s H vs Q E hr h⟩
structure SpanC (K : PySem.W.Frag) (C : Addr) : Prop where
  cl : Cls K C
  low : NoAttr K C "low"
  high : NoAttr K C "high"
  scale : NoAttr K C "scale"
  at_low : NoAttr K C "at_low"
  at_high : NoAttr K C "at_high"
abbrev Sn := Kv.Sp0
def snF (z : Sn) : List (Str × V) := [("low", .int z.low), ("high", .int z.high), ("scale", .int z.scale), ("at_low", .int z.al), ("at_high", .int z.ah)]
def SnAt (C : Addr) (H : Hp) (a : Addr) (z : Sn) : Prop := ∃ dx, H a = some (.ins C dx (snF z))
theorem SnAt.keeps {C : Addr} : Keeps (SnAt C) := fun _ _ _ _ s ⟨dx, h⟩ => ⟨dx, s _ _ h⟩
abbrev sSpI : Stmt := inClass (topS 14) 0
abbrev NSpI : List Str := ["self", "low", "high", "scale", "at_low", "at_high"]
theorem scSpI : FnScope NSpI ["self", "low", "high", "scale", "at_low", "at_high"] (defScope sSpI) := ⟨rfl, rfl, rfl, by decide +kernel, rfl, by decide +kernel, by decide +kernel⟩
def spSpI (C : Addr) : Sp := fun vs H Q _ => ∃ (a dx : Addr) (z : Sn), vs = [.ref a, .int z.low, .int z.high, .int z.scale, .int z.al, .int z.ah] ∧ H a = some (.ins C dx []) ∧ ∀ H' : Hp, SnAt C H' a z → (∀ b o, H b = some o → b ≠ a → H' b = some o) → Q .non H'
theorem dk_span {C : Addr} (T : SpanC K C) (g : mg "Span" = some (.ref C)) (F : FxI K C "Span.__init__" sSpI) : Dk P w K mg base "Span" C 1 ["self", "low", "high", "scale", "at_low", "at_high"] (spSpI C) := by
  refine dk_of g F scSpI (fun _ _ _ _ _ _ us hl => match us, hl with | [_, _, _, _, _, _], _ => rfl) (fun vs H Q E h => ?_) (fun f cdv A outer s H vs Q E hr h => ?_)
  · obtain ⟨a, dx, z, rfl, _⟩ := h
    rfl
  · obtain ⟨a, dx, z, rfl, ha, k⟩ := h
    refine ⟨_, (pss_cons (ps_fld (pv 0) (pv 1) rfl)
      (pss_cons (ps_fld (pv 0) (pv 2) rfl)
      (pss_cons (ps_fld (pv 0) (pv 3) rfl)
      (pss_cons (ps_fld (pv 0) (pv 4) rfl)
      (pss_one (ps_fld (pv 0) (pv 5) rfl)))))), ?_⟩
    refine ⟨_, rfl, _, rfl, a, C, dx, _, rfl, ha, T.cl, T.low, (by show 0 < 1000; decide), ?_⟩
    refine ⟨_, rfl, _, rfl, a, C, dx, _, rfl, upd_same, T.cl, T.high, (by show 1 < 1000; decide), ?_⟩
    refine ⟨_, rfl, _, rfl, a, C, dx, _, rfl, upd_same, T.cl, T.scale, (by show 2 < 1000; decide), ?_⟩
    refine ⟨_, rfl, _, rfl, a, C, dx, _, rfl, upd_same, T.cl, T.at_low, (by show 3 < 1000; decide), ?_⟩
    refine ⟨_, rfl, _, rfl, a, C, dx, _, rfl, upd_same, T.cl, T.at_high, (by show 4 < 1000; decide), ?_⟩
    exact k _ ⟨dx, upd_same⟩ fun b o e hb => by
      rw [upd_ne hb, upd_ne hb, upd_ne hb, upd_ne hb, upd_ne hb]
      exact e
abbrev sSpC : Stmt := inClass (topS 14) 1
abbrev NSpC : List Str := ["self"]
theorem scSpC : FnScope NSpC ["self"] (defScope sSpC) := ⟨rfl, rfl, rfl, by decide +kernel, rfl, by decide +kernel, by decide +kernel⟩
def spSpC (C : Addr) : Sp := fun vs H Q _ => ∃ (a : Addr) (z : Sn), vs = [.ref a] ∧ SnAt C H a z ∧ Q (.int (z.al - z.ah)) H
theorem dm_root_count {C : Addr} (T : SpanC K C) (F : FxM K C "root_count" "Span.root_count" sSpC) : Dm P w K mg base C "root_count" 1 ["self"] (spSpC C) := by
  refine dm_of T.cl F scSpC (fun _ _ _ _ _ _ us hl => match us, hl with | [_], _ => rfl) (fun vs H Q E h => ?_) (fun f cdv A outer s H vs Q E hr h => ?_)
  · obtain ⟨a, z, rfl, _⟩ := h
    rfl
  · obtain ⟨a, z, rfl, ⟨dx, ha⟩, k⟩ := h
    refine ⟨_, (pss_one (ps_ret (pe_op op_sub (pe_fldK K (pv 0)) (pe_fldK K (pv 0))))), ?_⟩
    exact ⟨_, rfl, a, C, dx, _, _, rfl, ha, T.cl, T.at_low, rfl, _, rfl, a, C, dx, _, _, rfl, ha, T.cl, T.at_high, rfl, _, _, rfl, rfl, k⟩
end
end Il
namespace Il
open PySem PySem.Spec PyProof.Rows L2
def lenAt (H : Hp) (a : Addr) : Nat := match H a with
  | some (.lst xs) => xs.length
  | _ => 0
theorem lenAt_li {H : Hp} {a : Addr} {p : List Int} (h : LI H a p) : lenAt H a = p.length := by
  unfold lenAt
  rw [show H a = _ from h]
  exact List.length_map _
section
variable {P : Program} {w : World} {K : PySem.W.Frag} {mg : Str → Option Value} {base : Heap}
abbrev sRl : Stmt := topS 15
abbrev NRl : List Str := ["polynomial", "layers", "rest", "repeated"]
theorem scRl : FnScope NRl ["polynomial"] (defScope sRl) := ⟨rfl, rfl, rfl, by decide +kernel, rfl, by decide +kernel, by decide +kernel⟩
structure Pol (p : List Int) (p0 : List Rat) : Prop where
  tr : Kv.Tr (Kv.zr p)
  ne : p ≠ []
  l7 : p.length ≤ 7
  ht : Kv.Ht p 920
  t0 : Kv.Tr p0
  n0 : p0 ≠ []
  sim : Kv.Sim p0 (Kv.zr p)
def spRl : Sp := fun vs H Q _ => ∃ (a : Addr) (p : List Int) (p0 : List Rat), vs = [.ref a] ∧ LI H a p ∧ Pol p p0 ∧
  ∀ Ws, Kv.Lys Ws (Kqg1.multiplicityLayers p0.length p0) → Ws.length ≤ 7 → New Ch H Q Ws
theorem df_rl (F : Fx K mg "root_layers" sRl) (D_primitive_part : Df P w K mg base "primitive_part" 34 ["polynomial"] spPp) (D_degree_of : Df P w K mg base "degree_of" 1 ["polynomial"] spDg)
    (D_common_divisor : Df P w K mg base "common_divisor" 36 ["first", "second"] spCd) (D_derivative_of : Df P w K mg base "derivative_of" 1 ["polynomial"] spDv) (D_exact_quotient : Df P w K mg base "exact_quotient" 2 ["dividend", "divisor"] spEq) :
    Df P w K mg base "root_layers" 37 ["polynomial"] spRl := by
  refine df_of F scRl (fun _ _ _ _ _ _ us hl => match us, hl with | [_], _ => rfl) (fun vs H Q E h => ?_) (fun f cdv A outer s H vs Q E hr h => ?_)
  · obtain ⟨a, p, p0, rfl, _⟩ := h
    rfl
  · obtain ⟨a, p, p0, rfl, hp, G, k⟩ := h
    refine ⟨_, (pss_cons (ps_set (i := 1) scRl.nd rfl (.inl rfl) (pe_lst pa_nil))
      (pss_cons (ps_set (i := 2) scRl.nd rfl (.inl rfl) (pd D_primitive_part (hr.mono (by decide)) (pa_cons (pv 0) pa_nil)))
      (pss_cons (ps_while PassesOwn.never (pt_cmpR op_gt (pd D_degree_of (hr.mono (by decide)) (pa_cons (pv 2) pa_nil)) pe_int (nomark _)) (pss_cons (ps_set (i := 3) scRl.nd rfl (.inl rfl) (pd D_common_divisor (hr.mono (by decide)) (pa_cons (pv 2) (pa_cons (pd D_derivative_of (hr.mono (by decide)) (pa_cons (pv 2) pa_nil)) pa_nil))))
      (pss_cons (ps_expr (pe_bm PySem.F.plainAttrs_list PySem.F.slot_list_append PySem.F.type_list_append mt_append (pv 1) (pa_cons (pd D_exact_quotient (hr.mono (by decide)) (pa_cons (pv 2) (pa_cons (pv 3) pa_nil))) pa_nil)))
      (pss_one (ps_set (i := 2) scRl.nd rfl (.inl rfl) (pv 3))))))
      (pss_one (ps_ret (pv 1)))))), ?_⟩
    refine ⟨Nat.zero_le _, fun d hd => ?_⟩
    have s1 : Same H (upd H d (.lst [])) := upd_new hd
    have cp := Kv.nz_of_tr G.tr G.ne
    have l7 := G.l7
    refine ⟨_, rfl, a, p, rfl, hp.same s1, by omega, .inr cp, fun H2 ra s2 h2 => ?_⟩
    have st := Kv.LyI.start G.tr G.ne G.l7 G.ht (by decide) G.t0 G.n0 G.sim
    have len0 : p0.length ≤ 7 := by
      have := G.sim.len G.t0 G.tr
      rw [Kv.zr_len] at this
      omega
    refine while_w (fun σ H' => ∃ (ra : Addr) (r : List Int) (v : Option V) (Ws : List (List Int)), σ = [some (.ref a), some (.ref d), some (.ref ra), v] ∧ Same H H' ∧ LI H' ra r ∧ Ch H' d Ws ∧ Kv.LyI p0 p Ws r 920)
      (fun σ H' => match σ with | [_, _, some (.ref ra), _] => lenAt H' ra | _ => 0)
      ⟨ra, Kv.prI p, none, [], rfl, s1.trans s2, h2, ⟨[], s2 _ _ upd_same, rfl, fun i b x h => by simp at h⟩, st⟩ ?_
    rintro σ H3 ⟨ra, r, v, Ws, rfl, s3, hra, hd3, I⟩
    refine ⟨_, rfl, ra, r, rfl, hra, _, _, rfl, rfl, _, rfl, ?_⟩
    have r7 := I.l7
    by_cases c : 1 < r.length
    · rw [decide_eq_true (show (0 : Int) < (r.length : Int) - 1 by omega)]
      refine iteT ⟨fun σ' H' => (∃ (ra : Addr) (r' : List Int) (v : Option V) (Ws : List (List Int)), σ' = [some (.ref a), some (.ref d), some (.ref ra), v] ∧ Same H H' ∧ LI H' ra r' ∧ Ch H' d Ws ∧ Kv.LyI p0 p Ws r' 920 ∧ r'.length < r.length), ?_, ?_⟩
      · rintro σ' H' ⟨ra', r', v, Ws', rfl, g1, g2, g3, g4, g5⟩
        refine ⟨_, ?_, rfl, ra', r', v, Ws', rfl, g1, g2, g3, g4⟩
        show lenAt H' ra' < lenAt H3 ra
        rw [lenAt_li g2, lenAt_li hra]
        exact g5
      · refine ⟨_, rfl, _, rfl, ra, r, rfl, hra, by omega, Kv.ht_le I.ht (by decide), fun H4 rb s4 h4 => ?_⟩
        refine ⟨ra, rb, r, _, rfl, hra.same s4, h4, I.ne, I.tr, Kv.zr_zd_tr I.tr, r7, by rw [zd_len]; omega, Kv.ht_le I.ht (by decide), Kv.ht_le (Kv.zd_ht r7 I.ht) (by decide), fun g hg pg tg ng H5 rc s5 h5 => ?_⟩
        obtain ⟨as, hA⟩ := (hd3.same Po.keeps (s4.trans s5))
        have dl : SqL K H5 d (as.map V.ref) := SqL.of hA.lst
        have gl : g.length ≤ 7 := by
          have := (hg.l).len tg I.tr (fun z => I.ne (Kv.zr_nil_iff.mp z))
          rw [Kv.zr_len, Kv.zr_len] at this
          omega
        have gh : Kv.Ht g 1000 := Kv.ht_le (I.dht pg gl hg.l) (by decide)
        refine ⟨_, rfl, .inl ⟨rfl, _, dl⟩, _, rfl, _, rfl, ra, rc, r, g, rfl, (hra.same s4).same s5, h5, I.ne, I.tr, tg, pg, r7, gl, Kv.ht_le I.ht (by decide), gh, hg.l, fun W tW nW eW H6 rd s6 h6 => ?_⟩
        obtain ⟨I', lt⟩ := I.step c hg pg tg ng tW nW eW
        obtain ⟨as', hA'⟩ := (hd3.same Po.keeps ((s4.trans s5).trans s6))
        have wl := I.wl
        refine ⟨d, _, .ref rd, rfl, rfl, hA'.lst, ?_, ?_⟩
        · rw [List.length_map, hA'.len]
          exact small_of (show _ ≤ 7 by omega)
        · refine ⟨_, rfl, rc, g, _, Ws ++ [W], rfl, same_own (((s3.trans s4).trans s5).trans s6) hd, (Po.upd ⟨h5.same s6, ng⟩ hA'.lst).1, ⟨_, hA'.snoc (fun i b x h1 h2 => (hA'.at_ i b x h1 h2).upd hA'.lst) (Po.upd ⟨h6, nW⟩ hA'.lst)⟩, I', lt⟩
    · rw [decide_eq_false (show ¬ (0 : Int) < (r.length : Int) - 1 by omega)]
      obtain ⟨L, ll⟩ := I.fin c
      exact iteF ⟨_, rfl, k Ws L (by omega) H3 d s3 hd hd3⟩
end
end Il
namespace Il
open PySem PySem.Spec PyProof.Rows L2
section
variable {P : Program} {w : World} {K : PySem.W.Frag} {mg : Str → Option Value} {base : Heap}
abbrev sDp : Stmt := topS 16
abbrev NDp : List Str := ["polynomial", "layers"]
theorem scDp : FnScope NDp ["polynomial"] (defScope sDp) := ⟨rfl, rfl, rfl, by decide +kernel, rfl, by decide +kernel, by decide +kernel⟩
structure Dis (s : List Int) (p0 : List Rat) : Prop where
  tr : Kv.Tr (Kv.zr s)
  ne : s ≠ []
  prim : Kv.Prim s
  l7 : s.length ≤ 7
  ht : Kv.Ht s 980
  sim : Kv.Sim (Kqg1.squarefree p0) (Kv.zr s)
def spDp : Sp := fun vs H Q _ => ∃ (a : Addr) (p : List Int) (p0 : List Rat), vs = [.ref a] ∧ LI H a p ∧ Pol p p0 ∧ ∀ s, Dis s p0 → GiveL H Q s
theorem df_dp (F : Fx K mg "distinct_part" sDp) (T : Nm mg) (D_root_layers : Df P w K mg base "root_layers" 37 ["polynomial"] spRl) : Df P w K mg base "distinct_part" 38 ["polynomial"] spDp := by
  refine df_of F scDp (fun _ _ _ _ _ _ us hl => match us, hl with | [_], _ => rfl) (fun vs H Q E h => ?_) (fun f cdv A outer s H vs Q E hr h => ?_)
  · obtain ⟨a, p, p0, rfl, _⟩ := h
    rfl
  · obtain ⟨a, p, p0, rfl, hp, G, k⟩ := h
    refine ⟨_, (pss_cons (ps_set (i := 1) scDp.nd rfl (.inl rfl) (pd D_root_layers (hr.mono (by decide)) (pa_cons (pv 0) pa_nil)))
      (pss_cons (ps_if (pt_cmpR op_gt (pe_callB (call_lenK K) (by rfl) T.len (by decide +kernel) (pa_cons (pv 1) pa_nil)) pe_int (nomark _)) (pss_one (ps_ret (pe_ix (ix_listK K) (pv 1) pe_int (fun _ _ => rfl)))) pss_nil)
      (pss_one (ps_ret (pe_lst (pa_cons pe_int pa_nil)))))), ?_⟩
    refine ⟨_, rfl, a, p, p0, rfl, hp, G, fun Ws L l7 H1 d s1 n1 h1 => ?_⟩
    refine ⟨_, rfl, d, _, rfl, h1.len, _, _, rfl, rfl, _, rfl, ?_⟩
    cases Ws with
    | cons W Ws =>
      rw [decide_eq_true (show (0 : Int) < ((W :: Ws).length : Int) by simp)]
      obtain ⟨as, hA⟩ := h1
      obtain ⟨b, hb, pb⟩ := hA.get (i := 0) rfl
      refine iteT ⟨_, rfl, d, _, 0, _, rfl, rfl, SqL.of hA.lst, at_of (j := 0) rfl (ref_at hb), ?_⟩
      have ll := L.len
      have fe : (Kqg1.multiplicityLayers p0.length p0)[0]? = some p0 := by
        cases e : Kqg1.multiplicityLayers p0.length p0 with
        | nil => rw [e] at ll; simp at ll
        | cons f fs =>
          cases e2 : p0.length with
          | zero => rw [e2, Kqg1.multiplicityLayers] at e; cases e
          | succ n =>
            rw [e2, Kqg1.multiplicityLayers] at e
            by_cases c : p0.length ≤ 1
            · rw [if_pos c] at e; cases e
            · rw [if_neg c] at e
              injection e with e1 _
              rw [← e1]
              rfl
      have ly := L.at_ 0 W p0 rfl fe
      exact k W ⟨ly.tw, ly.nw, ly.pw, ly.l7, ly.ht, ly.sim⟩ H1 b s1 pb.1
    | nil =>
      refine iteF ⟨(by show 1 ≤ sizeLine; decide), fun q hq => ?_⟩
      have ll := L.len
      have l1 : p0.length ≤ 1 := by
        cases e2 : p0.length with
        | zero => omega
        | succ n =>
          rw [e2, Kqg1.multiplicityLayers] at ll
          by_cases c : p0.length ≤ 1
          · omega
          · rw [if_neg c] at ll; simp at ll
      have pos := List.length_pos_iff.mpr G.n0
      obtain ⟨c, hc⟩ := Kv.len_one (p := p0) (by omega)
      have c0 : c ≠ 0 := by
        have := G.t0.ld G.n0
        rw [hc] at this
        exact this
      refine k [1] ⟨.one (by decide), by simp, rfl, by simp, fun x hx => ?_, c, c0, fun x => ?_⟩ _ q (same_new s1 hq) upd_same
      · have : x = 1 := by simpa using hx
        rw [this]
        exact Nat.one_le_two_pow
      · have e : Kqg1.squarefree p0 = [c] := by unfold Kqg1.squarefree; rw [if_pos l1, hc]
        rw [e, Kv.ev_one]
        show c = c * Kv.ev [(1 : Rat)] x
        rw [Kv.ev_one, Rat.mul_one]
abbrev sSc : Stmt := topS 17
abbrev NSc : List Str := ["polynomial", "chain", "follower", "rest", "coefficient"]
theorem scSc : FnScope NSc ["polynomial"] (defScope sSc) := ⟨rfl, rfl, rfl, by decide +kernel, rfl, by decide +kernel, by decide +kernel⟩
def spSc : Sp := fun vs H Q _ => ∃ (a : Addr) (p : List Int), vs = [.ref a] ∧ LI H a p ∧ p ≠ [] ∧ Kv.Tr (Kv.zr p) ∧ p.length ≤ 7 ∧ Kv.Ht p 990 ∧ Kv.Sqf (Kv.zr p) ∧ ∀ L, Kv.ChOk p L → New Ch H Q L
theorem df_sc (F : Fx K mg "sturm_chain" sSc) (T : Nm mg) (D_derivative_of : Df P w K mg base "derivative_of" 1 ["polynomial"] spDv) (D_remainder_of : Df P w K mg base "remainder_of" 35 ["dividend", "divisor"] spRm) : Df P w K mg base "sturm_chain" 36 ["polynomial"] spSc := by
  refine df_of F scSc (fun _ _ _ _ _ _ us hl => match us, hl with | [_], _ => rfl) (fun vs H Q E h => ?_) (fun f cdv A outer s H vs Q E hr h => ?_)
  · obtain ⟨a, p, rfl, _⟩ := h
    rfl
  · obtain ⟨a, p, rfl, hp, ne, tp, lp, mp, sq, k⟩ := h
    refine ⟨_, (pss_cons (ps_set (i := 1) scSc.nd rfl (.inl rfl) (pe_lst (pa_cons (pv 0) pa_nil)))
      (pss_cons (ps_set (i := 2) scSc.nd rfl (.inl rfl) (pd D_derivative_of (hr.mono (by decide)) (pa_cons (pv 0) pa_nil)))
      (pss_cons (ps_while PassesOwn.never (pt_cmpR op_gt (pe_callB (call_lenK K) (by rfl) T.len (by decide +kernel) (pa_cons (pv 2) pa_nil)) pe_int (nomark _)) (pss_cons (ps_set (i := 3) scSc.nd rfl (.inl rfl) (pd D_remainder_of (hr.mono (by decide)) (pa_cons (pe_ix (ix_listK K) (pv 1) (pe_un un_neg pe_int) (fun _ _ => rfl)) (pa_cons (pv 2) pa_nil))))
      (pss_cons (ps_expr (pe_bm PySem.F.plainAttrs_list PySem.F.slot_list_append PySem.F.type_list_append mt_append (pv 1) (pa_cons (pv 2) pa_nil)))
      (pss_one (ps_setLc (i := 2) (own := [("coefficient", 4)]) (g := gName 4) (by rfl) scSc.nd rfl rfl (sw_true rfl rfl rfl (by decide +kernel)) (pi_list (pv 3)) (blkOk_by (N := NSc) (sc := defScope sSc) (by decide +kernel)) (fun _ _ _ _ _ => pg_name (i := 4) scSc.nd rfl (Or.inl rfl)) (fun _ _ _ _ _ => pts_nil) (fun _ _ _ _ _ => (pe_un un_neg (pv 4))))))))
      (pss_one (ps_ret (pv 1)))))), ?_⟩
    refine ⟨_, rfl, (by show 1 ≤ sizeLine; decide), fun d hd => ?_⟩
    have s1 : Same H (upd H d (.lst [.ref a])) := upd_new hd
    refine ⟨_, rfl, a, p, rfl, hp.same s1, by omega, Kv.ht_le mp (by decide), fun H2 rf s2 h2 => ?_⟩
    have hd2 : Ch H2 d [p] := ⟨[a], s2 _ _ upd_same, rfl, fun i b x h1 h2' => by
      cases i with
      | zero =>
        have e1 : a = b := Option.some.inj h1
        have e2 : p = x := Option.some.inj h2'
        rw [← e1, ← e2]
        exact ⟨hp.same (s1.trans s2), ne⟩
      | succ i => simp at h1⟩
    refine while_w (fun σ H' => ∃ (rf : Addr) (L : List (List Int)) (F : List Int) (v : Option V), σ = [some (.ref a), some (.ref d), some (.ref rf), v, none] ∧ Same H H' ∧ LI H' rf F ∧ Ch H' d L ∧ Kv.ChI p L F)
      (fun σ H' => match σ with | [_, _, some (.ref ra), _, _] => lenAt H' ra | _ => 0)
      ⟨rf, [p], Kv.zd p, none, rfl, s1.trans s2, h2, hd2, .start tp ne lp mp sq⟩ ?_
    rintro σ H3 ⟨rf, L, F, v, rfl, s3, hrf, hd3, I⟩
    refine ⟨_, rfl, rf, _, rfl, hrf.len, _, _, rfl, rfl, _, rfl, ?_⟩
    by_cases c : F = []
    · subst c
      exact iteF ⟨_, rfl, k L I.fin H3 d s3 hd hd3⟩
    · have pF := List.length_pos_iff.mpr c
      rw [decide_eq_true (show (0 : Int) < (F.length : Int) by omega)]
      obtain ⟨l0, e0⟩ := I.hd
      have nL : L ≠ [] := by rw [e0]; simp
      obtain ⟨c0, hc0⟩ : ∃ c0, L.getLast? = some c0 := by
        cases e : L.getLast? with
        | none => rw [List.getLast?_eq_none_iff] at e; exact absurd e nL
        | some x => exact ⟨x, rfl⟩
      obtain ⟨cop, sz⟩ := I.cop c0 hc0
      obtain ⟨m, n, b1, b2, b3, b4, step⟩ := sz.step pF
      have topF := sz.top.2
      have hlast : L[L.length - 1]? = some c0 := by rw [← List.getLast?_eq_getElem?]; exact hc0
      obtain ⟨as, hA⟩ := hd3
      obtain ⟨b, hb, pb⟩ := hA.get hlast
      have allc := I.all c0 (List.mem_of_getLast? hc0)
      have lL := I.len
      refine iteT ⟨fun σ' H' => (∃ (rf : Addr) (L : List (List Int)) (F' : List Int) (v : Option V), σ' = [some (.ref a), some (.ref d), some (.ref rf), v, none] ∧ Same H H' ∧ LI H' rf F' ∧ Ch H' d L ∧ Kv.ChI p L F' ∧ F'.length < F.length), ?_, ?_⟩
      · rintro σ' H' ⟨ra', L', F', v, rfl, g1, g2, g3, g4, g5⟩
        refine ⟨_, ?_, rfl, ra', L', F', v, rfl, g1, g2, g3, g4⟩
        show lenAt H' ra' < lenAt H3 rf
        rw [lenAt_li g2, lenAt_li hrf]
        exact g5
      · refine ⟨_, rfl, 1, rfl, d, _, -1, .ref b, rfl, rfl, SqL.of hA.lst, ?_, ?_⟩
        · refine atI_last ?_
          rw [List.length_map, hA.len]
          exact ref_at hb
        · refine ⟨_, rfl, b, rf, c0, F, m, n, rfl, pb.1, hrf, c, sz.l7, sz.s7, allc.2.1, I.tf, b1, b2, by omega, by omega, fun r hr' H4 rr s4 h4 => ?_⟩
          have hA4 := s4 _ _ hA.lst
          refine ⟨_, rfl, .inl ⟨rfl, _, SqL.of hA4⟩, _, rfl, d, _, .ref rf, rfl, rfl, hA4, ?_, ?_⟩
          · rw [List.length_map, hA.len]
            exact small_of (show _ ≤ 7 by omega)
          · have s5 : Same H (upd H4 d (.lst (as.map V.ref ++ [.ref rf]))) := same_own (s3.trans s4) hd
            have hrr : LI (upd H4 d (.lst (as.map V.ref ++ [.ref rf]))) rr r := by
              by_cases z : r = []
              ·
                show upd H4 d _ rr = _
                rw [upd_ne]
                · exact h4
                · rintro rfl
                  have e := hA4.symm.trans h4
                  have : as.length = 0 := by
                    have e2 : as.map V.ref = r.map V.int := by injection e with e; injection e
                    have := congrArg List.length e2
                    rw [z] at this
                    simpa using this
                  rw [hA.len, e0] at this
                  simp at this
              · exact (Po.upd ⟨h4, z⟩ hA4).1
            have hD5 : Ch (upd H4 d (.lst (as.map V.ref ++ [.ref rf]))) d (L ++ [F]) :=
              ⟨_, LsAt.snoc (R := Po) (H := H4) ⟨hA4, hA.len, fun i b x h1 h2 => Po.keeps _ _ _ _ s4 (hA.at_ i b x h1 h2)⟩ (fun i c y h1 h2 => (Po.keeps _ _ _ _ s4 (hA.at_ i c y h1 h2)).upd hA4) (Po.upd ⟨hrf.same s4, c⟩ hA4)⟩
            refine ⟨_, rfl, rr, rfl, ⟨_, hrr.sq⟩, fun D hD => lc_pure ((r.map fun c => -c).map V.int) (by simp) hrr.sq hD (by rw [List.length_map, Kv.neg_len]; have := hr'.len; have := sz.s7; omega) (fun i x y hx hy H' R s' rr' => ?_) ?_⟩
            · obtain ⟨z, hz, rfl⟩ := li_get hx
              obtain ⟨u, hu, rfl⟩ := li_get hy
              rw [List.getElem?_map, hz] at hu
              obtain rfl : -z = u := Option.some.inj hu
              exact ⟨rfl, _, rfl, z, rfl, rr'⟩
            · refine ⟨D, L ++ [F], r.map fun c => -c, _, rfl, same_new s5 hD, upd_same, hD5.same Po.keeps (upd_new hD), I.step c hc0 hr' (Kv.ht_le topF (by decide)) step, ?_⟩
              rw [Kv.neg_len]
              exact hr'.len
abbrev sLy : Stmt := topS 18
abbrev NLy : List Str := ["polynomial", "layer"]
theorem scLy : FnScope NLy ["polynomial"] (defScope sLy) := ⟨rfl, rfl, rfl, by decide +kernel, rfl, by decide +kernel, by decide +kernel⟩
def spLy : Sp := fun vs H Q _ => ∃ (a : Addr) (p : List Int) (p0 : List Rat), vs = [.ref a] ∧ LI H a p ∧ Pol p p0 ∧ ∀ Ls, Kv.FamOk p0 Ls → New Chs H Q Ls
theorem df_ly (F : Fx K mg "layer_chains" sLy) (D_root_layers : Df P w K mg base "root_layers" 37 ["polynomial"] spRl) (D_sturm_chain : Df P w K mg base "sturm_chain" 36 ["polynomial"] spSc) : Df P w K mg base "layer_chains" 38 ["polynomial"] spLy := by
  refine df_of F scLy (fun _ _ _ _ _ _ us hl => match us, hl with | [_], _ => rfl) (fun vs H Q E h => ?_) (fun f cdv A outer s H vs Q E hr h => ?_)
  · obtain ⟨a, p, p0, rfl, _⟩ := h
    rfl
  · obtain ⟨a, p, p0, rfl, hp, G, k⟩ := h
    refine ⟨_, (pss_one (ps_ret (pe_lc (own := [("layer", 1)]) (g := gName 1) (by rfl) scLy.nd (pi_list (pd D_root_layers (hr.mono (by decide)) (pa_cons (pv 0) pa_nil))) (blkOk_by (N := NLy) (sc := defScope sLy) (by decide +kernel)) (fun _ _ _ _ _ => pg_name (i := 1) scLy.nd rfl (Or.inl rfl)) (fun _ _ _ _ _ => pts_nil) (fun _ _ _ _ _ => (pd D_sturm_chain (hr.mono (by decide)) (pa_cons (pv 1) pa_nil)))))), ?_⟩
    refine ⟨_, rfl, a, p, p0, rfl, hp, G, fun Ws L l7 H1 d s1 n1 h1 => ?_⟩
    obtain ⟨as, hA⟩ := h1
    refine ⟨d, rfl, ⟨_, SqL.of hA.lst⟩, fun D hD => ?_⟩
    refine lc_list (K := K) (a := d) (xs := as.map V.ref) (fun i H' => Same H1 H' ∧ ∃ (cs : List Addr) (Ls : List (List (List Int))), LsAt Ch H' D Ls cs ∧ (∀ c ∈ cs, c ≠ D) ∧ Ls.length = i ∧ ∀ (j : Nat) (M : List (List Int)) (W : List Int), Ls[j]? = some M → Ws[j]? = some W → Kv.ChOk W M)
      ⟨upd_new hD, [], [], ⟨upd_same, rfl, fun i b x h => by simp at h⟩, by simp, rfl, fun j M W h => by simp at h⟩ (fun i H' _ e => e.1.seq (SqL.of hA.lst)) (fun i x H' hx ⟨s2, cs, Ls, hC, nD, li, hj⟩ => ?_) (fun H' ⟨s2, cs, Ls, hC, nD, li, hj⟩ => ?_)
    · obtain ⟨b, W, hb, hW, rfl, pb⟩ := hA.ofV hx
      have wl := (List.getElem?_eq_some_iff.mp hW).1
      have ll := L.len
      have hf : (Kqg1.multiplicityLayers p0.length p0)[i]? = some ((Kqg1.multiplicityLayers p0.length p0)[i]'(by omega)) := List.getElem?_eq_getElem _
      have ly := L.at_ i W _ hW hf
      have sq : Kv.Sqf (Kv.zr W) := (Kv.sf_spec ly.tf ly.nf).sq.sim ly.sim.symm
      refine ⟨rfl, _, rfl, b, W, rfl, pb.1.same s2, ly.nw, ly.tw, ly.l7, Kv.ht_le ly.ht (by decide), sq, fun M hM H3 c s3 n3 h3 => ?_⟩
      have hD3 := s3 _ _ hC.lst
      have cD : c ≠ D := fun z => by rw [z, hC.lst] at n3; cases n3
      refine ⟨_, hD3, ?_, same_own (s2.trans s3) hD, cs ++ [c], Ls ++ [M], ?_, fun e he => ?_, by rw [List.length_append, li]; rfl, fun j M' W' h1 h2 => ?_⟩
      · rw [List.length_map, hC.len, li]
        exact small_of (show i ≤ 7 by omega)
      · exact LsAt.snoc (R := Ch) (H := H3) ⟨hD3, hC.len, fun i b x h1 h2 => (hC.at_ i b x h1 h2).same Po.keeps s3⟩ (fun j e y h1 h2 => Ch.upd ((hC.at_ j e y h1 h2).same Po.keeps s3) hD3 (nD e (List.mem_of_getElem? h1))) (Ch.upd h3 hD3 cD)
      · rcases List.mem_append.mp he with z | z
        · exact nD e z
        · rw [List.mem_singleton.mp z]
          exact cD
      · by_cases q : j < Ls.length
        · rw [List.getElem?_append_left q] at h1
          exact hj j M' W' h1 h2
        · have l1 := (List.getElem?_eq_some_iff.mp h1).1
          rw [List.length_append, List.length_singleton] at l1
          have ej : j = Ls.length := by omega
          subst ej
          rw [List.getElem?_append_right (Nat.le_refl _), Nat.sub_self] at h1
          rw [li, hW] at h2
          have e1 : M = M' := Option.some.inj h1
          have e2 : W = W' := Option.some.inj h2
          rw [← e1, ← e2]
          exact hM
    · rw [List.length_map, hA.len] at li
      have ll := L.len
      refine k Ls ⟨?_, by omega, fun i M S h1 h2 => ?_⟩ H' D (s1.trans s2) (s1.free hD) ⟨cs, hC⟩
      · unfold Kqg1.layerChains
        rw [List.length_map]
        omega
      · unfold Kqg1.layerChains at h2
        rw [List.getElem?_map] at h2
        cases e : (Kqg1.multiplicityLayers p0.length p0)[i]? with
        | none => rw [e] at h2; cases h2
        | some f0 =>
          rw [e] at h2
          have eS : Kqg1.sturmChain f0 = S := Option.some.inj h2
          have i1 := (List.getElem?_eq_some_iff.mp h1).1
          have hW : Ws[i]? = some (Ws[i]'(by omega)) := List.getElem?_eq_getElem _
          have ly := L.at_ i _ f0 hW e
          have ch := hj i M _ h1 hW
          obtain ⟨l0, e0⟩ := ch.hd
          have eM : M.headD [] = Ws[i]'(by omega) := by rw [e0]; rfl
          rw [eM, ← eS, Kv.hd_chain ly.tf ly.nf]
          exact ⟨ch, ly.sim⟩
end
end Il
namespace Il
open PySem PySem.Spec PyProof.Rows L2
theorem lc_relS {K : PySem.W.Frag} {a : Addr} {xs : List V} {g : TG} {te : TE} {vs : List Nat} {σ : L2.St} {H1 : Hp} {D : Addr} {Qd : Hp → Prop} (R : Nat → V → Prop) (hS : SqL K H1 a xs) (hD : H1 D = Option.none) (sz : xs.length ≤ 10000)
    (hs : ∀ (i : Nat) (x : V), xs[i]? = some x → ∀ (H : Hp) (Rk : VK), Same H1 H → (∀ y H', R i y → Same H H' → Rk y H') → g x (wipe σ vs) H fun σ2 H2 => wipe σ2 vs = wipe σ vs ∧ te σ2 H2 Rk)
    (hd : ∀ (ys : List V) (H : Hp), ys.length = xs.length → (∀ (i : Nat) (y : V), ys[i]? = some y → R i y) → Same H1 H → H D = some (.lst ys) → Qd H) :
    ∃ W : Nat → Nat → Hp → Prop, (∃ m, W 0 m (upd H1 D (.lst []))) ∧ ∀ i m H, W i m H →
      ((Itl K a).stop i H ∧ Qd H) ∨ ((Itl K a).go i H ∧ ∃ Nx : Hp → Prop, (∀ H', Nx H' → ∃ m', m' < m ∧ W (i + 1) m' H') ∧ ∀ x H', (Itl K a).yld i H x H' → g x (wipe σ vs) H' fun σ2 H2 => wipe σ2 vs = wipe σ vs ∧ tYes σ2 H2 fun b H3 =>
        if b = true then te σ2 H3 fun y H4 => ∃ acc, H4 D = some (.lst acc) ∧ acc.length < sizeLine ∧ Nx (upd H4 D (.lst (acc ++ [y]))) else Nx H3) := by
  refine lc_list (K := K) (a := a) (xs := xs) (fun i H => ∃ ys : List V, Same H1 H ∧ H D = some (.lst ys) ∧ ys.length = i ∧ ∀ (j : Nat) (y : V), ys[j]? = some y → R j y) ⟨[], upd_new hD, upd_same, rfl, fun j y h => by simp at h⟩ (fun i H _ ⟨ys, e, _⟩ => e.seq hS)
    (fun i x H hx ⟨ys, e, eD, ly, hy⟩ => ?_) (fun H ⟨ys, e, eD, ly, hy⟩ => hd ys H ly hy e eD)
  have hi := (List.getElem?_eq_some_iff.mp hx).1
  refine hs i x hx _ _ e fun y H' hR s' => ⟨ys, s' _ _ eD, small_of (show ys.length ≤ 10000 by omega), ys ++ [y], same_own (e.trans s') hD, upd_same, by rw [List.length_append, ly]; rfl, fun j u hu => ?_⟩
  by_cases q : j < ys.length
  · rw [List.getElem?_append_left q] at hu
    exact hy j u hu
  · have l1 := (List.getElem?_eq_some_iff.mp hu).1
    rw [List.length_append, List.length_singleton] at l1
    have ej : j = ys.length := by omega
    subst ej
    rw [List.getElem?_append_right (Nat.le_refl _), Nat.sub_self] at hu
    have e1 : y = u := Option.some.inj hu
    rw [← e1, ly]
    exact hR
theorem ys_map {α : Type} {f : α → V} {xs : List α} {ys : List V} (l : ys.length = xs.length) (h : ∀ (i : Nat) (y : V) (x : α), ys[i]? = some y → xs[i]? = some x → y = f x) : ys = xs.map f := by
  refine List.ext_getElem? fun i => ?_
  rw [List.getElem?_map]
  cases e : xs[i]? with
  | none =>
    rw [List.getElem?_eq_none_iff] at e
    rw [List.getElem?_eq_none_iff.mpr (by omega)]; rfl
  | some x =>
    have il := (List.getElem?_eq_some_iff.mp e).1
    have ey : ys[i]? = some (ys[i]'(by omega)) := List.getElem?_eq_getElem _
    rw [ey]
    exact congrArg some (h i _ x ey e)
def GiveV (H : Hp) (Q : VK) (v : V) : Prop := ∀ H' : Hp, Same H H' → Q v H'
section
variable {P : Program} {w : World} {K : PySem.W.Frag} {mg : Str → Option Value} {base : Heap}
abbrev sVa : Stmt := topS 19
abbrev NVa : List Str := ["chain", "numerator", "denominator", "values", "below_zero", "count", "place", "polynomial", "value"]
theorem scVa : FnScope NVa ["chain", "numerator", "denominator"] (defScope sVa) := ⟨rfl, rfl, rfl, by decide +kernel, rfl, by decide +kernel, by decide +kernel⟩
structure Plc (n d : Int) : Prop where
  pos : 0 < d
  n : n.natAbs ≤ 2 ^ 40000
  d : d.natAbs ≤ 2 ^ 40000
structure Csz (L : List (List Int)) : Prop where
  at_ : ∀ f ∈ L, f.length ≤ 7 ∧ Kv.Ht f 5000000
  len : L.length ≤ 7
def spVa : Sp := fun vs H Q _ => ∃ (a : Addr) (L : List (List Int)) (n d : Int), vs = [.ref a, .int n, .int d] ∧ Ch H a L ∧ Plc n d ∧ Csz L ∧ GiveV H Q (.int (Kv.V (L.map Kv.zr) ((n : Rat) / (d : Rat))))
theorem df_va (F : Fx K mg "variations" sVa) (T : Nm mg) (D_scaled_value : Df P w K mg base "scaled_value" 1 ["polynomial", "numerator", "denominator"] spSv) : Df P w K mg base "variations" 2 ["chain", "numerator", "denominator"] spVa := by
  refine df_of F scVa (fun _ _ _ _ _ _ us hl => match us, hl with | [_, _, _], _ => rfl) (fun vs H Q E h => ?_) (fun f cdv A outer s H vs Q E hr h => ?_)
  · obtain ⟨a, L, n, d, rfl, _⟩ := h
    rfl
  · obtain ⟨a, L, n, d, rfl, ⟨as, hA⟩, pl, cz, k⟩ := h
    refine ⟨_, (pss_cons (ps_setLc (i := 3) (own := [("polynomial", 7)]) (g := gName 7) (by rfl) scVa.nd rfl rfl (sw_true rfl rfl rfl (by decide +kernel)) (pi_list (pv 0)) (blkOk_by (N := NVa) (sc := defScope sVa) (by decide +kernel)) (fun _ _ _ _ _ => pg_name (i := 7) scVa.nd rfl (Or.inl rfl)) (fun _ _ _ _ _ => pts_nil) (fun _ _ _ _ _ => (pd D_scaled_value (hr.mono (by decide)) (pa_cons (pv 7) (pa_cons (pv 1) (pa_cons (pv 2) pa_nil))))))
      (pss_cons (ps_setLc (i := 4) (own := [("value", 8)]) (g := gName 8) (by rfl) scVa.nd rfl rfl (sw_true rfl rfl rfl (by decide +kernel)) (pi_list (pv 3)) (blkOk_by (N := NVa) (sc := defScope sVa) (by decide +kernel)) (fun _ _ _ _ _ => pg_name (i := 8) scVa.nd rfl (Or.inl rfl)) (fun _ _ _ _ _ => (pts_one (pt_cmpR op_ne (pv 8) pe_int (nomark _)))) (fun _ _ _ _ _ => (pe_cmpR op_lt (pv 8) pe_int (nomark _))))
      (pss_cons (ps_set (i := 5) scVa.nd rfl (.inl rfl) pe_int)
      (pss_cons (ps_for PassesOwn.never rfl (pi_range2 (by rfl) T.range (pa_cons pe_int (pa_cons (pe_callB (call_lenK K) (by rfl) T.len (by decide +kernel) (pa_cons (pv 4) pa_nil)) pa_nil))) (pg_name (i := 6) scVa.nd rfl (.inl rfl)) (pss_one (ps_if (pt_cmpR op_ne (pe_ix (ix_listK K) (pv 4) (pv 6) (fun _ _ => rfl)) (pe_ix (ix_listK K) (pv 4) (pe_op op_sub (pv 6) pe_int) (fun _ _ => rfl)) (nomark _)) (pss_one (ps_aug (i := 5) scVa.nd rfl (.inl rfl) pe_int ip_add)) pss_nil)))
      (pss_one (ps_ret (pv 5))))))), ?_⟩
    refine ⟨_, rfl, a, rfl, ⟨_, SqL.of hA.lst⟩, fun D hD => lc_rel (fun i y => ∃ (v : Int) (p : List Int), y = .int v ∧ L[i]? = some p ∧ Kv.sg (v : Rat) = Kv.sg (Kv.ev (Kv.zr p) ((n : Rat) / (d : Rat)))) (SqL.of hA.lst) hD (by rw [List.length_map, hA.len]; have := cz.len; omega) (fun i x hx H' R s' r => ?_) fun ys ly hy => ?_⟩
    · obtain ⟨b, p, hb, hp, rfl, pb⟩ := hA.ofV hx
      obtain ⟨z1, z2⟩ := cz.at_ p (List.mem_of_getElem? hp)
      exact ⟨rfl, _, rfl, _, rfl, _, rfl, b, p, n, d, rfl, pb.1.same s', pl.pos, pl.n, pl.d, z1, z2, fun v hv => r _ ⟨v, p, rfl, hp, hv⟩⟩
    ·
      obtain ⟨vs, rfl⟩ : ∃ vs : List Int, ys = vs.map V.int := by
        refine ⟨ys.map fun y => match y with | .int v => v | _ => 0, ?_⟩
        rw [List.map_map]
        refine (Kv.map_self fun y hy' => ?_).symm
        obtain ⟨i, hi⟩ := List.getElem?_of_mem hy'
        obtain ⟨v, p, rfl, _⟩ := hy i y hi
        rfl
      rw [List.length_map, List.length_map, hA.len] at ly
      have key : Kv.V (L.map Kv.zr) ((n : Rat) / (d : Rat)) = (Kv.chg (Kv.bzl vs) : Int) := Kv.V_chg ly fun i v p h1 h2 => by
        obtain ⟨v', p', e1, e2, e3⟩ := hy i _ (li_at h1)
        have : v = v' := V.int.inj e1
        rw [this]
        rw [h2] at e2
        rw [Option.some.inj e2]
        exact e3
      rw [key] at k
      have s1 : Same H (upd H D (.lst (vs.map V.int))) := upd_new hD
      have hv : LI (upd H D (.lst (vs.map V.int))) D vs := upd_same
      have l7 := cz.len
      refine ⟨_, rfl, D, rfl, ⟨_, hv.sq⟩, fun B hB => lc_list (K := K) (a := D) (xs := vs.map V.int) (fun i H' => H' = upd (upd H D (.lst (vs.map V.int))) B (.lst ((Kv.bzl (vs.take i)).map V.bl))) rfl (fun i H' _ e => by rw [e]; exact (hv.same (upd_new hB)).sq) (fun i x H' hx e => ?_) (fun H' e => ?_)⟩
      · subst e
        obtain ⟨z, hz, rfl⟩ := li_get hx
        refine ⟨rfl, _, rfl, rfl, _, rfl, ?_⟩
        have st : Kv.bzl (vs.take (i + 1)) = Kv.bzl (vs.take i) ++ (if z = 0 then [] else [decide (z < 0)]) := by
          rw [take_more hz]
          unfold Kv.bzl
          rw [List.filter_append, List.map_append]
          by_cases q : z = 0
          · simp [q]
          · simp [q]
        by_cases q : z = 0
        · subst q
          refine iteF ?_
          rw [st]
          simp
        · have : (!decide (V.int z = V.int 0)) = true := by simp [q]
          rw [this]
          refine iteT ⟨_, rfl, _, _, rfl, rfl, _, upd_same, ?_, ?_⟩
          · rw [List.length_map]
            refine small_of (a := 7) ?_
            unfold Kv.bzl
            rw [List.length_map]
            exact Nat.le_trans (List.length_filter_le _ _) (by rw [List.length_take]; omega)
          · rw [upd_upd, st, if_neg q, List.map_append]
            rfl
      · subst e
        rw [List.length_map, List.take_length]
        have bl : (Kv.bzl vs).length ≤ 7 := by
          unfold Kv.bzl
          rw [List.length_map]
          exact Nat.le_trans (List.length_filter_le _ _) (by omega)
        have s2 : Same H (upd (upd H D (.lst (vs.map V.int))) B (.lst ((Kv.bzl vs).map V.bl))) := s1.trans (upd_new hB)
        generalize hH2 : upd (upd H D (.lst (vs.map V.int))) B (.lst ((Kv.bzl vs).map V.bl)) = H2 at s2
        have hb : H2 B = some (.lst ((Kv.bzl vs).map V.bl)) := by rw [← hH2]; exact upd_same
        have at_b : ∀ {i : Nat} {b : Bool}, (Kv.bzl vs)[i]? = some b → ((Kv.bzl vs).map V.bl)[i]? = some (V.bl b) := fun h => by rw [List.getElem?_map, h]; rfl
        refine ⟨_, rfl, B, _, rfl, ⟨_, .inl (SqL.of hb), List.length_map _⟩, _, _, rfl, ⟨by decide, by decide, by omega, by omega⟩, for_range (lo := 1) (n := (((Kv.bzl vs).length : Int) - 1).toNat) (fun i σ H' => H' = H2 ∧ ∃ v : Option V, σ = [some (.ref a), some (.int n), some (.int d), some (.ref D), some (.ref B), some (.int (Kv.chg ((Kv.bzl vs).take (i + 1)) : Nat)), v, none, none])
          ⟨rfl, none, by rw [Kv.chg_one]; rfl⟩ (fun i σ H' hi ⟨e, v, eσ⟩ => ?_) (fun σ H' ⟨e, v, eσ⟩ => ?_)⟩
        · subst e eσ
          have h1 : (Kv.bzl vs)[i]? = some ((Kv.bzl vs)[i]'(by omega)) := List.getElem?_eq_getElem _
          have h2 : (Kv.bzl vs)[i + 1]? = some ((Kv.bzl vs)[i + 1]'(by omega)) := List.getElem?_eq_getElem _
          generalize (Kv.bzl vs)[i]'(by omega) = b at h1
          generalize (Kv.bzl vs)[i + 1]'(by omega) = c at h2
          have st := Kv.chg_take h1 h2
          refine ⟨_, rfl, _, rfl, B, _, _, _, rfl, rfl, SqL.of hb, at_of (j := i + 1) (by omega) (at_b h2), _, rfl, _, rfl, _, _, rfl, rfl, B, _, _, _, rfl, rfl, SqL.of hb, at_of (j := i) (by omega) (at_b h1), rfl, _, rfl, ?_⟩
          by_cases q : b = c
          · subst q
            rw [decide_eq_true rfl]
            refine iteF ⟨rfl, some (.int (1 + i)), ?_⟩
            rw [st, if_pos rfl]
            rfl
          · rw [decide_eq_false (fun z => q (V.bl.inj z).symm)]
            refine iteT ⟨_, rfl, _, _, rfl, rfl, rfl, some (.int (1 + i)), ?_⟩
            rw [st, if_neg q]
            rfl
        · subst e eσ
          refine ⟨_, rfl, ?_⟩
          have : (Kv.bzl vs).take ((((Kv.bzl vs).length : Int) - 1).toNat + 1) = Kv.bzl vs := List.take_of_length_le (by omega)
          rw [this]
          exact k _ s2
end
end Il
namespace Il
open PySem PySem.Spec PyProof.Rows L2
def Still (H H' : Hp) : Prop := ∀ b o, (∀ C dx fs, o ≠ HO.ins C dx fs) → H b = some o → H' b = some o
theorem still_of {H H' : Hp} (s : Same H H') : Still H H' := fun b o _ e => s b o e
theorem still_upd {H : Hp} {a C dx : Addr} {fs : List (Str × V)} {o : HO} (h : H a = some (.ins C dx fs)) : Still H (upd H a o) := fun b u n e => by
  rw [upd_ne]
  · exact e
  · rintro rfl
    rw [h] at e
    exact n C dx fs (Option.some.inj e).symm
theorem Still.trans {H H' H'' : Hp} (a : Still H H') (b : Still H' H'') : Still H H'' := fun c o n e => b c o n (a c o n e)
def KeepsI {α : Type} (R : Hp → Addr → α → Prop) : Prop := ∀ H H' a x, Still H H' → R H a x → R H' a x
theorem li_still {H H' : Hp} {a : Addr} {p : List Int} (h : LI H a p) (s : Still H H') : LI H' a p := s _ _ (fun _ _ _ e => by cases e) h
theorem Po.keepsI : KeepsI Po := fun _ _ _ _ s h => ⟨li_still h.1 s, h.2⟩
theorem Ls.keepsI {α : Type} {R : Hp → Addr → α → Prop} (k : KeepsI R) : KeepsI (Ls R) := fun H H' a xs s ⟨as, h⟩ => ⟨as, s _ _ (fun _ _ _ e => by cases e) h.lst, h.len, fun i b x h1 h2 => k H H' b x s (h.at_ i b x h1 h2)⟩
theorem ch_keepsI : KeepsI Ch := Ls.keepsI Po.keepsI
theorem chs_keepsI : KeepsI Chs := Ls.keepsI ch_keepsI
theorem Csz.of {p : List Int} {L : List (List Int)} (h : Kv.ChOk p L) : Csz L := ⟨h.sz, h.len⟩
theorem plc_one {b : Int} (h : b.natAbs ≤ 2 ^ 1002) : Plc b 1 := ⟨by decide, Kv.pow_up h (by decide), by show 1 ≤ _; exact Nat.one_le_two_pow⟩
theorem plc_neg {n d : Int} (h : Plc n d) : Plc (-n) d := ⟨h.pos, by rw [Int.natAbs_neg]; exact h.n, h.d⟩
theorem div_one (b : Int) : (b : Rat) / ((1 : Int) : Rat) = (b : Rat) := by
  have : ((1 : Int) : Rat) = 1 := rfl
  rw [this]
  grind
section
variable {P : Program} {w : World} {K : PySem.W.Frag} {mg : Str → Option Value} {base : Heap}
abbrev sTv : Stmt := topS 20
abbrev NTv : List Str := ["chains", "numerator", "denominator", "chain"]
theorem scTv : FnScope NTv ["chains", "numerator", "denominator"] (defScope sTv) := ⟨rfl, rfl, rfl, by decide +kernel, rfl, by decide +kernel, by decide +kernel⟩
def spTv : Sp := fun vs H Q _ => ∃ (a : Addr) (Ls : List (List (List Int))) (n d : Int), vs = [.ref a, .int n, .int d] ∧ Chs H a Ls ∧ Plc n d ∧ (∀ L ∈ Ls, Csz L) ∧ Ls.length ≤ 100 ∧ GiveV H Q (.int (Kv.PV Ls ((n : Rat) / (d : Rat))))
theorem df_tv (F : Fx K mg "total_variations" sTv) (T : Nm mg) (D_variations : Df P w K mg base "variations" 2 ["chain", "numerator", "denominator"] spVa) : Df P w K mg base "total_variations" 3 ["chains", "numerator", "denominator"] spTv := by
  refine df_of F scTv (fun _ _ _ _ _ _ us hl => match us, hl with | [_, _, _], _ => rfl) (fun vs H Q E h => ?_) (fun f cdv A outer s H vs Q E hr h => ?_)
  · obtain ⟨a, Ls, n, d, rfl, _⟩ := h
    rfl
  · obtain ⟨a, Ls, n, d, rfl, ⟨as, hA⟩, pl, cz, ll, k⟩ := h
    refine ⟨_, (pss_one (ps_ret (pe_callB (cr_sum rfl) (by rfl) T.sum (by decide +kernel) (pa_cons (pe_lc (own := [("chain", 3)]) (g := gName 3) (by rfl) scTv.nd (pi_list (pv 0)) (blkOk_by (N := NTv) (sc := defScope sTv) (by decide +kernel)) (fun _ _ _ _ _ => pg_name (i := 3) scTv.nd rfl (Or.inl rfl)) (fun _ _ _ _ _ => pts_nil) (fun _ _ _ _ _ => (pd D_variations (hr.mono (by decide)) (pa_cons (pv 3) (pa_cons (pv 1) (pa_cons (pv 2) pa_nil)))))) pa_nil)))), ?_⟩
    refine ⟨_, rfl, a, rfl, ⟨_, SqL.of hA.lst⟩, fun D hD => lc_relS (fun i y => ∃ L, Ls[i]? = some L ∧ y = V.int (Kv.V (L.map Kv.zr) ((n : Rat) / (d : Rat)))) (SqL.of hA.lst) hD (by rw [List.length_map, hA.len]; omega) (fun i x hx H' R s' r => ?_) fun ys H' ly hy s' eD => ?_⟩
    · obtain ⟨b, L, hb, hL, rfl, pb⟩ := hA.ofV hx
      exact ⟨rfl, _, rfl, _, rfl, _, rfl, b, L, n, d, rfl, pb.same Po.keeps s', pl, cz L (List.mem_of_getElem? hL), fun H2 s2 => r _ H2 ⟨L, hL, rfl⟩ s2⟩
    · rw [List.length_map, hA.len] at ly
      have e := ys_map (f := fun L => V.int (Kv.V (L.map Kv.zr) ((n : Rat) / (d : Rat)))) ly fun i y x h1 h2 => by
        obtain ⟨L, e1, e2⟩ := hy i y h1
        rw [h2] at e1
        rw [Option.some.inj e1]
        exact e2
      have e2 : ys = (Ls.map fun L => Kv.V (L.map Kv.zr) ((n : Rat) / (d : Rat))).map V.int := by rw [e, List.map_map]; rfl
      refine ⟨D, _, rfl, SqL.of (by rw [eD, e2]), ?_⟩
      rw [Kv.sum_sum]
      exact k H' s'
abbrev sRb : Stmt := topS 21
abbrev NRb : List Str := ["polynomial", "greatest", "coefficient"]
theorem scRb : FnScope NRb ["polynomial"] (defScope sRb) := ⟨rfl, rfl, rfl, by decide +kernel, rfl, by decide +kernel, by decide +kernel⟩
def spRb : Sp := fun vs H Q _ => ∃ (a : Addr) (p : List Int), vs = [.ref a] ∧ LI H a p ∧ p ≠ [] ∧ Kv.Tr (Kv.zr p) ∧ p.length ≤ 7 ∧ Kv.Ht p 1000 ∧ ∀ b : Int, Kv.Far (Kv.zr p) (b : Rat) → b.natAbs ≤ 2 ^ 1002 → GiveV H Q (.int b)
theorem df_rb (F : Fx K mg "root_bound" sRb) (T : Nm mg) : Df P w K mg base "root_bound" 1 ["polynomial"] spRb := by
  refine df_of F scRb (fun _ _ _ _ _ _ us hl => match us, hl with | [_], _ => rfl) (fun vs H Q E h => ?_) (fun f cdv A outer s H vs Q E hr h => ?_)
  · obtain ⟨a, p, rfl, _⟩ := h
    rfl
  · obtain ⟨a, p, rfl, hp, ne, tp, lp, mp, k⟩ := h
    refine ⟨_, (pss_cons (ps_set (i := 1) scRb.nd rfl (.inl rfl) (pe_callB (cr_max rfl) (by rfl) T.max (by decide +kernel) (pa_cons (pe_lc (own := [("coefficient", 2)]) (g := gName 2) (by rfl) scRb.nd (pi_list (pv 0)) (blkOk_by (N := NRb) (sc := defScope sRb) (by decide +kernel)) (fun _ _ _ _ _ => pg_name (i := 2) scRb.nd rfl (Or.inl rfl)) (fun _ _ _ _ _ => pts_nil) (fun _ _ _ _ _ => (pe_callB call_abs (by rfl) T.abs (by decide +kernel) (pa_cons (pv 2) pa_nil)))) pa_nil)))
      (pss_one (ps_ret (pe_op op_add (pe_op op_fdivS (pv 1) (pe_callB call_abs (by rfl) T.abs (by decide +kernel) (pa_cons (pe_ix (ix_listK K) (pv 0) (pe_un un_neg pe_int) (fun _ _ => rfl)) pa_nil))) pe_int)))), ?_⟩
    refine ⟨_, rfl, a, rfl, ⟨_, hp.sq⟩, fun D hD => lc_pure ((p.map fun c => (c.natAbs : Int)).map V.int) (by simp) hp.sq hD (by simp; omega) (fun i x y hx hy H' R s' r => ?_) ?_⟩
    · obtain ⟨z, hz, rfl⟩ := li_get hx
      obtain ⟨u, hu, rfl⟩ := li_get hy
      rw [List.getElem?_map, hz] at hu
      obtain rfl : (z.natAbs : Int) = u := Option.some.inj hu
      rw [← abs_of] at r
      exact ⟨rfl, _, rfl, z, rfl, r⟩
    · have s1 : Same H (upd H D (.lst ((p.map fun c => (c.natAbs : Int)).map V.int))) := upd_new hD
      have hd : LI (upd H D (.lst ((p.map fun c => (c.natAbs : Int)).map V.int))) D (p.map fun c => (c.natAbs : Int)) := upd_same
      refine ⟨D, _, rfl, hd.sq, by rw [List.length_map]; exact List.length_pos_iff.mpr ne, fun m hm hle => ?_⟩
      have l0 := Kv.lc_ne tp ne
      refine ⟨_, rfl, _, rfl, 1, rfl, a, _, _, _, rfl, rfl, (hp.same s1).sq, li_last ne, Kv.lc p, rfl, ?_⟩
      rw [abs_of]
      have lpos : 0 < ((Kv.lc p).natAbs : Int) := by have := Int.natAbs_pos.mpr l0; omega
      refine ⟨m, _, rfl, rfl, divS_of (a := 1000) (by omega) (by rw [Int.natAbs_natCast]; exact mp _ (Kv.lc_mem ne)) (by decide), _, _, rfl, rfl, ?_⟩
      show Q (.int (m.fdiv ((Kv.lc p).natAbs : Int) + 2)) _
      rw [Int.fdiv_eq_ediv_of_nonneg _ (by omega)]
      have far := Kv.far_of_max (m := m) tp ne fun c hc => hle _ (List.mem_map.mpr ⟨c, hc, rfl⟩)
      refine k _ far ?_ _ s1
      obtain ⟨c, hc, rfl⟩ := List.mem_map.mp hm
      have h1 := mp c hc
      have h2 : ((c.natAbs : Int) / ((Kv.lc p).natAbs : Int)) = ((c.natAbs / (Kv.lc p).natAbs : Nat) : Int) := rfl
      have h3 := Nat.div_le_self c.natAbs (Kv.lc p).natAbs
      rw [h2]
      show (((c.natAbs / (Kv.lc p).natAbs : Nat) : Int) + 2).natAbs ≤ 2 ^ (1000 + 2)
      have h4 : 1 ≤ 2 ^ 1000 := Nat.one_le_two_pow
      have h5 : 2 ^ (1000 + 2) = 2 ^ 1000 * 4 := Nat.pow_add 2 1000 2
      rw [h5]
      have h6 := Nat.le_trans h3 h1
      clear h1 h2 h3 h5 far hle hm k
      generalize c.natAbs / (Kv.lc p).natAbs = y at h6 ⊢
      generalize 2 ^ 1000 = t at h4 h6 ⊢
      omega
abbrev sCi : Stmt := topS 22
abbrev NCi : List Str := ["chains", "span", "below"]
theorem scCi : FnScope NCi ["chains", "span"] (defScope sCi) := ⟨rfl, rfl, rfl, by decide +kernel, rfl, by decide +kernel, by decide +kernel⟩
def spCi (C : Addr) : Sp := fun vs H Q _ => ∃ (a b : Addr) (Ls : List (List (List Int))) (z : Sn), vs = [.ref a, .ref b] ∧ Chs H a Ls ∧ SnAt C H b z ∧ Plc z.low z.scale ∧ Plc z.high z.scale ∧ (∀ L ∈ Ls, Csz L) ∧ Ls.length ≤ 100 ∧
  GiveV H Q (.int (Kv.PV Ls ((z.low : Rat) / (z.scale : Rat)) - Kv.PV Ls ((z.high : Rat) / (z.scale : Rat))))
theorem df_ci {C : Addr} (F : Fx K mg "count_in_span" sCi) (S : SpanC K C) (D_total_variations : Df P w K mg base "total_variations" 3 ["chains", "numerator", "denominator"] spTv) : Df P w K mg base "count_in_span" 4 ["chains", "span"] (spCi C) := by
  refine df_of F scCi (fun _ _ _ _ _ _ us hl => match us, hl with | [_, _], _ => rfl) (fun vs H Q E h => ?_) (fun f cdv A outer s H vs Q E hr h => ?_)
  · obtain ⟨a, b, Ls, z, rfl, _⟩ := h
    rfl
  · obtain ⟨a, b, Ls, z, rfl, hA, ⟨dx, hz⟩, p1, p2, cz, ll, k⟩ := h
    refine ⟨_, (pss_cons (ps_set (i := 2) scCi.nd rfl (.inl rfl) (pd D_total_variations (hr.mono (by decide)) (pa_cons (pv 0) (pa_cons (pe_fldK K (pv 1)) (pa_cons (pe_fldK K (pv 1)) pa_nil)))))
      (pss_one (ps_ret (pe_op op_sub (pv 2) (pd D_total_variations (hr.mono (by decide)) (pa_cons (pv 0) (pa_cons (pe_fldK K (pv 1)) (pa_cons (pe_fldK K (pv 1)) pa_nil)))))))), ?_⟩
    refine ⟨_, rfl, _, rfl, b, C, dx, _, _, rfl, hz, S.cl, S.low, rfl, _, rfl, b, C, dx, _, _, rfl, hz, S.cl, S.scale, rfl, a, Ls, z.low, z.scale, rfl, hA, p1, cz, ll, fun H2 s2 => ?_⟩
    have hz2 := s2 _ _ hz
    refine ⟨_, rfl, _, rfl, _, rfl, b, C, dx, _, _, rfl, hz2, S.cl, S.high, rfl, _, rfl, b, C, dx, _, _, rfl, hz2, S.cl, S.scale, rfl, a, Ls, z.high, z.scale, rfl, Il.Ls.same (Il.Ls.keeps Po.keeps) hA s2, p2, cz, ll, fun H3 s3 => ?_⟩
    exact ⟨_, _, rfl, rfl, k H3 (s2.trans s3)⟩
structure CrC (K : PySem.W.Frag) (C : Addr) : Prop where
  cl : Cls K C
  chains : NoAttr K C "chains"
  bound : NoAttr K C "bound"
  at_bound : NoAttr K C "at_bound"
  total : NoAttr K C "total"
def crF (ch : Addr) (b ab t : Int) : List (Str × V) := [("chains", .ref ch), ("bound", .int b), ("at_bound", .int ab), ("total", .int t)]
def CrAt (C : Addr) (H : Hp) (a : Addr) (p0 : List Rat) : Prop := ∃ (dx ch : Addr) (Ls : List (List (List Int))) (b : Int), H a = some (.ins C dx (crF ch b (Kv.PV Ls (b : Rat)) (Kv.tot (Kqg1.layerChains p0)))) ∧ Chs H ch Ls ∧ Kv.FamOk p0 Ls ∧ (∀ L ∈ Ls, Csz L) ∧
  Kv.Tr p0 ∧ p0 ≠ [] ∧ Kv.Far p0 (b : Rat) ∧ b.natAbs ≤ 2 ^ 1002
theorem CrAt.keeps {C : Addr} : Keeps (CrAt C) := fun H H' a x s ⟨dx, ch, Ls, b, h1, h2, h3⟩ => ⟨dx, ch, Ls, b, s _ _ h1, chs_keeps _ _ _ _ s h2, h3⟩
theorem famok_csz {p0 : List Rat} {Ls : List (List (List Int))} (F : Kv.FamOk p0 Ls) : ∀ L ∈ Ls, Csz L := fun L hL => by
  obtain ⟨i, hi⟩ := List.getElem?_of_mem hL
  have il := (List.getElem?_eq_some_iff.mp hi).1
  have hS : (Kqg1.layerChains p0)[i]? = some ((Kqg1.layerChains p0)[i]'(by rw [← F.len]; exact il)) := List.getElem?_eq_getElem _
  exact .of (F.at_ i L _ hi hS).1
abbrev sCa : Stmt := inClass (topS 23) 1
abbrev NCa : List Str := ["self", "numerator", "denominator"]
theorem scCa : FnScope NCa ["self", "numerator", "denominator"] (defScope sCa) := ⟨rfl, rfl, rfl, by decide +kernel, rfl, by decide +kernel, by decide +kernel⟩
def spCa (C : Addr) : Sp := fun vs H Q _ => ∃ (a ch dx : Addr) (fs : List (Str × V)) (Ls : List (List (List Int))) (n d ab : Int), vs = [.ref a, .int n, .int d] ∧ H a = some (.ins C dx fs) ∧ fs.lookup ("chains" : Str) = some (.ref ch) ∧ fs.lookup ("at_bound" : Str) = some (.int ab) ∧
  Chs H ch Ls ∧ Plc n d ∧ (∀ L ∈ Ls, Csz L) ∧ Ls.length ≤ 100 ∧ GiveV H Q (.int (Kv.PV Ls ((n : Rat) / (d : Rat)) - ab))
theorem dm_ca {C : Addr} (T : CrC K C) (F : FxM K C "count_above" "CountedRoots.count_above" sCa) (D_total_variations : Df P w K mg base "total_variations" 3 ["chains", "numerator", "denominator"] spTv) :
    Dm P w K mg base C "count_above" 4 ["self", "numerator", "denominator"] (spCa C) := by
  refine dm_of T.cl F scCa (fun _ _ _ _ _ _ us hl => match us, hl with | [_, _, _], _ => rfl) (fun vs H Q E h => ?_) (fun f cdv A outer s H vs Q E hr h => ?_)
  · obtain ⟨a, ch, dx, fs, Ls, n, d, ab, rfl, _⟩ := h
    rfl
  · obtain ⟨a, ch, dx, fs, Ls, n, d, ab, rfl, ha, f1, f2, hC, pl, cz, ll, k⟩ := h
    refine ⟨_, (pss_one (ps_ret (pe_op op_sub (pd D_total_variations (hr.mono (by decide)) (pa_cons (pe_fldK K (pv 0)) (pa_cons (pv 1) (pa_cons (pv 2) pa_nil)))) (pe_fldK K (pv 0))))), ?_⟩
    refine ⟨_, rfl, a, C, dx, _, _, rfl, ha, T.cl, T.chains, f1, _, rfl, _, rfl, ch, Ls, n, d, rfl, hC, pl, cz, ll, fun H2 s2 => ?_⟩
    exact ⟨_, rfl, a, C, dx, _, _, rfl, s2 _ _ ha, T.cl, T.at_bound, f2, _, _, rfl, rfl, k H2 s2⟩
theorem ca_of {C : Addr} {H : Hp} {a : Addr} {p0 : List Rat} {n d : Int} {Q : VK} {E : XK} (h : CrAt C H a p0) (pl : Plc n d) (k : GiveV H Q (.int (Kv.tot (Kqg1.layerChains p0) - Kv.cu (Kqg1.layerChains p0) ((n : Rat) / (d : Rat))))) :
    spCa C [.ref a, .int n, .int d] H Q E := by
  obtain ⟨dx, ch, Ls, b, h1, h2, h3, h4, h5, h6, h7, h8⟩ := h
  rw [← h3.above h5 h6 h7] at k
  exact ⟨a, ch, dx, _, Ls, n, d, _, rfl, h1, rfl, rfl, h2, pl, h4, by have := h3.l7; omega, k⟩
abbrev sCrI : Stmt := inClass (topS 23) 0
abbrev NCrI : List Str := ["self", "polynomial"]
theorem scCrI : FnScope NCrI ["self", "polynomial"] (defScope sCrI) := ⟨rfl, rfl, rfl, by decide +kernel, rfl, by decide +kernel, by decide +kernel⟩
def spCrI (C : Addr) : Sp := fun vs H Q _ => ∃ (a b dx : Addr) (p : List Int) (p0 : List Rat), vs = [.ref a, .ref b] ∧ H a = some (.ins C dx []) ∧ LI H b p ∧ Pol p p0 ∧ ∀ H' : Hp, CrAt C H' a p0 → (∀ c o, H c = some o → c ≠ a → H' c = some o) → Q .non H'
theorem dk_cr {C : Addr} (T : CrC K C) (g : mg "CountedRoots" = some (.ref C)) (F : FxI K C "CountedRoots.__init__" sCrI) (D_layer_chains : Df P w K mg base "layer_chains" 38 ["polynomial"] spLy) (D_root_bound : Df P w K mg base "root_bound" 1 ["polynomial"] spRb)
    (D_total_variations : Df P w K mg base "total_variations" 3 ["chains", "numerator", "denominator"] spTv) (D_count_above : Dm P w K mg base C "count_above" 4 ["self", "numerator", "denominator"] (spCa C)) :
    Dk P w K mg base "CountedRoots" C 39 ["self", "polynomial"] (spCrI C) := by
  refine dk_of g F scCrI (fun _ _ _ _ _ _ us hl => match us, hl with | [_, _], _ => rfl) (fun vs H Q E h => ?_) (fun f cdv A outer s H vs Q E hr h => ?_)
  · obtain ⟨a, b, dx, p, p0, rfl, _⟩ := h
    rfl
  · obtain ⟨a, b, dx, p, p0, rfl, ha, hp, G, k⟩ := h
    refine ⟨_, (pss_cons (ps_fld (pv 0) (pd D_layer_chains (hr.mono (by decide)) (pa_cons (pv 1) pa_nil)) rfl)
      (pss_cons (ps_fld (pv 0) (pd D_root_bound (hr.mono (by decide)) (pa_cons (pv 1) pa_nil)) rfl)
      (pss_cons (ps_fld (pv 0) (pd D_total_variations (hr.mono (by decide)) (pa_cons (pe_fldK K (pv 0)) (pa_cons (pe_fldK K (pv 0)) (pa_cons pe_int pa_nil)))) rfl)
      (pss_one (ps_fld (pv 0) (pm D_count_above (hr.mono (by decide)) (pv 0) (pa_cons (pe_un un_neg (pe_fldK K (pv 0))) (pa_cons pe_int pa_nil))) rfl))))), ?_⟩
    refine ⟨_, rfl, b, p, p0, rfl, hp, G, fun Ls FO H1 ch s1 n1 hC => ?_⟩
    have ha1 := s1 _ _ ha
    refine ⟨_, rfl, a, C, dx, _, rfl, ha1, T.cl, T.chains, (by show 0 < 1000; decide), ?_⟩
    have st1 : Still H (upd H1 a (.ins C dx (putF "chains" (.ref ch) []))) := (still_of s1).trans (still_upd ha1)
    have hC1 := chs_keepsI _ _ _ _ (still_upd (o := .ins C dx (putF "chains" (.ref ch) [])) ha1) hC
    refine ⟨_, rfl, b, p, rfl, li_still hp st1, G.ne, G.tr, G.l7, Kv.ht_le G.ht (by decide), fun B far bb H2 s2 => ?_⟩
    have ha2 := s2 _ _ (upd_same (H := H1) (a := a) (o := .ins C dx (putF "chains" (.ref ch) [])))
    refine ⟨_, rfl, a, C, dx, _, rfl, ha2, T.cl, T.bound, (by show 1 < 1000; decide), ?_⟩
    have farp : Kv.Far p0 (B : Rat) := far.sim G.sim
    have cz := famok_csz FO
    have l7 := FO.l7
    have hC2 := chs_keepsI _ _ _ _ (still_upd (o := .ins C dx (putF "bound" (.int B) (putF "chains" (.ref ch) []))) ha2) (chs_keeps _ _ _ _ s2 hC1)
    refine ⟨_, rfl, a, C, dx, _, _, rfl, upd_same, T.cl, T.chains, rfl, _, rfl, a, C, dx, _, _, rfl, upd_same, T.cl, T.bound, rfl, ch, Ls, B, 1, rfl, hC2, plc_one bb, cz, by omega, fun H3 s3 => ?_⟩
    have ha3 := s3 _ _ (upd_same (H := H2) (a := a) (o := .ins C dx (putF "bound" (.int B) (putF "chains" (.ref ch) []))))
    rw [div_one]
    refine ⟨_, rfl, a, C, dx, _, rfl, ha3, T.cl, T.at_bound, (by show 2 < 1000; decide), ?_⟩
    have hC3 := chs_keepsI _ _ _ _ (still_upd (o := .ins C dx (putF "at_bound" (.int (Kv.PV Ls (B : Rat))) (putF "bound" (.int B) (putF "chains" (.ref ch) [])))) ha3) (chs_keeps _ _ _ _ s3 hC2)
    refine ⟨_, rfl, a, dx, _, rfl, upd_same, rfl, _, rfl, a, C, dx, _, _, rfl, upd_same, T.cl, T.bound, rfl, B, rfl, ?_⟩
    refine ⟨a, ch, dx, _, Ls, -B, 1, _, rfl, upd_same, rfl, rfl, hC3, plc_neg (plc_one bb), cz, by omega, fun H4 s4 => ?_⟩
    have ha4 := s4 _ _ (upd_same (H := H3) (a := a) (o := .ins C dx (putF "at_bound" (.int (Kv.PV Ls (B : Rat))) (putF "bound" (.int B) (putF "chains" (.ref ch) [])))))
    rw [div_one, Rat.intCast_neg, FO.total G.t0 G.n0 farp]
    refine ⟨_, rfl, a, C, dx, _, rfl, ha4, T.cl, T.total, (by show 3 < 1000; decide), ?_⟩
    have hC4 := chs_keepsI _ _ _ _ (still_upd (o := .ins C dx (crF ch B (Kv.PV Ls (B : Rat)) (Kv.tot (Kqg1.layerChains p0)))) ha4) (chs_keeps _ _ _ _ s4 hC3)
    refine k _ ⟨dx, ch, Ls, B, upd_same, hC4, FO, cz, G.t0, G.n0, farp, bb⟩ fun c o e hc => ?_
    have e1 := s1 _ _ e
    rw [upd_ne hc]
    refine s4 _ _ ?_
    rw [upd_ne hc]
    refine s3 _ _ ?_
    rw [upd_ne hc]
    refine s2 _ _ ?_
    rw [upd_ne hc]
    exact e1
end
end Il
namespace Kv
theorem count_zero {t : Rat} : ∀ {vs : List Int} {Ls : List (List (List Int))}, vs.length = Ls.length → (∀ (i : Nat) (v : Int) (L : List (List Int)), vs[i]? = some v → Ls[i]? = some L → sg (v : Rat) = sg (ev (zr (L.headD [])) t)) → ((vs.count 0 : Nat) : Int) = PZ Ls t
  | [], [], _, _ => rfl
  | v :: vs, L :: Ls, l, h => by
    have ih := count_zero (vs := vs) (Ls := Ls) (by simpa using l) fun i v' L' h1 h2 => h (i + 1) v' L' h1 h2
    have h0 := h 0 v L rfl rfl
    unfold PZ at ih ⊢
    rw [List.map_cons, sum_cons, ← ih, List.count_cons]
    obtain ⟨s1, s2, s3⟩ := sg_int v
    unfold z
    by_cases c : v = 0
    · subst c
      rw [s1 rfl] at h0
      have : ev (zr (L.headD [])) t = 0 := Classical.byContradiction fun k => sg_ne k h0.symm
      rw [if_pos this]
      simp
      omega
    · have : ev (zr (L.headD [])) t ≠ 0 := fun k => by
        rw [k, sg_zero] at h0
        rcases Int.lt_or_gt_of_ne c with q | q
        · rw [s2 q] at h0; omega
        · rw [s3 q] at h0; omega
      rw [if_neg this]
      simp [c]
end Kv
namespace Il
open PySem PySem.Spec PyProof.Rows L2
section
variable {P : Program} {w : World} {K : PySem.W.Frag} {mg : Str → Option Value} {base : Heap}
abbrev sCb : Stmt := inClass (topS 23) 2
abbrev NCb : List Str := ["self", "numerator", "denominator", "values", "chain"]
theorem scCb : FnScope NCb ["self", "numerator", "denominator"] (defScope sCb) := ⟨rfl, rfl, rfl, by decide +kernel, rfl, by decide +kernel, by decide +kernel⟩
def spCb (C : Addr) : Sp := fun vs H Q _ => ∃ (a : Addr) (p0 : List Rat) (n d : Int), vs = [.ref a, .int n, .int d] ∧ CrAt C H a p0 ∧ Plc n d ∧ GiveV H Q (.int (Kv.cb (Kqg1.layerChains p0) ((n : Rat) / (d : Rat))))
theorem dm_cb {C : Addr} (T : CrC K C) (F : FxM K C "count_below" "CountedRoots.count_below" sCb) (D_scaled_value : Df P w K mg base "scaled_value" 1 ["polynomial", "numerator", "denominator"] spSv)
    (D_count_above : Dm P w K mg base C "count_above" 4 ["self", "numerator", "denominator"] (spCa C)) :
    Dm P w K mg base C "count_below" 5 ["self", "numerator", "denominator"] (spCb C) := by
  refine dm_of T.cl F scCb (fun _ _ _ _ _ _ us hl => match us, hl with | [_, _, _], _ => rfl) (fun vs H Q E h => ?_) (fun f cdv A outer s H vs Q E hr h => ?_)
  · obtain ⟨a, p0, n, d, rfl, _⟩ := h
    rfl
  · obtain ⟨a, p0, n, d, rfl, ⟨dx, ch, Ls, b, h1, h2, h3, h4, h5, h6, h7, h8⟩, pl, k⟩ := h
    refine ⟨_, (pss_cons (ps_setLc (i := 3) (own := [("chain", 4)]) (g := gName 4) (by rfl) scCb.nd rfl rfl (sw_true rfl rfl rfl (by decide +kernel)) (pi_list (pe_fldK K (pv 0))) (blkOk_by (N := NCb) (sc := defScope sCb) (by decide +kernel)) (fun _ _ _ _ _ => pg_name (i := 4) scCb.nd rfl (Or.inl rfl)) (fun _ _ _ _ _ => pts_nil) (fun _ _ _ _ _ => (pd D_scaled_value (hr.mono (by decide)) (pa_cons (pe_ix (ix_listK K) (pv 4) pe_int (fun _ _ => rfl)) (pa_cons (pv 1) (pa_cons (pv 2) pa_nil))))))
      (pss_one (ps_ret (pe_op op_sub (pe_op op_sub (pe_fldK K (pv 0)) (pm D_count_above (hr.mono (by decide)) (pv 0) (pa_cons (pv 1) (pa_cons (pv 2) pa_nil)))) (pe_bm PySem.F.plainAttrs_list PySem.F.slot_list_count PySem.F.type_list_count mt_lcount (pv 3) (pa_cons pe_int pa_nil)))))), ?_⟩
    have l7 := h3.l7
    obtain ⟨as, hA⟩ := h2
    refine ⟨_, rfl, a, C, dx, _, _, rfl, h1, T.cl, T.chains, rfl, ch, rfl, ⟨_, SqL.of hA.lst⟩, fun D hD => lc_rel (fun i y => ∃ (v : Int) (L : List (List Int)), y = .int v ∧ Ls[i]? = some L ∧ Kv.sg (v : Rat) = Kv.sg (Kv.ev (Kv.zr (L.headD [])) ((n : Rat) / (d : Rat)))) (SqL.of hA.lst) hD (by rw [List.length_map, hA.len]; omega) (fun i x hx H' R s' r => ?_) fun ys ly hy => ?_⟩
    · obtain ⟨c, L, hc, hL, rfl, pc⟩ := hA.ofV hx
      have il := (List.getElem?_eq_some_iff.mp hL).1
      have hS : (Kqg1.layerChains p0)[i]? = some ((Kqg1.layerChains p0)[i]'(by rw [← h3.len]; exact il)) := List.getElem?_eq_getElem _
      obtain ⟨ok, _⟩ := h3.at_ i L _ hL hS
      obtain ⟨l, el⟩ := ok.hd
      obtain ⟨cs, pc⟩ := Il.Ls.same Po.keeps pc s'
      obtain ⟨e, he, pe⟩ := pc.get (i := 0) (x := L.headD []) (by rw [el]; rfl)
      obtain ⟨z1, z2⟩ := ok.sz (L.headD []) (by rw [el]; exact List.mem_cons_self)
      refine ⟨rfl, _, rfl, c, _, 0, _, rfl, rfl, SqL.of pc.lst, at_of (j := 0) rfl (ref_at he), _, rfl, _, rfl, e, L.headD [], n, d, rfl, pe.1, pl.pos, pl.n, pl.d, z1, z2, fun v hv => r _ ⟨v, L, rfl, hL, hv⟩⟩
    · obtain ⟨vs, rfl⟩ : ∃ vs : List Int, ys = vs.map V.int := by
        refine ⟨ys.map fun y => match y with | .int v => v | _ => 0, ?_⟩
        rw [List.map_map]
        refine (Kv.map_self fun y hy' => ?_).symm
        obtain ⟨i, hi⟩ := List.getElem?_of_mem hy'
        obtain ⟨v, p, rfl, _⟩ := hy i y hi
        rfl
      rw [List.length_map, List.length_map, hA.len] at ly
      have key := Kv.count_zero (t := (n : Rat) / (d : Rat)) ly fun i v L g1 g2 => by
        obtain ⟨v', L', e1, e2, e3⟩ := hy i _ (li_at g1)
        have : v = v' := V.int.inj e1
        rw [this]
        rw [g2] at e2
        rw [Option.some.inj e2]
        exact e3
      have s1 : Same H (upd H D (.lst (vs.map V.int))) := upd_new hD
      refine ⟨_, rfl, a, C, dx, _, _, rfl, s1 _ _ h1, T.cl, T.total, rfl, _, rfl, a, dx, _, rfl, s1 _ _ h1, rfl, _, rfl, _, rfl, ?_⟩
      refine ca_of (E := E0) (p0 := p0) (CrAt.keeps _ _ _ _ s1 ⟨dx, ch, Ls, b, h1, ⟨as, hA⟩, h3, h4, h5, h6, h7, h8⟩) pl fun H2 s2 => ?_
      have hv : LI H2 D vs := s2 _ _ upd_same
      refine ⟨_, _, rfl, rfl, _, rfl, .inl ⟨rfl, _, hv.sq⟩, D, vs, 0, rfl, rfl, hv.sq, _, _, rfl, rfl, ?_⟩
      show Q (.int (Kv.tot (Kqg1.layerChains p0) - (Kv.tot (Kqg1.layerChains p0) - Kv.cu (Kqg1.layerChains p0) ((n : Rat) / (d : Rat))) - ((vs.count 0 : Nat) : Int))) _
      rw [key]
      have e := h3.zero ((n : Rat) / (d : Rat))
      rw [show Kv.tot (Kqg1.layerChains p0) - (Kv.tot (Kqg1.layerChains p0) - Kv.cu (Kqg1.layerChains p0) ((n : Rat) / (d : Rat))) - Kv.PZ Ls ((n : Rat) / (d : Rat)) = Kv.cb (Kqg1.layerChains p0) ((n : Rat) / (d : Rat)) by omega]
      exact k H2 (s1.trans s2)
end
end Il
namespace Kv
theorem vr_bd : ∀ (l : List Int) (e : Int), vr e l ≤ l.length
  | [], _ => Nat.le_refl _
  | x :: l, e => by
    by_cases c : x = 0
    · rw [vr_z c]; have := vr_bd l e; simp; omega
    · rw [vr_n c]
      have := vr_bd l x
      rw [List.length_cons]
      split <;> omega
theorem V_bd (L : List (List Int)) (t : Rat) : 0 ≤ V (L.map zr) t ∧ V (L.map zr) t ≤ L.length := by
  unfold V
  have := vr_bd (sgs (L.map zr) t) 0
  have e : (sgs (L.map zr) t).length = L.length := by unfold sgs; simp
  omega
theorem SpOk.ge {W : Rat → Int} {B : Int} {z : Sp0} {e : Nat} (h : SpOk W B z e) (hB : 0 < B) : -(B : Rat) ≤ z.a ∧ -(B : Rat) ≤ z.b := by
  have p := pow2_rat e
  have k : -(B : Rat) ≤ z.a := by
    unfold Sp0.a
    refine mul_le_cancel p ?_
    rw [h.sc, Rat.mul_comm _ ((z.low : Rat) / _), div_mul_self (by grind), Rat.mul_comm]
    have := h.lo
    have : ((-(B * 2 ^ e) : Int) : Rat) ≤ ((z.low : Int) : Rat) := by exact_mod_cast this
    rw [Rat.intCast_neg, Rat.intCast_mul] at this
    grind
  have := h.lt hB
  exact ⟨k, by grind⟩
theorem B_pos {p q : List Rat} {L1 L2 Lg : List (List Int)} {B : Int} (J : JrOk p q L1 L2 Lg B) : 0 < B := by
  have b1 := J.ends.2.2
  have : ((0 : Int) : Rat) < (B : Rat) := by
    have z : ((0 : Int) : Rat) = 0 := rfl
    rw [z]; grind
  exact_mod_cast this
def wt (e : Nat) : Nat := 3 ^ (33773 - e)
theorem wt_pos (e : Nat) : 0 < wt e := Nat.pow_pos (by decide)
theorem wt_step {e : Nat} (h : e < 33771) : wt (e + 1) + wt (e + 1) < wt e := by
  unfold wt
  have : 33773 - e = (33773 - (e + 1)) + 1 := by omega
  rw [this, Nat.pow_succ]
  have : 0 < 3 ^ (33773 - (e + 1)) := Nat.pow_pos (by decide)
  generalize 3 ^ (33773 - (e + 1)) = t at this ⊢
  omega
def wts : List (Sp0 × Nat) → Nat
  | [] => 0
  | s :: r => wt s.2 + wts r
def Dp : List (Sp0 × Nat) → Prop
  | [] => True
  | s :: r => r.length ≤ s.2 ∧ Dp r
theorem pow2_le {B : Int} {e x : Nat} {l : Int} (hb : B.natAbs ≤ 2 ^ 1002) (he : e ≤ 33771) (h1 : -(B * 2 ^ e) ≤ l) (h2 : l ≤ B * 2 ^ e) : l.natAbs ≤ 2 ^ 34773 := by
  have k : (B * 2 ^ e).natAbs ≤ 2 ^ 34773 := by
    rw [Int.natAbs_mul]
    have e2 : ((2 : Int) ^ e).natAbs = 2 ^ e := by rw [Int.natAbs_pow]; rfl
    rw [e2]
    refine Nat.le_trans (Nat.mul_le_mul hb (Nat.pow_le_pow_right (by decide) he)) ?_
    rw [← Nat.pow_add]
    exact Nat.le_refl _
  generalize B * 2 ^ e = y at *
  generalize 2 ^ 34773 = t at *
  omega
end Kv
namespace Il
open PySem PySem.Spec PyProof.Rows L2
theorem dis_gcd {p : List Int} {p0 : List Rat} {s t g : List Int} (G : Pol p p0) (S : Dis s p0) (hg : Kv.Gcd (Kv.zr g) (Kv.zr s) (Kv.zr t)) (pg : Kv.Prim g) (tg : Kv.Tr (Kv.zr g)) (ng : g ≠ []) : g.length ≤ 7 ∧ Kv.Ht g 980 ∧ Kv.Sqf (Kv.zr g) := by
  have gl : g.length ≤ 7 := by
    have := (hg.l).len tg S.tr (fun z => S.ne (Kv.zr_nil_iff.mp z))
    have l := S.l7
    rw [Kv.zr_len, Kv.zr_len] at this
    omega
  have sf := Kv.sf_spec G.t0 G.n0
  have d : Kv.Dv (Kv.zr g) (Kv.zr p) := (hg.l.trans S.sim.symm.dv).trans (sf.dv.trans G.sim.dv)
  obtain ⟨w, hw⟩ := d
  obtain ⟨W, _, eW⟩ := Kv.whole_quotient pg hw
  refine ⟨gl, Kv.ht_le (Kv.factor_ht G.tr G.ne G.l7 gl G.ht (fun x => by rw [← eW]; exact hw x)) (by decide), ?_⟩
  obtain ⟨w, hw⟩ := hg.l
  exact (sf.sq.sim S.sim.symm).factor hw
structure Jt where
  p : List Rat
  q : List Rat
  L1 : List (List Int)
  L2 : List (List Int)
  Lg : List (List Int)
  B : Int
structure JtC (K : PySem.W.Frag) (C : Addr) : Prop where
  cl : Cls K C
  chains : NoAttr K C "chains"
  shared_chain : NoAttr K C "shared_chain"
  bound : NoAttr K C "bound"
def jtF (ch sh : Addr) (b : Int) : List (Str × V) := [("chains", .ref ch), ("shared_chain", .ref sh), ("bound", .int b)]
structure JtOk (j : Jt) : Prop where
  ok : Kv.JrOk j.p j.q j.L1 j.L2 j.Lg j.B
  z1 : Csz j.L1
  z2 : Csz j.L2
  zg : Csz j.Lg
  b : j.B.natAbs ≤ 2 ^ 1002
def JtAt (C : Addr) (H : Hp) (a : Addr) (j : Jt) : Prop := ∃ (dx ch sh : Addr), H a = some (.ins C dx (jtF ch sh j.B)) ∧ Chs H ch [j.L1, j.L2] ∧ Ch H sh j.Lg ∧ JtOk j
theorem JtAt.keeps {C : Addr} : Keeps (JtAt C) := fun H H' a x s ⟨dx, ch, sh, h1, h2, h3, h4⟩ => ⟨dx, ch, sh, s _ _ h1, chs_keeps _ _ _ _ s h2, Il.Ls.same Po.keeps h3 s, h4⟩
abbrev Jt.W (j : Jt) (t : Rat) : Int := Kv.JV j.L1 j.L2 j.Lg t
theorem jw_bd {j : Jt} (h : JtOk j) (t : Rat) : -7 ≤ j.W t ∧ j.W t ≤ 14 := by
  have a := Kv.V_bd j.L1 t
  have b := Kv.V_bd j.L2 t
  have c := Kv.V_bd j.Lg t
  have := h.z1.len
  have := h.z2.len
  have := h.zg.len
  show -7 ≤ Kv.V _ t + Kv.V _ t - Kv.V _ t ∧ Kv.V _ t + Kv.V _ t - Kv.V _ t ≤ 14
  omega
section
variable {P : Program} {w : World} {K : PySem.W.Frag} {mg : Str → Option Value} {base : Heap}
abbrev sJrI : Stmt := inClass (topS 24) 0
abbrev NJrI : List Str := ["self", "first", "second", "first_part", "second_part"]
theorem scJrI : FnScope NJrI ["self", "first", "second"] (defScope sJrI) := ⟨rfl, rfl, rfl, by decide +kernel, rfl, by decide +kernel, by decide +kernel⟩
def spJrI (C : Addr) : Sp := fun vs H Q _ => ∃ (a b c dx : Addr) (p q : List Int) (p0 q0 : List Rat), vs = [.ref a, .ref b, .ref c] ∧ H a = some (.ins C dx []) ∧ LI H b p ∧ LI H c q ∧ Pol p p0 ∧ Pol q q0 ∧
  ∀ (H' : Hp) (j : Jt), j.p = p0 → j.q = q0 → JtAt C H' a j → (∀ c o, H c = some o → c ≠ a → H' c = some o) → Q .non H'
theorem dk_jr {C : Addr} (T : JtC K C) (N : Nm mg) (g : mg "JointRoots" = some (.ref C)) (F : FxI K C "JointRoots.__init__" sJrI) (D_distinct_part : Df P w K mg base "distinct_part" 38 ["polynomial"] spDp) (D_root_bound : Df P w K mg base "root_bound" 1 ["polynomial"] spRb)
    (D_sturm_chain : Df P w K mg base "sturm_chain" 36 ["polynomial"] spSc) (D_common_divisor : Df P w K mg base "common_divisor" 36 ["first", "second"] spCd) :
    Dk P w K mg base "JointRoots" C 39 ["self", "first", "second"] (spJrI C) := by
  refine dk_of g F scJrI (fun _ _ _ _ _ _ us hl => match us, hl with | [_, _, _], _ => rfl) (fun vs H Q E h => ?_) (fun f cdv A outer s H vs Q E hr h => ?_)
  · obtain ⟨a, b, c, dx, p, q, p0, q0, rfl, _⟩ := h
    rfl
  · obtain ⟨a, b, c, dx, p, q, p0, q0, rfl, ha, hp, hq, G1, G2, k⟩ := h
    refine ⟨_, (pss_cons (ps_set (i := 3) scJrI.nd rfl (.inl rfl) (pd D_distinct_part (hr.mono (by decide)) (pa_cons (pv 1) pa_nil)))
      (pss_cons (ps_set (i := 4) scJrI.nd rfl (.inl rfl) (pd D_distinct_part (hr.mono (by decide)) (pa_cons (pv 2) pa_nil)))
      (pss_cons (ps_fld (pv 0) (pe_lst (pa_cons (pd D_sturm_chain (hr.mono (by decide)) (pa_cons (pv 3) pa_nil)) (pa_cons (pd D_sturm_chain (hr.mono (by decide)) (pa_cons (pv 4) pa_nil)) pa_nil))) rfl)
      (pss_cons (ps_fld (pv 0) (pd D_sturm_chain (hr.mono (by decide)) (pa_cons (pd D_common_divisor (hr.mono (by decide)) (pa_cons (pv 3) (pa_cons (pv 4) pa_nil))) pa_nil)) rfl)
      (pss_one (ps_fld (pv 0) (pe_callB (call_max2 rfl) (by rfl) N.max (by decide +kernel) (pa_cons (pd D_root_bound (hr.mono (by decide)) (pa_cons (pv 1) pa_nil)) (pa_cons (pd D_root_bound (hr.mono (by decide)) (pa_cons (pv 2) pa_nil)) pa_nil))) rfl)))))), ?_⟩
    refine ⟨_, rfl, b, p, p0, rfl, hp, G1, fun s S H1 sa s1 hs => ?_⟩
    refine ⟨_, rfl, c, q, q0, rfl, hq.same s1, G2, fun t T2 H2 tb s2 ht => ?_⟩
    have hs2 := hs.same s2
    have sqs : Kv.Sqf (Kv.zr s) := (Kv.sf_spec G1.t0 G1.n0).sq.sim S.sim.symm
    have sqt : Kv.Sqf (Kv.zr t) := (Kv.sf_spec G2.t0 G2.n0).sq.sim T2.sim.symm
    refine ⟨_, rfl, sa, s, rfl, hs2, S.ne, S.tr, S.l7, Kv.ht_le S.ht (by decide), sqs, fun L1 ok1 H3 ca s3 n3 h3 => ?_⟩
    refine ⟨_, rfl, tb, t, rfl, ht.same s3, T2.ne, T2.tr, T2.l7, Kv.ht_le T2.ht (by decide), sqt, fun L2 ok2 H4 cb s4 n4 h4 => ?_⟩
    refine ⟨(by show 2 ≤ sizeLine; decide), fun l hl => ?_⟩
    have s5 : Same H4 (upd H4 l (.lst [.ref ca, .ref cb])) := upd_new hl
    have ha5 := (s1.trans (s2.trans (s3.trans (s4.trans s5)))) _ _ ha
    have h3' := Il.Ls.same Po.keeps (Il.Ls.same Po.keeps h3 s4) s5
    have h4' := Il.Ls.same Po.keeps h4 s5
    have hC : Chs (upd H4 l (.lst [.ref ca, .ref cb])) l [L1, L2] := ⟨[ca, cb], upd_same, rfl, fun i b x e1 e2 => by
      match i, e1, e2 with
      | 0, e1, e2 => obtain rfl := Option.some.inj e1; obtain rfl := Option.some.inj e2; exact h3'
      | 1, e1, e2 => obtain rfl := Option.some.inj e1; obtain rfl := Option.some.inj e2; exact h4'⟩
    refine ⟨_, rfl, a, C, dx, _, rfl, ha5, T.cl, T.chains, (by show 0 < 1000; decide), ?_⟩
    generalize hH5 : upd H4 l (.lst [.ref ca, .ref cb]) = H5 at s5 ha5 hC
    have st5 : Still H2 (upd H5 a (.ins C dx (putF "chains" (.ref l) []))) := (still_of (s3.trans (s4.trans s5))).trans (still_upd ha5)
    have hC5 := chs_keepsI _ _ _ _ (still_upd (o := .ins C dx (putF "chains" (.ref l) [])) ha5) hC
    refine ⟨_, rfl, _, rfl, sa, tb, s, t, rfl, li_still hs2 st5, li_still ht st5, S.ne, S.tr, T2.tr, S.l7, T2.l7, Kv.ht_le S.ht (by decide), Kv.ht_le T2.ht (by decide), fun g hg pg tg ng H6 ga s6 h6 => ?_⟩
    obtain ⟨gl, gh, gs⟩ := dis_gcd G1 S hg pg tg ng
    refine ⟨ga, g, rfl, h6, ng, tg, gl, Kv.ht_le gh (by decide), gs, fun Lg okg H7 gc s7 n7 h7 => ?_⟩
    have ha7 := s7 _ _ (s6 _ _ (upd_same (H := H5) (a := a) (o := .ins C dx (putF "chains" (.ref l) []))))
    refine ⟨_, rfl, a, C, dx, _, rfl, ha7, T.cl, T.shared_chain, (by show 1 < 1000; decide), ?_⟩
    have hC7 := chs_keepsI _ _ _ _ (still_upd (o := .ins C dx (putF "shared_chain" (.ref gc) (putF "chains" (.ref l) []))) ha7) (chs_keeps _ _ _ _ (s6.trans s7) hC5)
    have hG7 := ch_keepsI _ _ _ _ (still_upd (o := .ins C dx (putF "shared_chain" (.ref gc) (putF "chains" (.ref l) []))) ha7) h7
    have st7 : Still H (upd H7 a (.ins C dx (putF "shared_chain" (.ref gc) (putF "chains" (.ref l) [])))) :=
      (still_of (s1.trans s2)).trans (st5.trans ((still_of (s6.trans s7)).trans (still_upd ha7)))
    refine ⟨_, rfl, b, p, rfl, li_still hp st7, G1.ne, G1.tr, G1.l7, Kv.ht_le G1.ht (by decide), fun B1 far1 bb1 H8 s8 => ?_⟩
    refine ⟨_, rfl, c, q, rfl, (li_still hq st7).same s8, G2.ne, G2.tr, G2.l7, Kv.ht_le G2.ht (by decide), fun B2 far2 bb2 H9 s9 => ?_⟩
    have ha9 := s9 _ _ (s8 _ _ (upd_same (H := H7) (a := a) (o := .ins C dx (putF "shared_chain" (.ref gc) (putF "chains" (.ref l) [])))))
    refine ⟨B1, B2, rfl, ?_⟩
    refine ⟨_, rfl, a, C, dx, _, rfl, ha9, T.cl, T.bound, (by show 2 < 1000; decide), ?_⟩
    generalize hB : (if B2 > B1 then B2 else B1) = B
    have hb : B.natAbs ≤ 2 ^ 1002 := by rw [← hB]; split; exact bb2; exact bb1
    have le1 : (B1 : Rat) ≤ (B : Rat) := by
      have : B1 ≤ B := by rw [← hB]; split <;> omega
      exact_mod_cast this
    have le2 : (B2 : Rat) ≤ (B : Rat) := by
      have : B2 ≤ B := by rw [← hB]; split <;> omega
      exact_mod_cast this
    have hC9 := chs_keepsI _ _ _ _ (still_upd (o := .ins C dx (jtF l gc B)) ha9) (chs_keeps _ _ _ _ (s8.trans s9) hC7)
    have hG9 := ch_keepsI _ _ _ _ (still_upd (o := .ins C dx (jtF l gc B)) ha9) (Il.Ls.same Po.keeps hG7 (s8.trans s9))
    have e1 : L1.headD [] = s := by obtain ⟨r, e⟩ := ok1.hd; rw [e]; rfl
    have e2 : L2.headD [] = t := by obtain ⟨r, e⟩ := ok2.hd; rw [e]; rfl
    have eg : Lg.headD [] = g := by obtain ⟨r, e⟩ := okg.hd; rw [e]; rfl
    refine k _ ⟨p0, q0, L1, L2, Lg, B⟩ rfl rfl ⟨dx, l, gc, upd_same, hC9, hG9, ⟨⟨G1.t0, G1.n0, G2.t0, G2.n0, by show Kv.ChOk (L1.headD []) L1; rw [e1]; exact ok1, by show Kv.ChOk (L2.headD []) L2; rw [e2]; exact ok2, by show Kv.ChOk (Lg.headD []) Lg; rw [eg]; exact okg,
      by show Kv.Sim _ (Kv.zr (L1.headD [])); rw [e1]; exact S.sim, by show Kv.Sim _ (Kv.zr (L2.headD [])); rw [e2]; exact T2.sim, by show Kv.Gcd (Kv.zr (Lg.headD [])) (Kv.zr (L1.headD [])) (Kv.zr (L2.headD [])); rw [e1, e2, eg]; exact hg, by show Kv.Tr (Kv.zr (Lg.headD [])); rw [eg]; exact tg,
      (far1.sim G1.sim).mono le1, (far2.sim G2.sim).mono le2⟩, .of ok1, .of ok2, .of okg, hb⟩⟩ fun x o e hx => ?_
    have e5 := s5 _ _ (s4 _ _ (s3 _ _ (s2 _ _ (s1 _ _ e))))
    rw [upd_ne hx]
    refine s9 _ _ (s8 _ _ ?_)
    rw [upd_ne hx]
    refine s7 _ _ (s6 _ _ ?_)
    rw [upd_ne hx]
    exact e5
end
end Il
namespace Il
open PySem PySem.Spec PyProof.Rows L2
def NewS {α : Type} (R : Hp → Addr → α → Prop) (H : Hp) (Q : VK) (x : α) : Prop := ∀ (H' : Hp) (a : Addr), Same H H' → H a = Option.none → R H' a x → Q (.ref a) H'
theorem SnAt.upd {C : Addr} {H : Hp} {a d : Addr} {z : Sn} {xs : List V} {o : HO} (h : SnAt C H a z) (hd : H d = some (.lst xs)) : SnAt C (upd H d o) a z := by
  obtain ⟨dx, h⟩ := h
  refine ⟨dx, ?_⟩
  rw [upd_ne]
  · exact h
  · rintro rfl
    rw [hd] at h
    cases h
abbrev Sns (C : Addr) := Ls (SnAt C)
theorem Sns.upd {C : Addr} {H : Hp} {a d : Addr} {zs : List Sn} {xs : List V} {o : HO} (h : Sns C H a zs) (hd : H d = some (.lst xs)) (n : a ≠ d) : Sns C (upd H d o) a zs := by
  obtain ⟨bs, h⟩ := h
  exact ⟨bs, by rw [upd_ne n]; exact h.lst, h.len, fun i b x h1 h2 => (h.at_ i b x h1 h2).upd hd⟩
section
variable {P : Program} {w : World} {K : PySem.W.Frag} {mg : Str → Option Value} {base : Heap}
theorem mk_span {Cs : Addr} {H : Hp} {z : Sn} {E : XK} {x dx : Addr} {Q : Hp → Prop} (hx : H x = Option.none) (hd : H dx = Option.none) (ne : dx ≠ x) (k : ∀ H' : Hp, Same H H' → SnAt Cs H' x z → Q H') :
    spSpI Cs [.ref x, .int z.low, .int z.high, .int z.scale, .int z.al, .int z.ah] (upd (upd H dx (.own x)) x (.ins Cs dx [])) (fun v H2 => v = V.non ∧ Q H2) E := by
  refine ⟨x, dx, z, rfl, upd_same, fun H' hz st => ⟨rfl, k H' (fun b o e => ?_) hz⟩⟩
  have n1 : b ≠ x := ne_of_none e hx
  have n2 : b ≠ dx := ne_of_none e hd
  refine st b o ?_ n1
  rw [upd_ne n1, upd_ne n2]
  exact e
abbrev sJv : Stmt := inClass (topS 24) 1
abbrev NJv : List Str := ["self", "numerator", "denominator", "counted"]
theorem scJv : FnScope NJv ["self", "numerator", "denominator"] (defScope sJv) := ⟨rfl, rfl, rfl, by decide +kernel, rfl, by decide +kernel, by decide +kernel⟩
def spJv (C : Addr) : Sp := fun vs H Q _ => ∃ (a : Addr) (j : Jt) (n d : Int), vs = [.ref a, .int n, .int d] ∧ JtAt C H a j ∧ Plc n d ∧ GiveV H Q (.int (j.W ((n : Rat) / (d : Rat))))
theorem dm_jv {C : Addr} (T : JtC K C) (F : FxM K C "joint_variations" "JointRoots.joint_variations" sJv) (D_total_variations : Df P w K mg base "total_variations" 3 ["chains", "numerator", "denominator"] spTv)
    (D_variations : Df P w K mg base "variations" 2 ["chain", "numerator", "denominator"] spVa) : Dm P w K mg base C "joint_variations" 4 ["self", "numerator", "denominator"] (spJv C) := by
  refine dm_of T.cl F scJv (fun _ _ _ _ _ _ us hl => match us, hl with | [_, _, _], _ => rfl) (fun vs H Q E h => ?_) (fun f cdv A outer s H vs Q E hr h => ?_)
  · obtain ⟨a, j, n, d, rfl, _⟩ := h
    rfl
  · obtain ⟨a, j, n, d, rfl, ⟨dx, ch, sh, h1, h2, h3, ok⟩, pl, k⟩ := h
    refine ⟨_, (pss_cons (ps_set (i := 3) scJv.nd rfl (.inl rfl) (pd D_total_variations (hr.mono (by decide)) (pa_cons (pe_fldK K (pv 0)) (pa_cons (pv 1) (pa_cons (pv 2) pa_nil)))))
      (pss_one (ps_ret (pe_op op_sub (pv 3) (pd D_variations (hr.mono (by decide)) (pa_cons (pe_fldK K (pv 0)) (pa_cons (pv 1) (pa_cons (pv 2) pa_nil)))))))), ?_⟩
    refine ⟨_, rfl, a, C, dx, _, _, rfl, h1, T.cl, T.chains, rfl, _, rfl, _, rfl, ch, _, n, d, rfl, h2, pl, fun L hL => ?_, (by show 2 ≤ 100; decide), fun H2 s2 => ?_⟩
    · rcases List.mem_cons.mp hL with e | e
      · rw [e]; exact ok.z1
      · rw [List.mem_singleton.mp e]; exact ok.z2
    · refine ⟨_, rfl, _, rfl, a, C, dx, _, _, rfl, s2 _ _ h1, T.cl, T.shared_chain, rfl, _, rfl, _, rfl, sh, j.Lg, n, d, rfl, Il.Ls.same Po.keeps h3 s2, pl, ok.zg, fun H3 s3 => ⟨_, _, rfl, rfl, ?_⟩⟩
      have e : Kv.PV [j.L1, j.L2] ((n : Rat) / (d : Rat)) - Kv.V (j.Lg.map Kv.zr) ((n : Rat) / (d : Rat)) = j.W ((n : Rat) / (d : Rat)) := by
        show Kv.sum [_, _] - _ = Kv.V _ _ + Kv.V _ _ - Kv.V _ _
        rw [Kv.sum_cons, Kv.sum_cons]
        show Kv.V (j.L1.map Kv.zr) _ + (Kv.V (j.L2.map Kv.zr) _ + 0) - _ = _
        omega
      show Q (.int (Kv.PV [j.L1, j.L2] ((n : Rat) / (d : Rat)) - Kv.V (j.Lg.map Kv.zr) ((n : Rat) / (d : Rat)))) H3
      rw [e]
      exact k H3 (s2.trans s3)
abbrev sWs : Stmt := inClass (topS 24) 2
abbrev NWs : List Str := ["self", "at_low", "at_high"]
theorem scWs : FnScope NWs ["self"] (defScope sWs) := ⟨rfl, rfl, rfl, by decide +kernel, rfl, by decide +kernel, by decide +kernel⟩
def Jt.whole (j : Jt) : Sn := ⟨-j.B, j.B, 1, j.W (-(j.B : Rat)), j.W (j.B : Rat)⟩
def spWs (C Cs : Addr) : Sp := fun vs H Q _ => ∃ (a : Addr) (j : Jt), vs = [.ref a] ∧ JtAt C H a j ∧ NewS (SnAt Cs) H Q j.whole
theorem dm_ws {C Cs : Addr} (T : JtC K C) (F : FxM K C "whole_span" "JointRoots.whole_span" sWs) (D_joint_variations : Dm P w K mg base C "joint_variations" 4 ["self", "numerator", "denominator"] (spJv C))
    (D_Span : Dk P w K mg base "Span" Cs 1 ["self", "low", "high", "scale", "at_low", "at_high"] (spSpI Cs)) : Dm P w K mg base C "whole_span" 5 ["self"] (spWs C Cs) := by
  refine dm_of T.cl F scWs (fun _ _ _ _ _ _ us hl => match us, hl with | [_], _ => rfl) (fun vs H Q E h => ?_) (fun f cdv A outer s H vs Q E hr h => ?_)
  · obtain ⟨a, j, rfl, _⟩ := h
    rfl
  · obtain ⟨a, j, rfl, hj, k⟩ := h
    refine ⟨_, (pss_cons (ps_set (i := 1) scWs.nd rfl (.inl rfl) (pm D_joint_variations (hr.mono (by decide)) (pv 0) (pa_cons (pe_un un_neg (pe_fldK K (pv 0))) (pa_cons pe_int pa_nil))))
      (pss_cons (ps_set (i := 2) scWs.nd rfl (.inl rfl) (pm D_joint_variations (hr.mono (by decide)) (pv 0) (pa_cons (pe_fldK K (pv 0)) (pa_cons pe_int pa_nil))))
      (pss_one (ps_ret (pmk D_Span (hr.mono (by decide)) (pa_cons (pe_un un_neg (pe_fldK K (pv 0))) (pa_cons (pe_fldK K (pv 0)) (pa_cons pe_int (pa_cons (pv 1) (pa_cons (pv 2) pa_nil)))))))))), ?_⟩
    obtain ⟨dx, ch, sh, h1, h2, h3, ok⟩ := id hj
    refine ⟨_, rfl, a, dx, _, rfl, h1, rfl, _, rfl, a, C, dx, _, _, rfl, h1, T.cl, T.bound, rfl, j.B, rfl, a, j, -j.B, 1, rfl, hj, plc_neg (plc_one ok.b), fun H2 s2 => ?_⟩
    have h12 := s2 _ _ h1
    refine ⟨_, rfl, a, dx, _, rfl, h12, rfl, _, rfl, a, C, dx, _, _, rfl, h12, T.cl, T.bound, rfl, a, j, j.B, 1, rfl, JtAt.keeps _ _ _ _ s2 hj, plc_one ok.b, fun H3 s3 => ?_⟩
    have h13 := s3 _ _ h12
    refine ⟨_, rfl, a, C, dx, _, _, rfl, h13, T.cl, T.bound, rfl, j.B, rfl, _, rfl, a, C, dx, _, _, rfl, h13, T.cl, T.bound, rfl, _, rfl, _, rfl, fun x dx' hx hd ne => ?_⟩
    refine mk_span (z := ⟨-j.B, j.B, 1, j.W (((-j.B : Int) : Rat) / ((1 : Int) : Rat)), j.W ((j.B : Rat) / ((1 : Int) : Rat))⟩) hx hd ne fun H' s' hz => ?_
    rw [div_one, div_one, Rat.intCast_neg] at hz
    exact k H' x ((s2.trans s3).trans s') ((s2.trans s3).free hx) hz
abbrev sHv : Stmt := inClass (topS 24) 3
abbrev NHv : List Str := ["self", "span", "middle", "scale", "at_middle", "lower", "upper"]
theorem scHv : FnScope NHv ["self", "span"] (defScope sHv) := ⟨rfl, rfl, rfl, by decide +kernel, rfl, by decide +kernel, by decide +kernel⟩
def spHv (C Cs : Addr) : Sp := fun vs H Q _ => ∃ (a b : Addr) (j : Jt) (z : Sn), vs = [.ref a, .ref b] ∧ JtAt C H a j ∧ SnAt Cs H b z ∧ 0 < z.scale ∧ z.low.natAbs ≤ 2 ^ 34773 ∧ z.high.natAbs ≤ 2 ^ 34773 ∧ z.scale.natAbs ≤ 2 ^ 34773 ∧
  New (SnAt Cs |> Ls) H Q [z.upper (j.W z.mid), z.lower (j.W z.mid)]
theorem dm_hv {C Cs : Addr} (T : JtC K C) (S : SpanC K Cs) (F : FxM K C "halves" "JointRoots.halves" sHv) (D_joint_variations : Dm P w K mg base C "joint_variations" 4 ["self", "numerator", "denominator"] (spJv C))
    (D_Span : Dk P w K mg base "Span" Cs 1 ["self", "low", "high", "scale", "at_low", "at_high"] (spSpI Cs)) : Dm P w K mg base C "halves" 5 ["self", "span"] (spHv C Cs) := by
  refine dm_of T.cl F scHv (fun _ _ _ _ _ _ us hl => match us, hl with | [_, _], _ => rfl) (fun vs H Q E h => ?_) (fun f cdv A outer s H vs Q E hr h => ?_)
  · obtain ⟨a, b, j, z, rfl, _⟩ := h
    rfl
  · obtain ⟨a, b, j, z, rfl, hj, hz, z0, z1, z2, z3, k⟩ := h
    refine ⟨_, (pss_cons (ps_set (i := 2) scHv.nd rfl (.inl rfl) (pe_op op_add (pe_fldK K (pv 1)) (pe_fldK K (pv 1))))
      (pss_cons (ps_set (i := 3) scHv.nd rfl (.inl rfl) (pe_op op_mulX pe_int (pe_fldK K (pv 1))))
      (pss_cons (ps_set (i := 4) scHv.nd rfl (.inl rfl) (pm D_joint_variations (hr.mono (by decide)) (pv 0) (pa_cons (pv 2) (pa_cons (pv 3) pa_nil))))
      (pss_cons (ps_set (i := 5) scHv.nd rfl (.inl rfl) (pmk D_Span (hr.mono (by decide)) (pa_cons (pe_op op_mulX pe_int (pe_fldK K (pv 1))) (pa_cons (pv 2) (pa_cons (pv 3) (pa_cons (pe_fldK K (pv 1)) (pa_cons (pv 4) pa_nil)))))))
      (pss_cons (ps_set (i := 6) scHv.nd rfl (.inl rfl) (pmk D_Span (hr.mono (by decide)) (pa_cons (pv 2) (pa_cons (pe_op op_mulX pe_int (pe_fldK K (pv 1))) (pa_cons (pv 3) (pa_cons (pv 4) (pa_cons (pe_fldK K (pv 1)) pa_nil)))))))
      (pss_one (ps_ret (pe_lst (pa_cons (pv 6) (pa_cons (pv 5) pa_nil)))))))))), ?_⟩
    obtain ⟨dx, ch, sh, h1, h2, h3, ok⟩ := id hj
    obtain ⟨dz, hz1⟩ := id hz
    have m2 : (2 : Int).natAbs ≤ 2 ^ 1 := by decide
    refine ⟨_, rfl, b, Cs, dz, _, _, rfl, hz1, S.cl, S.low, rfl, _, rfl, b, Cs, dz, _, _, rfl, hz1, S.cl, S.high, rfl, _, _, rfl, rfl, ?_⟩
    refine ⟨_, rfl, b, Cs, dz, _, _, rfl, hz1, S.cl, S.scale, rfl, _, _, rfl, rfl, mulX_of m2 z3 (by decide), ?_⟩
    have pl : Plc (z.low + z.high) (2 * z.scale) := by
      refine ⟨by omega, ?_, ?_⟩
      · refine Nat.le_trans (?_ : _ ≤ 2 ^ 34774) (Nat.pow_le_pow_right (by decide) (by decide))
        rw [show 34774 = 34773 + 1 from rfl, Nat.pow_succ]
        generalize 2 ^ 34773 = t at z1 z2 ⊢
        omega
      · refine Nat.le_trans (?_ : _ ≤ 2 ^ 34774) (Nat.pow_le_pow_right (by decide) (by decide))
        rw [show 34774 = 34773 + 1 from rfl, Nat.pow_succ]
        generalize 2 ^ 34773 = t at z3 ⊢
        omega
    refine ⟨_, rfl, a, dx, _, rfl, h1, rfl, _, rfl, _, rfl, a, j, _, _, rfl, hj, pl, fun H2 s2 => ?_⟩
    have g2 := s2 _ _ hz1
    refine ⟨_, rfl, b, Cs, dz, _, _, rfl, g2, S.cl, S.low, rfl, _, _, rfl, rfl, mulX_of m2 z1 (by decide), _, rfl, _, rfl, _, rfl, b, Cs, dz, _, _, rfl, g2, S.cl, S.at_low, rfl, _, rfl, fun x dx1 hx hd1 ne1 => ?_⟩
    refine mk_span (z := z.lower (j.W z.mid)) hx hd1 ne1 fun H3 s3 hx3 => ?_
    have g3 := s3 _ _ g2
    refine ⟨_, rfl, _, rfl, b, Cs, dz, _, _, rfl, g3, S.cl, S.high, rfl, _, _, rfl, rfl, mulX_of m2 z2 (by decide), _, rfl, _, rfl, _, rfl, b, Cs, dz, _, _, rfl, g3, S.cl, S.at_high, rfl, fun y dy hy hdy ney => ?_⟩
    refine mk_span (z := z.upper (j.W z.mid)) hy hdy ney fun H4 s4 hy4 => ?_
    refine ⟨_, rfl, _, rfl, (by show 2 ≤ sizeLine; decide), fun l hl => ?_⟩
    have s5 := upd_new (o := .lst [.ref y, .ref x]) hl
    have sA := s2.trans (s3.trans s4)
    refine k _ l (sA.trans s5) (sA.free hl) ⟨[y, x], upd_same, rfl, fun i c u e1 e2 => ?_⟩
    match i, e1, e2 with
    | 0, e1, e2 => obtain rfl := Option.some.inj e1; obtain rfl := Option.some.inj e2; exact SnAt.keeps _ _ _ _ s5 hy4
    | 1, e1, e2 => obtain rfl := Option.some.inj e1; obtain rfl := Option.some.inj e2; exact SnAt.keeps _ _ _ _ (s4.trans s5) hx3
end
end Il
namespace Il
open PySem PySem.Spec PyProof.Rows L2
structure SpI (j : Jt) (fs : List Sn) (st : List (Sn × Nat)) : Prop where
  ok : ∀ s ∈ st, Kv.SpOk j.W j.B s.1 s.2 ∧ s.2 ≤ 33771
  dp : Kv.Dp st
  cov : Kv.Cov j.W (j.W (-(j.B : Rat))) (j.W (-(j.B : Rat)) - j.W (j.B : Rat)) (fs.length : Int) (st.map (·.1))
  fd : ∀ (i : Nat) (z : Sn), fs[i]? = some z → j.W (-(j.B : Rat)) - j.W z.a = i ∧ j.W (-(j.B : Rat)) - j.W z.b = i + 1 ∧ -(j.B : Rat) ≤ z.a ∧ -(j.B : Rat) ≤ z.b
  sz : ∀ z ∈ fs, Plc z.low z.scale ∧ Plc z.high z.scale
theorem SpI.start {j : Jt} (J : JtOk j) : SpI j [] [(j.whole, 0)] := by
  have e0 : j.whole.a = -(j.B : Rat) := by
    show ((-j.B : Int) : Rat) / ((1 : Int) : Rat) = _
    rw [div_one, Rat.intCast_neg]
  have e1 : j.whole.b = (j.B : Rat) := div_one j.B
  refine ⟨fun s hs => ?_, ⟨Nat.le_refl _, trivial⟩, ?_, fun i z h => by simp at h, fun z h => by simp at h⟩
  · rw [List.mem_singleton.mp hs]
    refine ⟨⟨rfl, ?_, ?_, ?_, ?_, ?_⟩, Nat.zero_le _⟩
    · show j.B - -j.B = 2 * j.B
      omega
    · show -(j.B * 2 ^ 0) ≤ -j.B
      rw [Int.pow_zero]; omega
    · show j.B ≤ j.B * 2 ^ 0
      rw [Int.pow_zero]; omega
    · show j.W _ = j.W j.whole.a
      rw [e0]
    · show j.W _ = j.W j.whole.b
      rw [e1]
  · refine ⟨?_, ?_⟩
    · show _ - j.W j.whole.a = ((0 : Nat) : Int)
      rw [e0]; omega
    · show _ - j.W j.whole.b = _
      rw [e1]
theorem SpI.plc {j : Jt} (J : JtOk j) {z : Sn} {e : Nat} (h : Kv.SpOk j.W j.B z e) (he : e ≤ 33771) : 0 < z.scale ∧ z.low.natAbs ≤ 2 ^ 34773 ∧ z.high.natAbs ≤ 2 ^ 34773 ∧ z.scale.natAbs ≤ 2 ^ 34773 := by
  have hB := Kv.B_pos J.ok
  have w := h.wid
  have l := h.lo
  have u := h.hi
  refine ⟨?_, Kv.pow2_le (x := 0) J.b he l (by omega), Kv.pow2_le (x := 0) J.b he (by omega) u, ?_⟩
  · rw [h.sc]; exact Int.pow_pos (by decide)
  · rw [h.sc, Int.natAbs_pow]
    exact Nat.pow_le_pow_right (by decide) (by omega)
theorem plc_of {n d : Int} (d0 : 0 < d) (h1 : n.natAbs ≤ 2 ^ 34773) (h2 : d.natAbs ≤ 2 ^ 34773) : Plc n d :=
  ⟨d0, Nat.le_trans h1 (Nat.pow_le_pow_right (by decide) (by decide)), Nat.le_trans h2 (Nat.pow_le_pow_right (by decide) (by decide))⟩
theorem SpI.none {j : Jt} (J : JtOk j) {fs : List Sn} {s : Sn × Nat} {st : List (Sn × Nat)} (I : SpI j fs (s :: st)) (c : s.1.al - s.1.ah = 0) : SpI j fs st := by
  obtain ⟨h, he⟩ := I.ok s List.mem_cons_self
  have c1 : j.W (-(j.B : Rat)) - j.W s.1.a = fs.length := I.cov.1
  have c2 := I.cov.2
  refine ⟨fun t ht => I.ok t (List.mem_cons_of_mem _ ht), I.dp.2, ?_, I.fd, I.sz⟩
  rw [h.al, h.ah] at c
  have : j.W (-(j.B : Rat)) - j.W s.1.b = fs.length := by omega
  rw [this] at c2
  exact c2
theorem SpI.one {j : Jt} (J : JtOk j) {fs : List Sn} {s : Sn × Nat} {st : List (Sn × Nat)} (I : SpI j fs (s :: st)) (c : s.1.al - s.1.ah = 1) : SpI j (fs ++ [s.1]) st := by
  obtain ⟨h, he⟩ := I.ok s List.mem_cons_self
  have c1 : j.W (-(j.B : Rat)) - j.W s.1.a = fs.length := I.cov.1
  have c2 := I.cov.2
  rw [h.al, h.ah] at c
  have b : j.W (-(j.B : Rat)) - j.W s.1.b = ((fs ++ [s.1]).length : Nat) := by rw [List.length_append, List.length_singleton]; omega
  refine ⟨fun t ht => I.ok t (List.mem_cons_of_mem _ ht), I.dp.2, ?_, fun i z hz => ?_, fun z hz => ?_⟩
  · rw [b] at c2
    exact c2
  · by_cases q : i < fs.length
    · rw [List.getElem?_append_left q] at hz
      exact I.fd i z hz
    · have l1 := (List.getElem?_eq_some_iff.mp hz).1
      rw [List.length_append, List.length_singleton] at l1
      have ej : i = fs.length := by omega
      subst ej
      rw [List.getElem?_append_right (Nat.le_refl _), Nat.sub_self] at hz
      have e1 : s.1 = z := Option.some.inj hz
      subst e1
      have g := h.ge (Kv.B_pos J.ok)
      exact ⟨c1, by omega, g.1, g.2⟩
  · rcases List.mem_append.mp hz with e | e
    · exact I.sz z e
    · rw [List.mem_singleton.mp e]
      obtain ⟨p0, p1, p2, p3⟩ := SpI.plc J h he
      exact ⟨plc_of p0 p1 p3, plc_of p0 p2 p3⟩
theorem SpI.more {j : Jt} (J : JtOk j) (sp : Kv.Sm j.p) (sq : Kv.Sm j.q) {fs : List Sn} {s : Sn × Nat} {st : List (Sn × Nat)} (I : SpI j fs (s :: st)) (c : 1 < s.1.al - s.1.ah) :
    SpI j fs ((s.1.lower (j.W s.1.mid), s.2 + 1) :: (s.1.upper (j.W s.1.mid), s.2 + 1) :: st) ∧ s.2 < 33771 := by
  obtain ⟨h, he⟩ := I.ok s List.mem_cons_self
  have hB := Kv.B_pos J.ok
  have lt := Kv.depth_bound J.ok sp sq J.b h c
  have cv := I.cov
  obtain ⟨d1, d2⟩ := I.dp
  refine ⟨⟨fun t ht => ?_, ⟨by show st.length + 1 ≤ _; omega, by show st.length ≤ _; omega, d2⟩, Kv.Cov.split h hB cv, I.fd, I.sz⟩, lt⟩
  rcases List.mem_cons.mp ht with e | ht
  · rw [e]; exact ⟨(h.low' hB).1, by show s.2 + 1 ≤ _; omega⟩
  · rcases List.mem_cons.mp ht with e | ht
    · rw [e]; exact ⟨(h.up' hB).1, by show s.2 + 1 ≤ _; omega⟩
    · exact I.ok t (List.mem_cons_of_mem _ ht)
theorem SpI.nn {j : Jt} (J : JtOk j) {fs : List Sn} {s : Sn × Nat} {st : List (Sn × Nat)} (I : SpI j fs (s :: st)) : 0 ≤ s.1.al - s.1.ah := by
  obtain ⟨h, he⟩ := I.ok s List.mem_cons_self
  have lt := h.lt (Kv.B_pos J.ok)
  have d := J.ok.diff lt
  have m := Kv.cuJ_mono J.ok.tp J.ok.np J.ok.tq J.ok.nq (show s.1.a ≤ s.1.b by grind)
  rw [h.al, h.ah]
  show 0 ≤ Kv.JV _ _ _ _ - Kv.JV _ _ _ _
  omega
theorem SpI.len {j : Jt} (J : JtOk j) {fs : List Sn} {st : List (Sn × Nat)} (I : SpI j fs st) : fs.length ≤ 21 := by
  have a := jw_bd J (-(j.B : Rat))
  have c := I.cov
  cases st with
  | nil =>
    have b := jw_bd J (j.B : Rat)
    have c : (fs.length : Int) = j.W (-(j.B : Rat)) - j.W (j.B : Rat) := c
    omega
  | cons s st =>
    have b := jw_bd J s.1.a
    have c : j.W (-(j.B : Rat)) - j.W s.1.a = fs.length := c.1
    omega
theorem SpI.slen {j : Jt} {fs : List Sn} {st : List (Sn × Nat)} (I : SpI j fs st) : st.length ≤ 33772 := by
  cases st with
  | nil => exact Nat.zero_le _
  | cons s st =>
    have a := I.dp.1
    have b := (I.ok s List.mem_cons_self).2
    rw [List.length_cons]
    omega
structure Spans (p q : List Rat) (zs : List Sn) : Prop where
  sz : ∀ z ∈ zs, Plc z.low z.scale ∧ Plc z.high z.scale
  lt : ∀ z ∈ zs, z.a < z.b
  len : zs.length ≤ 21
  eq : Kqg2.jointMultiplicities p q = zs.map fun z => ((Kv.cu (Kqg1.layerChains p) z.b - Kv.cu (Kqg1.layerChains p) z.a).toNat, (Kv.cu (Kqg1.layerChains q) z.b - Kv.cu (Kqg1.layerChains q) z.a).toNat)
theorem SpI.fin {j : Jt} (J : JtOk j) (sp : Kv.Sm j.p) (sq : Kv.Sm j.q) {fs : List Sn} (I : SpI j fs []) : Spans j.p j.q fs := by
  have hn : (fs.length : Int) = j.W (-(j.B : Rat)) - j.W (j.B : Rat) := I.cov
  refine ⟨I.sz, fun z hz => ?_, I.len J, Kv.joint_found J.ok sp sq rfl hn I.fd⟩
  obtain ⟨i, hi⟩ := List.getElem?_of_mem hz
  obtain ⟨f1, f2, f3, f4⟩ := I.fd i z hi
  refine Classical.byContradiction fun c => ?_
  have m : z.b ≤ z.a := by grind
  by_cases e : z.b = z.a
  · rw [e] at f2; omega
  · have d := J.ok.diff (show z.b < z.a by grind)
    have mo := Kv.cuJ_mono J.ok.tp J.ok.np J.ok.tq J.ok.nq m
    have f1' : j.W (-(j.B : Rat)) - Kv.JV j.L1 j.L2 j.Lg z.a = i := f1
    have f2' : j.W (-(j.B : Rat)) - Kv.JV j.L1 j.L2 j.Lg z.b = i + 1 := f2
    omega
section
variable {P : Program} {w : World} {K : PySem.W.Frag} {mg : Str → Option Value} {base : Heap}
abbrev sSs : Stmt := inClass (topS 24) 4
abbrev NSs : List Str := ["self", "found", "pending", "span"]
theorem scSs : FnScope NSs ["self"] (defScope sSs) := ⟨rfl, rfl, rfl, by decide +kernel, rfl, by decide +kernel, by decide +kernel⟩
def spSs (C Cs : Addr) : Sp := fun vs H Q _ => ∃ (a : Addr) (j : Jt), vs = [.ref a] ∧ JtAt C H a j ∧ Kv.Sm j.p ∧ Kv.Sm j.q ∧ ∀ zs, Spans j.p j.q zs → New (Sns Cs) H Q zs
theorem dm_ss {C Cs : Addr} (T : JtC K C) (N : Nm mg) (S : SpanC K Cs) (F : FxM K C "single_spans" "JointRoots.single_spans" sSs) (D_whole_span : Dm P w K mg base C "whole_span" 5 ["self"] (spWs C Cs))
    (D_halves : Dm P w K mg base C "halves" 5 ["self", "span"] (spHv C Cs)) (D_root_count : Dm P w K mg base Cs "root_count" 1 ["self"] (spSpC Cs)) : Dm P w K mg base C "single_spans" 6 ["self"] (spSs C Cs) := by
  refine dm_of T.cl F scSs (fun _ _ _ _ _ _ us hl => match us, hl with | [_], _ => rfl) (fun vs H Q E h => ?_) (fun f cdv A outer s H vs Q E hr h => ?_)
  · obtain ⟨a, j, rfl, _⟩ := h
    rfl
  · obtain ⟨a, j, rfl, hj, sp, sq, k⟩ := h
    refine ⟨_, (pss_cons (ps_set (i := 1) scSs.nd rfl (.inl rfl) (pe_lst pa_nil))
      (pss_cons (ps_set (i := 2) scSs.nd rfl (.inl rfl) (pe_lst (pa_cons (pm0 D_whole_span (hr.mono (by decide)) (pv 0)) pa_nil)))
      (pss_cons (ps_while PassesOwn.never (pt_cmpR op_gt (pe_callB (call_lenK K) (by rfl) N.len (by decide +kernel) (pa_cons (pv 2) pa_nil)) pe_int (nomark _)) (pss_cons (ps_set (i := 3) scSs.nd rfl (.inl rfl) (pe_bm0 PySem.F.plainAttrs_list PySem.F.slot_list_pop PySem.F.type_list_pop mt_pop (pv 2)))
      (pss_cons (ps_if (pt_cmpR op_eq (pm0 D_root_count (hr.mono (by decide)) (pv 3)) pe_int (nomark _)) (pss_one (ps_expr (pe_bm PySem.F.plainAttrs_list PySem.F.slot_list_append PySem.F.type_list_append mt_append (pv 1) (pa_cons (pv 3) pa_nil)))) pss_nil)
      (pss_one (ps_if (pt_cmpR op_gt (pm0 D_root_count (hr.mono (by decide)) (pv 3)) pe_int (nomark _)) (pss_one (ps_expr (pe_bm PySem.F.plainAttrs_list PySem.F.slot_list_extend PySem.F.type_list_extend mt_extend (pv 2) (pa_cons (pm D_halves (hr.mono (by decide)) (pv 0) (pa_cons (pv 3) pa_nil)) pa_nil)))) pss_nil)))))
      (pss_one (ps_ret (pv 1)))))), ?_⟩
    obtain ⟨dx, ch, sh, h1, h2, h3, ok⟩ := id hj
    refine ⟨Nat.zero_le _, fun d hd => ?_⟩
    have s1 : Same H (upd H d (.lst [])) := upd_new hd
    refine ⟨_, rfl, a, dx, _, rfl, s1 _ _ h1, rfl, a, j, rfl, JtAt.keeps _ _ _ _ s1 hj, fun H2 za s2 n2 hz => ?_⟩
    refine ⟨(by show 1 ≤ sizeLine; decide), fun pd hpd => ?_⟩
    have hd2 := s2 _ _ (upd_same (H := H) (a := d) (o := .lst []))
    have ndp : d ≠ pd := fun e => by rw [← e, hd2] at hpd; cases hpd
    have s3 := upd_new (o := .lst [.ref za]) hpd
    have hp0 : H pd = Option.none := (s1.trans s2).free hpd
    refine ⟨fun m σ H' => ∃ (v : Option V) (fs : List Sn) (st : List (Sn × Nat)), σ = [some (.ref a), some (.ref d), some (.ref pd), v] ∧ m = Kv.wts st ∧ Same H H' ∧ Sns Cs H' d fs ∧ Sns Cs H' pd (st.map (·.1)).reverse ∧ SpI j fs st,
      ⟨_, Option.none, [], [(j.whole, 0)], rfl, rfl, s1.trans (s2.trans s3), ⟨[], s3 _ _ hd2, rfl, fun i b x h => by simp at h⟩, ⟨[za], upd_same, rfl, fun i b x e1 e2 => ?_⟩, .start ok⟩, ?_⟩
    · match i, e1, e2 with
      | 0, e1, e2 => obtain rfl := Option.some.inj e1; obtain rfl := Option.some.inj e2; exact SnAt.keeps _ _ _ _ s3 hz
    · rintro m σ H3 ⟨v, fs, st, rfl, rfl, s4, hfs, hps, I⟩
      refine ⟨_, rfl, pd, _, rfl, hps.len, _, _, rfl, rfl, _, rfl, ?_⟩
      rw [List.length_reverse, List.length_map]
      cases st with
      | nil =>
        exact iteF ⟨_, rfl, k fs (I.fin ok sp sq) H3 d s4 hd hfs⟩
      | cons s st =>
        rw [decide_eq_true (show (0 : Int) < ((s :: st).length : Int) by simp)]
        refine iteT ⟨fun σ' H' => ∃ m', m' < Kv.wts (s :: st) ∧ ∃ (v : Option V) (fs : List Sn) (st : List (Sn × Nat)), σ' = [some (.ref a), some (.ref d), some (.ref pd), v] ∧ m' = Kv.wts st ∧ Same H H' ∧ Sns Cs H' d fs ∧ Sns Cs H' pd (st.map (·.1)).reverse ∧ SpI j fs st, fun σ' H' h => h, ?_⟩
        obtain ⟨ps, hP⟩ := hps
        have lenP : ps.length = st.length + 1 := by rw [hP.len]; simp
        have hlast : ((s :: st).map (·.1)).reverse[st.length]? = some s.1 := by
          rw [List.map_cons, List.reverse_cons, List.getElem?_append_right (by simp)]
          simp
        obtain ⟨b, hb, pb⟩ := hP.get hlast
        have slen := I.slen
        have hl4 : (ps.map V.ref)[(ps.map V.ref).length - 1]? = some (.ref b) := by
          rw [List.length_map, lenP]
          exact ref_at hb
        refine ⟨_, rfl, .inl ⟨rfl, _, SqL.of hP.lst⟩, pd, _, _, rfl, rfl, hP.lst, hl4, ?_⟩
        have eP : (ps.map V.ref).dropLast = (ps.dropLast).map V.ref := List.map_dropLast.symm
        rw [eP]
        generalize hH4 : upd H3 pd (.lst (ps.dropLast.map V.ref)) = H4
        have s5 : Same H H4 := by rw [← hH4]; exact same_own s4 hp0
        have hf4 : Sns Cs H4 d fs := by rw [← hH4]; exact hfs.upd hP.lst ndp
        have hp4 : Sns Cs H4 pd (st.map (·.1)).reverse := by
          rw [← hH4]
          refine ⟨ps.dropLast, upd_same, by rw [List.length_dropLast, lenP]; simp, fun i c z e1 e2 => ?_⟩
          have i1 := (List.getElem?_eq_some_iff.mp e1).1
          rw [List.length_dropLast, lenP] at i1
          refine (hP.at_ i c z ?_ ?_).upd hP.lst
          · rw [List.getElem?_dropLast, if_pos (by omega)] at e1
            exact e1
          · rw [List.map_cons, List.reverse_cons, List.getElem?_append_left (by simp; omega)]
            exact e2
        have hb4 : SnAt Cs H4 b s.1 := by rw [← hH4]; exact pb.upd hP.lst
        obtain ⟨db, hb4'⟩ := id hb4
        have nn := I.nn ok
        have lf := I.len ok
        have wp := Kv.wt_pos s.2
        refine ⟨_, rfl, b, db, _, rfl, hb4', rfl, b, s.1, rfl, hb4, rfl, _, rfl, ?_⟩
        by_cases c1 : s.1.al - s.1.ah = 1
        · rw [decide_eq_true (show V.int (s.1.al - s.1.ah) = V.int 1 by rw [c1])]
          refine iteT ?_
          obtain ⟨as, hA⟩ := hf4
          refine ⟨_, rfl, .inl ⟨rfl, _, SqL.of hA.lst⟩, _, rfl, d, _, _, rfl, rfl, hA.lst, ?_, ?_⟩
          · rw [List.length_map, hA.len]
            exact small_of (show _ ≤ 21 by omega)
          · have hb5 := SnAt.upd (o := .lst (as.map V.ref ++ [.ref b])) hb4 hA.lst
            obtain ⟨db5, hb5'⟩ := id hb5
            refine ⟨_, rfl, b, db5, _, rfl, hb5', rfl, b, s.1, rfl, hb5, _, _, rfl, rfl, _, rfl, ?_⟩
            rw [decide_eq_false (show ¬ (1 : Int) < s.1.al - s.1.ah by omega)]
            refine iteF ⟨_, ?_, some (.ref b), fs ++ [s.1], st, rfl, rfl, same_own s5 hd, ⟨_, hA.snoc (fun i c y e1 e2 => (hA.at_ i c y e1 e2).upd hA.lst) hb5⟩, hp4.upd hA.lst (Ne.symm ndp), I.one ok c1⟩
            show _ < Kv.wt s.2 + Kv.wts st
            omega
        · rw [decide_eq_false (show ¬ V.int (s.1.al - s.1.ah) = V.int 1 from fun e => c1 (V.int.inj e))]
          refine iteF ?_
          refine ⟨_, rfl, b, db, _, rfl, hb4', rfl, b, s.1, rfl, hb4, _, _, rfl, rfl, _, rfl, ?_⟩
          by_cases c2 : 1 < s.1.al - s.1.ah
          · rw [decide_eq_true c2]
            refine iteT ?_
            obtain ⟨hsp, he⟩ := I.ok s List.mem_cons_self
            obtain ⟨p0, p1, p2, p3⟩ := SpI.plc ok hsp he
            obtain ⟨I2, lt⟩ := I.more ok sp sq c2
            obtain ⟨qs, hQ⟩ := id hp4
            refine ⟨_, rfl, .inl ⟨rfl, _, SqL.of hQ.lst⟩, _, rfl, a, dx, _, rfl, s5 _ _ h1, rfl, _, rfl, a, b, j, s.1, rfl, JtAt.keeps _ _ _ _ s5 hj, hb4, p0, p1, p2, p3, fun H5 hh s6 nh hhs => ?_⟩
            obtain ⟨hs, hS⟩ := hhs
            have hQ5 := s6 _ _ hQ.lst
            have ql := hQ.len
            have hl := hS.len
            rw [List.length_reverse, List.length_map] at ql
            refine ⟨pd, hh, _, _, rfl, rfl, hQ5, hS.lst, ?_, ?_⟩
            · rw [List.length_map, List.length_map, ql, hl]
              have : st.length + 1 ≤ 33772 := slen
              show st.length + 2 ≤ 16777216
              omega
            · refine ⟨_, ?_, some (.ref b), fs, _, rfl, rfl, same_own (s5.trans s6) hp0, Sns.upd (Il.Ls.same SnAt.keeps hf4 s6) hQ5 ndp, ⟨qs ++ hs, by rw [upd_same, List.map_append], by rw [List.length_append, ql, hl]; simp, fun i c z e1 e2 => ?_⟩, I2⟩
              · show Kv.wt (s.2 + 1) + (Kv.wt (s.2 + 1) + Kv.wts st) < Kv.wt s.2 + Kv.wts st
                have := Kv.wt_step lt
                omega
              · rw [List.map_cons, List.map_cons, List.reverse_cons, List.reverse_cons, List.append_assoc] at e2
                by_cases q : i < qs.length
                · rw [List.getElem?_append_left q] at e1
                  rw [List.getElem?_append_left (by simp; omega)] at e2
                  exact (SnAt.keeps _ _ _ _ s6 (hQ.at_ i c z e1 e2)).upd hQ5
                · rw [List.getElem?_append_right (by omega)] at e1
                  rw [List.getElem?_append_right (by simp; omega)] at e2
                  have el : (st.map (·.1)).reverse.length = qs.length := by rw [List.length_reverse, List.length_map, ql]
                  rw [el] at e2
                  exact (hS.at_ _ c z e1 e2).upd hQ5
          · rw [decide_eq_false c2]
            refine iteF ⟨_, ?_, some (.ref b), fs, st, rfl, rfl, s5, hf4, hp4, I.none ok (by omega)⟩
            show _ < Kv.wt s.2 + Kv.wts st
            omega
end
end Il
namespace Kv
theorem cu_mono {f : List Rat} (tf : Tr f) (nf : f ≠ []) {s t : Rat} (h : s ≤ t) : cu (Kqg1.layerChains f) s ≤ cu (Kqg1.layerChains f) t := by
  obtain ⟨fm, _⟩ := fam_layers tf nf
  by_cases c : s = t
  · rw [c]; exact Int.le_refl _
  · exact sum_map_le fun l hl => by have := (fm l hl).cnt.mono (show s < t by grind); omega
end Kv
namespace Il
open PySem PySem.Spec PyProof.Rows L2
def Apart {α : Type} (R : Hp → Addr → α → Prop) : Prop := ∀ (H : Hp) (d : Addr) (as : List Addr) (o : HO) (a : Addr) (x : α), H d = some (.lst (as.map V.ref)) → a ≠ d → R H a x → R (upd H d o) a x
theorem lc_news {α : Type} {Ra : Hp → Addr → α → Prop} (kp : Keeps Ra) (ap : Apart Ra) {K : PySem.W.Frag} {a : Addr} {xs : List V} {g : TG} {te : TE} {vs : List Nat} {σ : L2.St} {H1 : Hp} {D : Addr} {Qd : Hp → Prop} (R : Nat → α → Prop) (hS : SqL K H1 a xs) (hD : H1 D = Option.none) (sz : xs.length ≤ 10000)
    (hs : ∀ (i : Nat) (x : V), xs[i]? = some x → ∀ (H : Hp) (Rk : VK), Same H1 H → (∀ (z : α) (b : Addr) (H' : Hp), R i z → Same H H' → H b = Option.none → Ra H' b z → Rk (.ref b) H') → g x (wipe σ vs) H fun σ2 H2 => wipe σ2 vs = wipe σ vs ∧ te σ2 H2 Rk)
    (hd : ∀ (zs : List α) (H : Hp), zs.length = xs.length → (∀ (i : Nat) (z : α), zs[i]? = some z → R i z) → Same H1 H → Ls Ra H D zs → Qd H) :
    ∃ W : Nat → Nat → Hp → Prop, (∃ m, W 0 m (upd H1 D (.lst []))) ∧ ∀ i m H, W i m H →
      ((Itl K a).stop i H ∧ Qd H) ∨ ((Itl K a).go i H ∧ ∃ Nx : Hp → Prop, (∀ H', Nx H' → ∃ m', m' < m ∧ W (i + 1) m' H') ∧ ∀ x H', (Itl K a).yld i H x H' → g x (wipe σ vs) H' fun σ2 H2 => wipe σ2 vs = wipe σ vs ∧ tYes σ2 H2 fun b H3 =>
        if b = true then te σ2 H3 fun y H4 => ∃ acc, H4 D = some (.lst acc) ∧ acc.length < sizeLine ∧ Nx (upd H4 D (.lst (acc ++ [y]))) else Nx H3) := by
  refine lc_list (K := K) (a := a) (xs := xs) (fun i H => Same H1 H ∧ ∃ (cs : List Addr) (zs : List α), LsAt Ra H D zs cs ∧ (∀ c ∈ cs, c ≠ D) ∧ zs.length = i ∧ ∀ (j : Nat) (z : α), zs[j]? = some z → R j z)
    ⟨upd_new hD, [], [], ⟨upd_same, rfl, fun i b x h => by simp at h⟩, by simp, rfl, fun j z h => by simp at h⟩ (fun i H _ e => e.1.seq hS) (fun i x H hx ⟨s2, cs, zs, hC, nD, li, hj⟩ => ?_) (fun H ⟨s2, cs, zs, hC, nD, li, hj⟩ => hd zs H li hj s2 ⟨cs, hC⟩)
  have hi := (List.getElem?_eq_some_iff.mp hx).1
  refine hs i x hx _ _ s2 fun z b H3 hz s3 n3 h3 => ?_
  have hD3 := s3 _ _ hC.lst
  have bD : b ≠ D := fun e => by rw [e, hC.lst] at n3; cases n3
  refine ⟨_, hD3, ?_, same_own (s2.trans s3) hD, cs ++ [b], zs ++ [z], ?_, fun e he => ?_, by rw [List.length_append, li]; rfl, fun j u hu => ?_⟩
  · rw [List.length_map, hC.len, li]
    exact small_of (show i ≤ 10000 by omega)
  · exact LsAt.snoc (R := Ra) (H := H3) ⟨hD3, hC.len, fun i b x h1 h2 => kp _ _ _ _ s3 (hC.at_ i b x h1 h2)⟩ (fun j e y h1 h2 => ap _ _ _ _ _ _ hD3 (nD e (List.mem_of_getElem? h1)) (kp _ _ _ _ s3 (hC.at_ j e y h1 h2))) (ap _ _ _ _ _ _ hD3 bD h3)
  · rcases List.mem_append.mp he with q | q
    · exact nD e q
    · rw [List.mem_singleton.mp q]
      exact bD
  · by_cases q : j < zs.length
    · rw [List.getElem?_append_left q] at hu
      exact hj j u hu
    · have l1 := (List.getElem?_eq_some_iff.mp hu).1
      rw [List.length_append, List.length_singleton] at l1
      have ej : j = zs.length := by omega
      subst ej
      rw [List.getElem?_append_right (Nat.le_refl _), Nat.sub_self] at hu
      have e1 : z = u := Option.some.inj hu
      rw [← e1, li]
      exact hz
theorem zs_map {α β : Type} {f : α → β} {xs : List α} {ys : List β} (l : ys.length = xs.length) (h : ∀ (i : Nat) (y : β) (x : α), ys[i]? = some y → xs[i]? = some x → y = f x) : ys = xs.map f := by
  refine List.ext_getElem? fun i => ?_
  rw [List.getElem?_map]
  cases e : xs[i]? with
  | none =>
    rw [List.getElem?_eq_none_iff] at e
    rw [List.getElem?_eq_none_iff.mpr (by omega)]; rfl
  | some x =>
    have il := (List.getElem?_eq_some_iff.mp e).1
    have ey : ys[i]? = some (ys[i]'(by omega)) := List.getElem?_eq_getElem _
    rw [ey]
    exact congrArg some (h i _ x ey e)
def PrAt (H : Hp) (a : Addr) (x : Nat × Nat) : Prop := H a = some (.tup [.int (x.1 : Int), .int (x.2 : Int)])
theorem PrAt.keeps : Keeps PrAt := fun _ _ _ _ s h => s _ _ h
theorem PrAt.apart : Apart PrAt := fun H d as o a x hd n h => by show upd H d o a = _; rw [upd_ne n]; exact h
abbrev Prs := Ls PrAt
section
variable {P : Program} {w : World} {K : PySem.W.Frag} {mg : Str → Option Value} {base : Heap}
abbrev sJp : Stmt := topS 25
abbrev NJp : List Str := ["first", "second", "first_chains", "second_chains", "spans", "span"]
theorem scJp : FnScope NJp ["first", "second"] (defScope sJp) := ⟨rfl, rfl, rfl, by decide +kernel, rfl, by decide +kernel, by decide +kernel⟩
def spJp : Sp := fun vs H Q _ => ∃ (a b : Addr) (p q : List Int) (p0 q0 : List Rat), vs = [.ref a, .ref b] ∧ LI H a p ∧ LI H b q ∧ Pol p p0 ∧ Pol q q0 ∧ Kv.Sm p0 ∧ Kv.Sm q0 ∧
  ((Kqg2.jointMultiplicities p0 q0).length ≤ 21 → New Prs H Q (Kqg2.jointMultiplicities p0 q0))
theorem df_jp {C Cs : Addr} (F : Fx K mg "joint_pairs" sJp) (D_layer_chains : Df P w K mg base "layer_chains" 38 ["polynomial"] spLy) (D_JointRoots : Dk P w K mg base "JointRoots" C 39 ["self", "first", "second"] (spJrI C))
    (D_single_spans : Dm P w K mg base C "single_spans" 6 ["self"] (spSs C Cs)) (D_count_in_span : Df P w K mg base "count_in_span" 4 ["chains", "span"] (spCi Cs)) : Df P w K mg base "joint_pairs" 41 ["first", "second"] spJp := by
  refine df_of F scJp (fun _ _ _ _ _ _ us hl => match us, hl with | [_, _], _ => rfl) (fun vs H Q E h => ?_) (fun f cdv A outer s H vs Q E hr h => ?_)
  · obtain ⟨a, b, p, q, p0, q0, rfl, _⟩ := h
    rfl
  · obtain ⟨a, b, p, q, p0, q0, rfl, hp, hq, G1, G2, sp, sq, k⟩ := h
    refine ⟨_, (pss_cons (ps_set (i := 2) scJp.nd rfl (.inr rfl) (pd D_layer_chains (hr.mono (by decide)) (pa_cons (pv 0) pa_nil)))
      (pss_cons (ps_set (i := 3) scJp.nd rfl (.inr rfl) (pd D_layer_chains (hr.mono (by decide)) (pa_cons (pv 1) pa_nil)))
      (pss_cons (ps_set (i := 4) scJp.nd rfl (.inl rfl) (pm0 D_single_spans (hr.mono (by decide)) (pmk D_JointRoots (hr.mono (by decide)) (pa_cons (pv 0) (pa_cons (pv 1) pa_nil)))))
      (pss_one (ps_ret (pe_lc (own := [("span", 5)]) (g := gName 5) (by rfl) scJp.nd (pi_list (pv 4)) (blkOk_by (N := NJp) (sc := defScope sJp) (by decide +kernel)) (fun _ _ _ _ _ => pg_name (i := 5) scJp.nd rfl (Or.inl rfl)) (fun _ _ _ _ _ => pts_nil) (fun _ _ _ _ _ => (pe_tup (pa_cons (pd D_count_in_span (hr.mono (by decide)) (pa_cons (pv 2) (pa_cons (pv 5) pa_nil))) (pa_cons (pd D_count_in_span (hr.mono (by decide)) (pa_cons (pv 3) (pa_cons (pv 5) pa_nil))) pa_nil)))))))))), ?_⟩
    refine ⟨_, rfl, a, p, p0, rfl, hp, G1, fun L1 F1 H1 c1 s1 n1 h1 => ?_⟩
    refine ⟨_, rfl, b, q, q0, rfl, hq.same s1, G2, fun L2 F2 H2 c2 s2 n2 h2 => ?_⟩
    refine ⟨_, rfl, _, rfl, fun x dx hx hdx ne => ?_⟩
    have s3 : Same H2 (upd (upd H2 dx (.own x)) x (.ins C dx [])) := (upd_new hdx).trans (same_own (H := upd H2 dx (.own x)) (Same.refl _) (by rw [upd_ne (Ne.symm ne)]; exact hx))
    have sA := s1.trans (s2.trans s3)
    refine ⟨x, a, b, dx, p, q, p0, q0, rfl, upd_same, hp.same sA, hq.same sA, G1, G2, fun H3 j jp jq hj st => ⟨rfl, ?_⟩⟩
    have s4 : Same H2 H3 := fun e o he => st e o (s3 _ _ he) (ne_of_none he hx)
    obtain ⟨dj, ch, sh, hj1, _⟩ := id hj
    refine ⟨x, dj, _, rfl, hj1, rfl, x, j, rfl, hj, by rw [jp]; exact sp, by rw [jq]; exact sq, fun zs Z H4 l s5 n5 hz => ?_⟩
    rw [jp, jq] at Z
    obtain ⟨bs, hZ⟩ := hz
    have s6 := s4.trans s5
    have zl := Z.len
    refine ⟨_, rfl, l, rfl, ⟨_, SqL.of hZ.lst⟩, fun D hD => lc_news PrAt.keeps PrAt.apart (fun i y => ∃ z, zs[i]? = some z ∧ y = ((Kv.cu (Kqg1.layerChains p0) z.b - Kv.cu (Kqg1.layerChains p0) z.a).toNat, (Kv.cu (Kqg1.layerChains q0) z.b - Kv.cu (Kqg1.layerChains q0) z.a).toNat)) (SqL.of hZ.lst) hD (by rw [List.length_map, hZ.len]; omega) (fun i x hx H' R s' r => ?_) fun ys H' ly hy s' hys => ?_⟩
    · obtain ⟨c, z, hc, hz, rfl, pz⟩ := hZ.ofV hx
      have zm := List.mem_of_getElem? hz
      obtain ⟨pl1, pl2⟩ := Z.sz z zm
      have lt := Z.lt z zm
      have m1 := Kv.cu_mono G1.t0 G1.n0 (show z.a ≤ z.b by grind)
      have m2 := Kv.cu_mono G2.t0 G2.n0 (show z.a ≤ z.b by grind)
      have d1 := F1.diff G1.t0 G1.n0 lt
      have d2 := F2.diff G2.t0 G2.n0 lt
      have t1 := (s2.trans s6).trans s'
      have t2 := s6.trans s'
      have l1 := F1.l7
      have l2 := F2.l7
      refine ⟨rfl, _, rfl, _, rfl, c1, c, L1, z, rfl, chs_keeps _ _ _ _ t1 h1, SnAt.keeps _ _ _ _ s' pz, pl1, pl2, famok_csz F1, by omega, fun H5 s7 => ?_⟩
      refine ⟨_, rfl, _, rfl, c2, c, L2, z, rfl, chs_keeps _ _ _ _ (t2.trans s7) h2, SnAt.keeps _ _ _ _ (s'.trans s7) pz, pl1, pl2, famok_csz F2, by omega, fun H6 s8 => ?_⟩
      refine ⟨(by show 2 ≤ sizeLine; decide), fun t ht => ?_⟩
      have s9 := s7.trans s8
      refine r _ t _ ⟨z, hz, rfl⟩ (s9.trans (upd_new ht)) (s9.free ht) ?_
      show upd H6 t _ t = _
      rw [upd_same]
      have e1 : Kv.PV L1 ((z.low : Rat) / (z.scale : Rat)) - Kv.PV L1 ((z.high : Rat) / (z.scale : Rat)) = ((Kv.cu (Kqg1.layerChains p0) z.b - Kv.cu (Kqg1.layerChains p0) z.a).toNat : Int) := by
        have : Kv.PV L1 z.a - Kv.PV L1 z.b = _ := d1
        show Kv.PV L1 z.a - Kv.PV L1 z.b = _
        omega
      have e2 : Kv.PV L2 ((z.low : Rat) / (z.scale : Rat)) - Kv.PV L2 ((z.high : Rat) / (z.scale : Rat)) = ((Kv.cu (Kqg1.layerChains q0) z.b - Kv.cu (Kqg1.layerChains q0) z.a).toNat : Int) := by
        have : Kv.PV L2 z.a - Kv.PV L2 z.b = _ := d2
        show Kv.PV L2 z.a - Kv.PV L2 z.b = _
        omega
      rw [e1, e2]
    · rw [List.length_map, hZ.len] at ly
      have e := zs_map (f := fun z : Sn => ((Kv.cu (Kqg1.layerChains p0) z.b - Kv.cu (Kqg1.layerChains p0) z.a).toNat, (Kv.cu (Kqg1.layerChains q0) z.b - Kv.cu (Kqg1.layerChains q0) z.a).toNat)) ly fun i y z h1 h2 => by
        obtain ⟨z', e1, e2⟩ := hy i y h1
        rw [h2] at e1
        rw [Option.some.inj e1]
        exact e2
      rw [e, ← Z.eq] at hys
      have sB := s1.trans (s2.trans (s6.trans s'))
      refine k ?_ H' D sB ((s1.trans (s2.trans s6)).free hD) hys
      rw [Z.eq, List.length_map]
      exact zl
end
end Il
namespace Kv
def sumD (l : List (Nat × Nat)) : Int := sum (l.map fun x => (x.1 : Int) - (x.2 : Int))
def asc : List (Nat × Nat) → List Int
  | [] => []
  | x :: r => sumD (x :: r) :: asc r
theorem sumD_cons (x : Nat × Nat) (r : List (Nat × Nat)) : sumD (x :: r) = (x.1 : Int) - (x.2 : Int) + sumD r := rfl
theorem asc_len : ∀ l : List (Nat × Nat), (asc l).length = l.length
  | [] => rfl
  | x :: r => by rw [asc, List.length_cons, List.length_cons, asc_len r]
theorem leads_asc (l : List (Nat × Nat)) : Kqg2.leads l = (asc l).reverse := by
  have key : l.reverse.foldl (fun (acc : List Int × Int) x => let lead := acc.2 + (x.1 : Int) - (x.2 : Int); (acc.1 ++ [lead], lead)) ([], 0) = ((asc l).reverse, sumD l) := by
    induction l with
    | nil => rfl
    | cons x r ih =>
      rw [List.reverse_cons, List.foldl_append, ih, asc, List.reverse_cons, sumD_cons]
      show ((asc r).reverse ++ [sumD r + (x.1 : Int) - (x.2 : Int)], sumD r + (x.1 : Int) - (x.2 : Int)) = _
      have : sumD r + (x.1 : Int) - (x.2 : Int) = (x.1 : Int) - (x.2 : Int) + sumD r := by omega
      rw [this]
  unfold Kqg2.leads
  rw [key]
theorem asc_at : ∀ {l : List (Nat × Nat)} {i : Nat}, i < l.length → (asc l)[i]? = some (sumD (l.drop i))
  | x :: r, 0, _ => rfl
  | x :: r, i + 1, h => by
    rw [asc, List.getElem?_cons_succ, List.drop_succ_cons]
    exact asc_at (by simpa using h)
theorem sumD_drop {l : List (Nat × Nat)} {i : Nat} {x : Nat × Nat} (h : l[i]? = some x) : sumD (l.drop (i + 1)) = sumD (l.drop i) - ((x.1 : Int) - (x.2 : Int)) := by
  have hi := (List.getElem?_eq_some_iff.mp h)
  rw [List.drop_eq_getElem_cons hi.1, hi.2, sumD_cons]
  omega
def bigD (d : Int) : Bool := decide (d < -1) || decide (1 < d)
def gll (l : List (Nat × Nat)) : Option Nat := (Kqg2.leads l).findIdx? bigD
def bigs (xs : List Int) (n : Nat) : List Nat := (List.range n).filter fun i => bigD (xs.getD i 0)
theorem bigs_step (xs : List Int) (n : Nat) : bigs xs (n + 1) = bigs xs n ++ (if bigD (xs.getD n 0) then [n] else []) := by
  unfold bigs
  rw [List.range_succ, List.filter_append]
  congr 1
  rw [List.filter_cons, List.filter_nil]
theorem bigs_last {xs : List Int} {n p : Nat} (h : (bigs xs n).getLast? = some p) : p < n ∧ bigD (xs.getD p 0) = true ∧ ∀ j, p < j → j < n → bigD (xs.getD j 0) = false := by
  induction n with
  | zero => simp [bigs] at h
  | succ n ih =>
    rw [bigs_step] at h
    by_cases c : bigD (xs.getD n 0) = true
    · rw [if_pos c, List.getLast?_append] at h
      have : n = p := by simpa using h
      subst this
      exact ⟨by omega, c, fun j h1 h2 => by omega⟩
    · rw [if_neg c, List.append_nil] at h
      obtain ⟨a, b, d⟩ := ih h
      refine ⟨by omega, b, fun j h1 h2 => ?_⟩
      by_cases e : j = n
      · rw [e]; simpa using c
      · exact d j h1 (by omega)
theorem bigs_nil {xs : List Int} {n : Nat} (h : bigs xs n = []) : ∀ j, j < n → bigD (xs.getD j 0) = false := fun j hj => by
  have := List.filter_eq_nil_iff.mp h j (List.mem_range.mpr hj)
  simpa using this
theorem gll_none {l : List (Nat × Nat)} (h : bigs (asc l) l.length = []) : gll l = none := by
  unfold gll
  rw [leads_asc, List.findIdx?_eq_none_iff]
  intro x hx
  obtain ⟨i, hi⟩ := List.getElem?_of_mem (List.mem_reverse.mp hx)
  have l1 := (List.getElem?_eq_some_iff.mp hi).1
  rw [asc_len] at l1
  have := bigs_nil h i l1
  rw [List.getD_eq_getElem?_getD, hi] at this
  exact this
theorem gll_some {l : List (Nat × Nat)} {p : Nat} (h : (bigs (asc l) l.length).getLast? = some p) : gll l = some (l.length - 1 - p) ∧ p < l.length := by
  obtain ⟨a, b, c⟩ := bigs_last h
  refine ⟨?_, a⟩
  unfold gll
  rw [leads_asc, List.findIdx?_eq_some_iff_getElem]
  have ln := asc_len l
  refine ⟨by rw [List.length_reverse]; omega, ?_, fun j hj => ?_⟩
  · rw [List.getElem_reverse]
    have e : (asc l).length - 1 - (l.length - 1 - p) = p := by omega
    have : (asc l).getD p 0 = (asc l)[(asc l).length - 1 - (l.length - 1 - p)]'(by omega) := by
      rw [List.getD_eq_getElem?_getD, List.getElem?_eq_getElem (by omega)]
      simp only [e]
      rfl
    rw [← this]
    exact b
  · rw [List.getElem_reverse]
    have : (asc l).getD ((asc l).length - 1 - j) 0 = (asc l)[(asc l).length - 1 - j]'(by omega) := by
      rw [List.getD_eq_getElem?_getD, List.getElem?_eq_getElem (by omega)]
      rfl
    rw [← this, c _ (by omega) (by omega)]
    decide
end Kv
namespace Il
open PySem PySem.Spec PyProof.Rows L2
theorem lc_det {J : It} {n : Nat} {G : Hp → Prop} {Y : Nat → Hp → V → Hp → Prop} (w : Walk J n G Y) {g : TG} {tt : TT} {te : TE} {vs : List Nat} {σ : L2.St} {H1 : Hp} {D : Addr} {Qd : Hp → Prop} (acc : Nat → List V) (h0 : acc 0 = []) (sz : ∀ i, i ≤ n → (acc i).length ≤ 10000)
    (hD : H1 D = Option.none) (hG : ∀ H, Same H1 H → G H)
    (hs : ∀ (i : Nat) (x : V) (H H' : Hp), i < n → Same H1 H → Y i H x H' → ∀ (N : Hp → Prop) (Rk : VK), (∀ H2, Same H H2 → acc (i + 1) = acc i → N H2) → (∀ y H2, Same H H2 → acc (i + 1) = acc i ++ [y] → Rk y H2) →
      g x (wipe σ vs) H' fun σ2 H2 => wipe σ2 vs = wipe σ vs ∧ tt σ2 H2 fun b H3 => if b = true then te σ2 H3 Rk else N H3)
    (hd : ∀ H, Same H1 H → H D = some (.lst (acc n)) → Qd H) :
    ∃ W : Nat → Nat → Hp → Prop, (∃ m, W 0 m (upd H1 D (.lst []))) ∧ ∀ i m H, W i m H →
      (J.stop i H ∧ Qd H) ∨ (J.go i H ∧ ∃ Nx : Hp → Prop, (∀ H', Nx H' → ∃ m', m' < m ∧ W (i + 1) m' H') ∧ ∀ x H', J.yld i H x H' → g x (wipe σ vs) H' fun σ2 H2 => wipe σ2 vs = wipe σ vs ∧ tt σ2 H2 fun b H3 =>
        if b = true then te σ2 H3 fun y H4 => ∃ acc, H4 D = some (.lst acc) ∧ acc.length < sizeLine ∧ Nx (upd H4 D (.lst (acc ++ [y]))) else Nx H3) := by
  refine lc_it w (fun i H => Same H1 H ∧ H D = some (.lst (acc i))) ⟨upd_new hD, by rw [h0]; exact upd_same⟩ (fun i H _ e => hG H e.1) (fun i x H H' hi ⟨s, eD⟩ hy => ?_) (fun H ⟨s, eD⟩ => hd H s eD)
  refine hs i x H H' hi s hy _ _ (fun H2 s2 ea => ⟨s.trans s2, by rw [ea]; exact s2 _ _ eD⟩) fun y H2 s2 ea => ?_
  refine ⟨acc i, s2 _ _ eD, small_of (sz i (by omega)), ?_, ?_⟩
  · exact same_own (s.trans s2) hD
  · rw [upd_same, ea]
section
variable {P : Program} {w : World} {K : PySem.W.Frag} {mg : Str → Option Value} {base : Heap}
abbrev sRr : Stmt := topS 27
abbrev NRr : List Str := ["polynomial"]
theorem scRr : FnScope NRr ["polynomial"] (defScope sRr) := ⟨rfl, rfl, rfl, by decide +kernel, rfl, by decide +kernel, by decide +kernel⟩
theorem mk_counted {C : Addr} {H : Hp} {b : Addr} {p : List Int} {p0 : List Rat} {E : XK} {x dx : Addr} {Q : Hp → Prop} (hp : LI H b p) (G : Pol p p0) (hx : H x = Option.none) (hd : H dx = Option.none) (ne : dx ≠ x)
    (k : ∀ H' : Hp, Same H H' → CrAt C H' x p0 → Q H') : spCrI C [.ref x, .ref b] (upd (upd H dx (.own x)) x (.ins C dx [])) (fun v H2 => v = V.non ∧ Q H2) E := by
  have s0 : Same H (upd (upd H dx (.own x)) x (.ins C dx [])) := (upd_new hd).trans (same_own (H := upd H dx (.own x)) (Same.refl _) (by rw [upd_ne (Ne.symm ne)]; exact hx))
  exact ⟨x, b, dx, p, p0, rfl, upd_same, hp.same s0, G, fun H' hc st => ⟨rfl, k H' (fun e o he => st e o (s0 _ _ he) (ne_of_none he hx)) hc⟩⟩
def spRr : Sp := fun vs H Q _ => ∃ (a : Addr) (p : List Int) (p0 : List Rat), vs = [.ref a] ∧ LI H a p ∧ Pol p p0 ∧ GiveV H Q (.bl (Kqg1.isRealRooted p0))
theorem df_rr {C : Addr} (T : CrC K C) (F : Fx K mg "real_rooted" sRr) (D_CountedRoots : Dk P w K mg base "CountedRoots" C 39 ["self", "polynomial"] (spCrI C)) (D_degree_of : Df P w K mg base "degree_of" 1 ["polynomial"] spDg) :
    Df P w K mg base "real_rooted" 41 ["polynomial"] spRr := by
  refine df_of F scRr (fun _ _ _ _ _ _ us hl => match us, hl with | [_], _ => rfl) (fun vs H Q E h => ?_) (fun f cdv A outer s H vs Q E hr h => ?_)
  · obtain ⟨a, p, p0, rfl, _⟩ := h
    rfl
  · obtain ⟨a, p, p0, rfl, hp, G, k⟩ := h
    refine ⟨_, (pss_one (ps_ret (pe_cmpR op_eq (pe_fldK K (pmk D_CountedRoots (hr.mono (by decide)) (pa_cons (pv 0) pa_nil))) (pd D_degree_of (hr.mono (by decide)) (pa_cons (pv 0) pa_nil)) (nomark _)))), ?_⟩
    refine ⟨_, rfl, fun x dx hx hd ne => mk_counted hp G hx hd ne fun H2 s2 hc => ?_⟩
    obtain ⟨dx, ch, Ls, b, h1, h2⟩ := hc
    refine ⟨x, C, dx, _, _, rfl, h1, T.cl, T.total, rfl, _, rfl, a, p, rfl, hp.same s2, rfl, ?_⟩
    have e : decide (V.int (Kv.tot (Kqg1.layerChains p0)) = V.int ((p.length : Int) - 1)) = Kqg1.isRealRooted p0 := by
      have ln := G.sim.len G.t0 G.tr
      rw [Kv.zr_len] at ln
      have c := Kv.count_all (Kv.fam_layers G.t0 G.n0).1
      have pos := List.length_pos_iff.mpr G.ne
      have n0 : (p0 != []) = true := by simpa using G.n0
      unfold Kqg1.isRealRooted Kqg1.countRoots Kqg1.degree
      rw [n0, Bool.true_and, ← c]
      rw [Bool.eq_iff_iff, decide_eq_true_iff, beq_iff_eq]
      constructor
      · intro h
        have := V.int.inj h
        omega
      · intro h
        rw [h]
        congr 1
        omega
    rw [e]
    exact k H2 s2
abbrev sLd : Stmt := topS 28
abbrev NLd : List Str := ["pairs", "found", "first_multiplicity", "second_multiplicity", "lead"]
theorem scLd : FnScope NLd ["pairs"] (defScope sLd) := ⟨rfl, rfl, rfl, by decide +kernel, rfl, by decide +kernel, by decide +kernel⟩
def spLd : Sp := fun vs H Q _ => ∃ (a : Addr) (l : List (Nat × Nat)), vs = [.ref a] ∧ Prs H a l ∧ l.length ≤ 21 ∧ GiveL H Q (Kv.asc l)
theorem df_ld (F : Fx K mg "leads" sLd) (T : Nm mg) : Df P w K mg base "leads" 1 ["pairs"] spLd := by
  refine df_of F scLd (fun _ _ _ _ _ _ us hl => match us, hl with | [_], _ => rfl) (fun vs H Q E h => ?_) (fun f cdv A outer s H vs Q E hr h => ?_)
  · obtain ⟨a, l, rfl, _⟩ := h
    rfl
  · obtain ⟨a, l, rfl, ⟨as, hA⟩, ll, k⟩ := h
    refine ⟨_, (pss_cons (ps_set (i := 1) scLd.nd rfl (.inl rfl) (pe_lst pa_nil))
      (pss_cons (ps_set (i := 4) scLd.nd rfl (.inl rfl) (pe_callB (cr_sum rfl) (by rfl) T.sum (by decide +kernel) (pa_cons (pe_lc (own := [("first_multiplicity", 2), ("second_multiplicity", 3)]) (g := gTup K 2 (gCons (gName 2) (gCons (gName 3) gNil))) (by rfl) scLd.nd (pi_list (pv 0)) (blkOk_by (N := NLd) (sc := defScope sLd) (by decide +kernel)) (fun _ _ _ _ _ => pg_tup (by rfl) (pgs_cons (pg_name (i := 2) scLd.nd rfl (Or.inl rfl)) (pgs_cons (pg_name (i := 3) scLd.nd rfl (Or.inl rfl)) pgs_nil))) (fun _ _ _ _ _ => pts_nil) (fun _ _ _ _ _ => (pe_op op_sub (pv 2) (pv 3)))) pa_nil)))
      (pss_cons (ps_for PassesOwn.never rfl (pi_list (pv 0)) (pg_tup (by rfl) (pgs_cons (pg_name (i := 2) scLd.nd rfl (Or.inl rfl)) (pgs_cons (pg_name (i := 3) scLd.nd rfl (Or.inl rfl)) pgs_nil))) (pss_cons (ps_expr (pe_bm PySem.F.plainAttrs_list PySem.F.slot_list_append PySem.F.type_list_append mt_append (pv 1) (pa_cons (pv 4) pa_nil)))
      (pss_one (ps_aug (i := 4) scLd.nd rfl (.inl rfl) (pe_op op_sub (pv 2) (pv 3)) ip_sub))))
      (pss_one (ps_ret (pv 1)))))), ?_⟩
    refine ⟨Nat.zero_le _, fun d hd => ?_⟩
    have s1 : Same H (upd H d (.lst [])) := upd_new hd
    have al := hA.len
    refine ⟨_, rfl, a, rfl, ⟨_, SqL.of (s1 _ _ hA.lst)⟩, fun D hD => lc_det (walk_list (xs := as.map V.ref)) (fun i => (((l.take i).map fun x => (x.1 : Int) - (x.2 : Int))).map V.int) (by simp) (fun i _ => by simp; omega) hD (fun H' s' => SqL.of (s' _ _ (s1 _ _ hA.lst))) (fun i x H2 H' hi s' hy N Rk _ r => ?_) fun H2 s2 eD => ?_⟩
    · obtain ⟨rfl, hx⟩ := hy
      obtain ⟨b, y, hb, hl, rfl, pb⟩ := hA.ofV hx
      have hb2 := s' _ _ (s1 _ _ pb)
      refine ⟨b, _, rfl, SqT.of hb2, rfl, _, _, rfl, _, _, rfl, rfl, rfl, ?_⟩
      exact ⟨_, rfl, _, rfl, _, _, rfl, rfl, r _ _ (Same.refl _) (by rw [take_more hl, List.map_append, List.map_append]; rfl)⟩
    · rw [List.length_map, al, List.take_length] at eD
      refine ⟨D, _, rfl, SqL.of eD, ?_⟩
      rw [Kv.sum_sum]
      show _
      have sA := s1.trans s2
      refine ⟨_, rfl, a, rfl, ⟨_, SqL.of (sA _ _ hA.lst)⟩, for_list (K := K) (a := a) (xs := as.map V.ref) (fun i σ H' => Same H H' ∧ LI H' d ((Kv.asc l).take i) ∧ ∃ v v' : Option V, σ = [some (.ref a), some (.ref d), v, v', some (.int (Kv.sumD (l.drop i)))])
        ⟨sA, s2 _ _ upd_same, none, none, rfl⟩ (fun i σ H' _ e => SqL.of (e.1 _ _ hA.lst)) ?_ ?_⟩
      · rintro i x σ H3 hx ⟨s3, hd3, v, v', rfl⟩
        obtain ⟨b, y, hb, hl, rfl, pb⟩ := hA.ofV hx
        have il := (List.getElem?_eq_some_iff.mp hl).1
        refine ⟨b, _, rfl, SqT.of (s3 _ _ pb), rfl, _, _, rfl, _, _, rfl, rfl, ?_⟩
        refine ⟨_, rfl, .inl ⟨rfl, _, hd3.sq⟩, _, rfl, d, _, _, rfl, rfl, hd3, ?_, ?_⟩
        · rw [List.length_map, List.length_take]
          exact small_of (show _ ≤ 21 by omega)
        · refine ⟨_, rfl, _, rfl, _, rfl, _, _, rfl, rfl, _, _, rfl, rfl, same_own s3 hd, ?_, some (.int (y.1 : Nat)), some (.int (y.2 : Nat)), ?_⟩
          · show upd _ d _ d = _
            rw [upd_same, take_more (Kv.asc_at il), List.map_append]
            rfl
          · rw [Kv.sumD_drop hl]
            rfl
      · rintro σ H3 ⟨s3, hd3, v, v', rfl⟩
        rw [List.length_map, al, ← Kv.asc_len, List.take_length] at hd3
        exact ⟨_, rfl, k H3 d s3 hd3⟩
abbrev sGl : Stmt := topS 29
abbrev NGl : List Str := ["pairs", "places", "place", "lead"]
theorem scGl : FnScope NGl ["pairs"] (defScope sGl) := ⟨rfl, rfl, rfl, by decide +kernel, rfl, by decide +kernel, by decide +kernel⟩
def placeV (l : List (Nat × Nat)) : V := match Kv.gll l with
  | Option.none => .non
  | some k => .int ((l.length - 1 - k : Nat) : Int)
def spGl : Sp := fun vs H Q _ => ∃ (a : Addr) (l : List (Nat × Nat)), vs = [.ref a] ∧ Prs H a l ∧ l.length ≤ 21 ∧ GiveV H Q (placeV l)
theorem df_gl (F : Fx K mg "greatest_large_lead" sGl) (T : Nm mg) (D_leads : Df P w K mg base "leads" 1 ["pairs"] spLd) : Df P w K mg base "greatest_large_lead" 2 ["pairs"] spGl := by
  refine df_of F scGl (fun _ _ _ _ _ _ us hl => match us, hl with | [_], _ => rfl) (fun vs H Q E h => ?_) (fun f cdv A outer s H vs Q E hr h => ?_)
  · obtain ⟨a, l, rfl, _⟩ := h
    rfl
  · obtain ⟨a, l, rfl, hA, ll, k⟩ := h
    refine ⟨_, (pss_cons (ps_setLc (i := 1) (own := [("place", 2), ("lead", 3)]) (g := gTup K 2 (gCons (gName 2) (gCons (gName 3) gNil))) (by rfl) scGl.nd rfl rfl (sw_true rfl rfl rfl (by decide +kernel)) (pi_enum (by rfl) T.enumerate (pa_cons (pd D_leads (hr.mono (by decide)) (pa_cons (pv 0) pa_nil)) pa_nil)) (blkOk_by (N := NGl) (sc := defScope sGl) (by decide +kernel)) (fun _ _ _ _ _ => pg_tup (by rfl) (pgs_cons (pg_name (i := 2) scGl.nd rfl (Or.inl rfl)) (pgs_cons (pg_name (i := 3) scGl.nd rfl (Or.inl rfl)) pgs_nil))) (fun _ _ _ _ _ => (pts_one (pt_cmpR op_gt (pe_callB call_abs (by rfl) T.abs (by decide +kernel) (pa_cons (pv 3) pa_nil)) pe_int (nomark _)))) (fun _ _ _ _ _ => (pv 2)))
      (pss_cons (ps_if (pt_cmpR op_eq (pe_callB (call_lenK K) (by rfl) T.len (by decide +kernel) (pa_cons (pv 1) pa_nil)) pe_int (nomark _)) (pss_one (ps_ret pe_non)) pss_nil)
      (pss_one (ps_ret (pe_ix (ix_listK K) (pv 1) (pe_un un_neg pe_int) (fun _ _ => rfl)))))), ?_⟩
    refine ⟨_, rfl, a, l, rfl, hA, ll, fun H1 d s1 hd => ?_⟩
    have al := Kv.asc_len l
    have bl : ∀ i, (Kv.bigs (Kv.asc l) i).length ≤ i := fun i => by
      unfold Kv.bigs
      exact Nat.le_trans (List.length_filter_le _ _) (by simp)
    refine ⟨d, _, rfl, hd.sq, fun D hD => lc_det (walk_enum (xs := (Kv.asc l).map V.int)) (fun i => (Kv.bigs (Kv.asc l) i).map fun p => V.int (p : Nat)) rfl (fun i hi => by rw [List.length_map]; have := bl i; rw [List.length_map, al] at hi; omega) hD (fun H' s' => (hd.same s').sq) (fun i x H2 H' hi s' hy N Rk n r => ?_) fun H2 s2 eD => ?_⟩
    · obtain ⟨t, y, z, rfl, ht, rfl, e1, e2⟩ := hy
      obtain ⟨u, hu, rfl⟩ := li_get e2
      obtain rfl : V.int (i : Nat) = y := Option.some.inj e1
      have st := Kv.bigs_step (Kv.asc l) i
      have gd : (Kv.asc l).getD i 0 = u := by rw [List.getD_eq_getElem?_getD, hu]; rfl
      rw [gd] at st
      have s3 : Same H2 (upd H2 t (.tup [.int (i : Nat), .int u])) := upd_new ht
      refine ⟨t, _, rfl, SqT.of upd_same, rfl, _, _, rfl, _, _, rfl, rfl, rfl, ?_⟩
      refine ⟨_, rfl, u, rfl, _, _, rfl, rfl, _, rfl, ?_⟩
      by_cases c : Kv.bigD u = true
      · have c2 : (1 : Int) < (if u < 0 then -u else u) := by
          unfold Kv.bigD at c
          simp only [Bool.or_eq_true, decide_eq_true_eq] at c
          split <;> omega
        rw [if_pos c] at st
        rw [decide_eq_true c2]
        refine iteT ⟨_, rfl, r _ _ s3 ?_⟩
        rw [st, List.map_append]
        rfl
      · have c2 : ¬ (1 : Int) < (if u < 0 then -u else u) := by
          unfold Kv.bigD at c
          simp only [Bool.or_eq_true, decide_eq_true_eq] at c
          split <;> omega
        rw [if_neg c, List.append_nil] at st
        rw [decide_eq_false c2]
        refine iteF (n _ s3 ?_)
        rw [st]
    · rw [List.length_map, al] at eD
      have sA := s1.trans s2
      refine ⟨_, rfl, D, _, rfl, ⟨_, .inl (SqL.of eD), rfl⟩, rfl, _, rfl, ?_⟩
      rw [List.length_map]
      cases e : Kv.bigs (Kv.asc l) l.length with
      | nil =>
        refine iteT ?_
        have : placeV l = .non := by unfold placeV; rw [Kv.gll_none e]
        rw [this] at k
        exact k H2 sA
      | cons y ys =>
        rw [decide_eq_false (fun z => by have := V.int.inj z; simp at this; omega)]
        obtain ⟨p, hp⟩ : ∃ p, (Kv.bigs (Kv.asc l) l.length).getLast? = some p := by
          rw [e]
          exact ⟨_, List.getLast?_cons⟩
        obtain ⟨g1, g2⟩ := Kv.gll_some hp
        have : placeV l = .int (p : Nat) := by
          unfold placeV
          rw [g1]
          show V.int _ = _
          congr 1
          omega
        rw [this] at k
        refine iteF ⟨_, rfl, 1, rfl, D, _, _, _, rfl, rfl, SqL.of eD, ?_, k H2 sA⟩
        refine atI_last ?_
        rw [List.getLast?_eq_getElem?] at hp
        rw [List.length_map, List.getElem?_map, hp]
        rfl
end
end Il
namespace Kv
theorem mono_list {p : List Int} {p0 : List Rat} (t : Tr (zr p)) (n : p ≠ []) (t0 : Tr p0) (n0 : p0 ≠ []) (s : Sim p0 (zr p)) : Kqg1.monic p0 = psc (1 / (lc p : Rat)) (zr p) := by
  obtain ⟨c, hc, e⟩ := s
  have tp : Tr (psc c (zr p)) := by rw [← scale_psc t hc]; exact tr_scale _ _
  have ep : p0 = psc c (zr p) := same_of_ev t0 tp fun x => by rw [e, ev_psc]
  have l0 := lc_ne t n
  have l1 : (lc p : Rat) ≠ 0 := by exact_mod_cast l0
  have el : ld p0 = c * (lc p : Rat) := by rw [ep, ld_psc, lc_ld]
  obtain ⟨m1, m2⟩ := monic_spec t0 n0
  have i0 : (1 : Rat) / (lc p : Rat) ≠ 0 := fun z => by
    have : (1 : Rat) / (lc p : Rat) * (lc p : Rat) = 1 := div_mul_self l1
    rw [z] at this
    grind
  have tq : Tr (psc (1 / (lc p : Rat)) (zr p)) := by rw [← scale_psc t i0]; exact tr_scale _ _
  refine same_of_ev m1 tq fun x => ?_
  rw [m2, ev_psc, e, el]
  grind
theorem mono_eq {p q : List Int} {p0 q0 : List Rat} (t : Tr (zr p)) (n : p ≠ []) (t0 : Tr p0) (n0 : p0 ≠ []) (s : Sim p0 (zr p)) (t' : Tr (zr q)) (n' : q ≠ []) (t0' : Tr q0) (n0' : q0 ≠ []) (s' : Sim q0 (zr q)) :
    (Kqg1.monic p0 == Kqg1.monic q0) = true ↔ p.length = q.length ∧ ∀ (i : Nat) (a b : Int), p[i]? = some a → q[i]? = some b → a * lc q = b * lc p := by
  rw [beq_iff_eq, mono_list t n t0 n0 s, mono_list t' n' t0' n0' s']
  have l0 := lc_ne t n
  have l1 : (lc p : Rat) ≠ 0 := by exact_mod_cast l0
  have m0 := lc_ne t' n'
  have m1 : (lc q : Rat) ≠ 0 := by exact_mod_cast m0
  have key : ∀ a b : Int, 1 / (lc p : Rat) * (a : Rat) = 1 / (lc q : Rat) * (b : Rat) ↔ a * lc q = b * lc p := fun a b => by
    constructor
    · intro h
      have : (a : Rat) * (lc q : Rat) = (b : Rat) * (lc p : Rat) := by
        have e1 : (lc p : Rat) * (lc q : Rat) * (1 / (lc p : Rat) * (a : Rat)) = (a : Rat) * (lc q : Rat) := by grind
        have e2 : (lc p : Rat) * (lc q : Rat) * (1 / (lc q : Rat) * (b : Rat)) = (b : Rat) * (lc p : Rat) := by grind
        rw [← e1, ← e2, h]
      exact_mod_cast this
    · intro h
      have h : (a : Rat) * (lc q : Rat) = (b : Rat) * (lc p : Rat) := by exact_mod_cast h
      grind
  constructor
  · intro h
    have ln := congrArg List.length h
    refine ⟨by simpa [psc, zr] using ln, fun i a b ha hb => (key a b).mp ?_⟩
    have e := congrArg (fun l => l[i]?) h
    unfold psc zr at e
    rw [List.getElem?_map, List.getElem?_map, List.getElem?_map, List.getElem?_map, ha, hb] at e
    exact Option.some.inj e
  · rintro ⟨ln, h⟩
    refine List.ext_getElem? fun i => ?_
    unfold psc zr
    rw [List.getElem?_map, List.getElem?_map, List.getElem?_map, List.getElem?_map]
    cases ea : p[i]? with
    | none =>
      rw [List.getElem?_eq_none_iff] at ea
      rw [List.getElem?_eq_none_iff.mpr (by omega)]; rfl
    | some a =>
      have il := (List.getElem?_eq_some_iff.mp ea).1
      have eb : q[i]? = some (q[i]'(by omega)) := List.getElem?_eq_getElem _
      rw [eb]
      exact congrArg some ((key _ _).mpr (h i _ _ ea eb))
end Kv
namespace Il
open PySem PySem.Spec PyProof.Rows L2
section
variable {P : Program} {w : World} {K : PySem.W.Frag} {mg : Str → Option Value} {base : Heap}
abbrev sLw : Stmt := topS 30
abbrev NLw : List Str := ["first", "second", "lowest", "highest", "lead"]
theorem scLw : FnScope NLw ["first", "second", "lowest", "highest"] (defScope sLw) := ⟨rfl, rfl, rfl, by decide +kernel, rfl, by decide +kernel, by decide +kernel⟩
def within (p0 q0 : List Rat) (lo hi : Int) : Bool := Kqg1.isRealRooted p0 && Kqg1.isRealRooted q0 && (Kqg2.leads (Kqg2.jointMultiplicities p0 q0)).all fun d => decide (lo ≤ d) && decide (d ≤ hi)
structure Two (H : Hp) (a b : Addr) (p0 q0 : List Rat) : Prop where
  ex : ∃ p q : List Int, LI H a p ∧ LI H b q ∧ Pol p p0 ∧ Pol q q0
  sp : Kv.Sm p0
  sq : Kv.Sm q0
theorem Two.same {H H' : Hp} {a b : Addr} {p0 q0 : List Rat} (h : Two H a b p0 q0) (s : Same H H') : Two H' a b p0 q0 := by
  obtain ⟨⟨p, q, h1, h2, h3, h4⟩, h5, h6⟩ := h
  exact ⟨⟨p, q, h1.same s, h2.same s, h3, h4⟩, h5, h6⟩
def spLw : Sp := fun vs H Q _ => ∃ (a b : Addr) (p0 q0 : List Rat) (lo hi : Int), vs = [.ref a, .ref b, .int lo, .int hi] ∧ Two H a b p0 q0 ∧ GiveV H Q (.bl (within p0 q0 lo hi))
theorem df_lw (F : Fx K mg "leads_within" sLw) (T : Nm mg) (D_real_rooted : Df P w K mg base "real_rooted" 41 ["polynomial"] spRr) (D_leads : Df P w K mg base "leads" 1 ["pairs"] spLd)
    (D_joint_pairs : Df P w K mg base "joint_pairs" 41 ["first", "second"] spJp) : Df P w K mg base "leads_within" 42 ["first", "second", "lowest", "highest"] spLw := by
  refine df_of F scLw (fun _ _ _ _ _ _ us hl => match us, hl with | [_, _, _, _], _ => rfl) (fun vs H Q E h => ?_) (fun f cdv A outer s H vs Q E hr h => ?_)
  · obtain ⟨a, b, p0, q0, lo, hi, rfl, _⟩ := h
    rfl
  · obtain ⟨a, b, p0, q0, lo, hi, rfl, G, k⟩ := h
    refine ⟨_, (pss_cons (ps_if (PW.pt (pw_or (pt_not (pt_val (pd D_real_rooted (hr.mono (by decide)) (pa_cons (pv 0) pa_nil)))) (pw_or1 (pt_not (pt_val (pd D_real_rooted (hr.mono (by decide)) (pa_cons (pv 1) pa_nil))))))) (pss_one (ps_ret pe_bl)) pss_nil)
      (pss_one (ps_ret (pe_callB (cr_all rfl) (by rfl) T.all (by decide +kernel) (pa_cons (pe_lc (own := [("lead", 4)]) (g := gName 4) (by rfl) scLw.nd (pi_list (pd D_leads (hr.mono (by decide)) (pa_cons (pd D_joint_pairs (hr.mono (by decide)) (pa_cons (pv 0) (pa_cons (pv 1) pa_nil))) pa_nil))) (blkOk_by (N := NLw) (sc := defScope sLw) (by decide +kernel)) (fun _ _ _ _ _ => pg_name (i := 4) scLw.nd rfl (Or.inl rfl)) (fun _ _ _ _ _ => pts_nil) (fun _ _ _ _ _ => (pe_chain op_le op_le (pv 2) (pv 4) (pv 3)))) pa_nil))))), ?_⟩
    obtain ⟨⟨p, q, hp, hq, G1, G2⟩, sp, sq⟩ := G
    have fin : ∀ H3, Same H H3 → Kqg1.isRealRooted p0 = true → Kqg1.isRealRooted q0 = true → GiveV H3 Q (.bl ((Kqg2.leads (Kqg2.jointMultiplicities p0 q0)).all fun d => decide (lo ≤ d) && decide (d ≤ hi))) := fun H3 s3 e1 e2 H4 s4 => by
      have := k H4 (s3.trans s4)
      unfold within at this
      rw [e1, e2, Bool.true_and, Bool.true_and] at this
      exact this
    have no : ∀ H3, Same H H3 → (Kqg1.isRealRooted p0 = false ∨ Kqg1.isRealRooted q0 = false) → Q (.bl false) H3 := fun H3 s3 e => by
      have := k H3 s3
      unfold within at this
      rcases e with e | e
      · rw [e] at this; exact this
      · rw [e, Bool.and_false, Bool.false_and] at this; exact this
    refine ⟨_, rfl, a, p, p0, rfl, hp, G1, fun H1 s1 => ?_⟩
    refine ⟨_, rfl, ?_⟩
    cases e1 : Kqg1.isRealRooted p0 with
    | false => exact iteT (no H1 s1 (.inl e1))
    | true =>
      refine iteF ⟨_, rfl, b, q, q0, rfl, hq.same s1, G2, fun H2 s2 => ?_⟩
      refine ⟨_, rfl, ?_⟩
      cases e2 : Kqg1.isRealRooted q0 with
      | false => exact iteT (no H2 (s1.trans s2) (.inr e2))
      | true =>
        have s12 := s1.trans s2
        refine iteF ⟨_, rfl, _, rfl, a, b, p, q, p0, q0, rfl, hp.same s12, hq.same s12, G1, G2, sp, sq, fun ll H3 c s3 n3 h3 => ?_⟩
        refine ⟨c, _, rfl, h3, ll, fun H4 d s4 hd => ⟨d, rfl, ⟨_, hd.sq⟩, ?_⟩⟩
        have al := Kv.asc_len (Kqg2.jointMultiplicities p0 q0)
        refine fun D hD => lc_det (walk_list (xs := (Kv.asc (Kqg2.jointMultiplicities p0 q0)).map V.int)) (fun i => ((((Kv.asc (Kqg2.jointMultiplicities p0 q0)).take i).map fun d => decide (lo ≤ d) && decide (d ≤ hi))).map V.bl) (by simp) (fun i _ => by rw [List.length_map, List.length_map, List.length_take]; omega) hD (fun H' s' => (hd.same s').sq) (fun i x H5 H' hi' s' hy N Rk _ r => ?_) fun H5 s5 eD => ?_
        · obtain ⟨rfl, hx⟩ := hy
          obtain ⟨u, hu, rfl⟩ := li_get hx
          have fin2 := r (V.bl (decide (lo ≤ u) && decide (u ≤ hi))) H' (Same.refl _) (by rw [take_more hu, List.map_append, List.map_append]; rfl)
          refine ⟨rfl, _, rfl, _, rfl, _, _, rfl, rfl, _, rfl, ?_⟩
          by_cases c : lo ≤ u
          · rw [decide_eq_true c, Bool.true_and] at fin2
            rw [decide_eq_true c]
            exact iteT ⟨_, rfl, _, _, rfl, rfl, fin2⟩
          · rw [decide_eq_false c, Bool.false_and] at fin2
            rw [decide_eq_false c]
            exact iteF fin2
        · rw [List.length_map, List.take_length] at eD
          refine ⟨D, _, rfl, SqL.of eD, ?_⟩
          have e : ((Kv.asc (Kqg2.jointMultiplicities p0 q0)).map fun d => decide (lo ≤ d) && decide (d ≤ hi)).all id = (Kqg2.leads (Kqg2.jointMultiplicities p0 q0)).all fun d => decide (lo ≤ d) && decide (d ≤ hi) := by
            rw [Kv.leads_asc, List.all_reverse, List.all_map]
            rfl
          rw [e]
          exact fin _ (s12.trans (s3.trans (s4.trans s5))) e1 e2 _ (Same.refl _)
abbrev sSi : Stmt := topS 31
abbrev NSi : List Str := ["first", "second"]
theorem scSi : FnScope NSi ["first", "second"] (defScope sSi) := ⟨rfl, rfl, rfl, by decide +kernel, rfl, by decide +kernel, by decide +kernel⟩
def spSi : Sp := fun vs H Q _ => ∃ (a b : Addr) (p0 q0 : List Rat), vs = [.ref a, .ref b] ∧ Two H a b p0 q0 ∧ GiveV H Q (.bl (Kqg2.interlaces p0 q0))
theorem within_01 (p0 q0 : List Rat) : within p0 q0 0 1 = Kqg2.interlaces p0 q0 := by
  unfold within Kqg2.interlaces
  congr 2
  funext d
  rw [Bool.eq_iff_iff]
  simp only [Bool.and_eq_true, Bool.or_eq_true, decide_eq_true_eq, beq_iff_eq]
  omega
theorem df_si (F : Fx K mg "second_interlaces_first" sSi) (D_leads_within : Df P w K mg base "leads_within" 42 ["first", "second", "lowest", "highest"] spLw) : Df P w K mg base "second_interlaces_first" 43 ["first", "second"] spSi := by
  refine df_of F scSi (fun _ _ _ _ _ _ us hl => match us, hl with | [_, _], _ => rfl) (fun vs H Q E h => ?_) (fun f cdv A outer s H vs Q E hr h => ?_)
  · obtain ⟨a, b, p0, q0, rfl, _⟩ := h
    rfl
  · obtain ⟨a, b, p0, q0, rfl, G, k⟩ := h
    refine ⟨_, (pss_one (ps_ret (pd D_leads_within (hr.mono (by decide)) (pa_cons (pv 0) (pa_cons (pv 1) (pa_cons pe_int (pa_cons pe_int pa_nil))))))), ?_⟩
    rw [← within_01] at k
    exact ⟨_, rfl, _, rfl, a, b, p0, q0, 0, 1, rfl, G, k⟩
abbrev sCo : Stmt := topS 32
abbrev NCo : List Str := ["first", "second"]
theorem scCo : FnScope NCo ["first", "second"] (defScope sCo) := ⟨rfl, rfl, rfl, by decide +kernel, rfl, by decide +kernel, by decide +kernel⟩
def spCo : Sp := fun vs H Q _ => ∃ (a b : Addr) (p0 q0 : List Rat), vs = [.ref a, .ref b] ∧ Two H a b p0 q0 ∧ GiveV H Q (.bl (Kqg2.haveCommonInterlacing p0 q0))
theorem common_within (p0 q0 : List Rat) : Kqg2.haveCommonInterlacing p0 q0 = (Kqg1.degree p0 == Kqg1.degree q0 && within p0 q0 (-1) 1) := by
  unfold within Kqg2.haveCommonInterlacing
  cases Kqg1.isRealRooted p0 <;> cases Kqg1.isRealRooted q0 <;> cases (Kqg1.degree p0 == Kqg1.degree q0) <;> simp
theorem Pol.ln {p : List Int} {p0 : List Rat} (G : Pol p p0) : p0.length = p.length ∧ 1 ≤ p.length := by
  have ln := G.sim.len G.t0 G.tr
  rw [Kv.zr_len] at ln
  exact ⟨ln, List.length_pos_iff.mpr G.ne⟩
theorem Pol.deg {p : List Int} {p0 : List Rat} (G : Pol p p0) : (p.length : Int) - 1 = (Kqg1.degree p0 : Nat) := by
  obtain ⟨a, b⟩ := G.ln
  unfold Kqg1.degree
  omega
theorem df_co (F : Fx K mg "commonly_interlaced" sCo) (D_degree_of : Df P w K mg base "degree_of" 1 ["polynomial"] spDg) (D_leads_within : Df P w K mg base "leads_within" 42 ["first", "second", "lowest", "highest"] spLw) : Df P w K mg base "commonly_interlaced" 43 ["first", "second"] spCo := by
  refine df_of F scCo (fun _ _ _ _ _ _ us hl => match us, hl with | [_, _], _ => rfl) (fun vs H Q E h => ?_) (fun f cdv A outer s H vs Q E hr h => ?_)
  · obtain ⟨a, b, p0, q0, rfl, _⟩ := h
    rfl
  · obtain ⟨a, b, p0, q0, rfl, G, k⟩ := h
    refine ⟨_, (pss_one (ps_ret (pe_and (pe_cmpR op_eq (pd D_degree_of (hr.mono (by decide)) (pa_cons (pv 0) pa_nil)) (pd D_degree_of (hr.mono (by decide)) (pa_cons (pv 1) pa_nil)) (nomark _)) (pe_one (pd D_leads_within (hr.mono (by decide)) (pa_cons (pv 0) (pa_cons (pv 1) (pa_cons (pe_un un_neg pe_int) (pa_cons pe_int pa_nil))))))))), ?_⟩
    obtain ⟨⟨p, q, hp, hq, G1, G2⟩, sp, sq⟩ := id G
    rw [common_within] at k
    refine ⟨_, rfl, a, p, rfl, hp, _, rfl, b, q, rfl, hq, rfl, ?_⟩
    rw [G1.deg, G2.deg]
    have e : decide (V.int ((Kqg1.degree p0 : Nat) : Int) = V.int ((Kqg1.degree q0 : Nat) : Int)) = (Kqg1.degree p0 == Kqg1.degree q0) := by
      rw [Bool.eq_iff_iff, decide_eq_true_iff, beq_iff_eq]
      constructor
      · intro h
        have := V.int.inj h
        omega
      · intro h
        rw [h]
    rw [e]
    refine ⟨_, rfl, ?_⟩
    cases c : (Kqg1.degree p0 == Kqg1.degree q0) with
    | true =>
      rw [c, Bool.true_and] at k
      exact iteT ⟨_, rfl, _, rfl, 1, rfl, a, b, p0, q0, -1, 1, rfl, G, k⟩
    | false =>
      rw [c, Bool.false_and] at k
      exact iteF (k H (Same.refl H))
abbrev sPr : Stmt := topS 33
abbrev NPr : List Str := ["first", "second", "left", "right"]
theorem scPr : FnScope NPr ["first", "second"] (defScope sPr) := ⟨rfl, rfl, rfl, by decide +kernel, rfl, by decide +kernel, by decide +kernel⟩
def spPr : Sp := fun vs H Q _ => ∃ (a b : Addr) (p0 q0 : List Rat), vs = [.ref a, .ref b] ∧ Two H a b p0 q0 ∧ GiveV H Q (.bl (Kqg1.monic p0 == Kqg1.monic q0))
theorem df_pr (F : Fx K mg "proportional" sPr) (T : Nm mg) (D_degree_of : Df P w K mg base "degree_of" 1 ["polynomial"] spDg) : Df P w K mg base "proportional" 2 ["first", "second"] spPr := by
  refine df_of F scPr (fun _ _ _ _ _ _ us hl => match us, hl with | [_, _], _ => rfl) (fun vs H Q E h => ?_) (fun f cdv A outer s H vs Q E hr h => ?_)
  · obtain ⟨a, b, p0, q0, rfl, _⟩ := h
    rfl
  · obtain ⟨a, b, p0, q0, rfl, G, k⟩ := h
    refine ⟨_, (pss_cons (ps_if (pt_cmpR op_ne (pd D_degree_of (hr.mono (by decide)) (pa_cons (pv 0) pa_nil)) (pd D_degree_of (hr.mono (by decide)) (pa_cons (pv 1) pa_nil)) (nomark _)) (pss_one (ps_ret pe_bl)) pss_nil)
      (pss_one (ps_ret (pe_callB (cr_all rfl) (by rfl) T.all (by decide +kernel) (pa_cons (pe_lc (own := [("left", 2), ("right", 3)]) (g := gTup K 2 (gCons (gName 2) (gCons (gName 3) gNil))) (by rfl) scPr.nd (pi_zip (by rfl) T.zip (pa_cons (pv 0) (pa_cons (pv 1) pa_nil))) (blkOk_by (N := NPr) (sc := defScope sPr) (by decide +kernel)) (fun _ _ _ _ _ => pg_tup (by rfl) (pgs_cons (pg_name (i := 2) scPr.nd rfl (Or.inl rfl)) (pgs_cons (pg_name (i := 3) scPr.nd rfl (Or.inl rfl)) pgs_nil))) (fun _ _ _ _ _ => pts_nil) (fun _ _ _ _ _ => (pe_cmpR op_eq (pe_op op_mulX (pv 2) (pe_ix (ix_listK K) (pv 1) (pe_un un_neg pe_int) (fun _ _ => rfl))) (pe_op op_mulX (pv 3) (pe_ix (ix_listK K) (pv 0) (pe_un un_neg pe_int) (fun _ _ => rfl))) (nomark _)))) pa_nil))))), ?_⟩
    obtain ⟨⟨p, q, hp, hq, G1, G2⟩, sp, sq⟩ := id G
    have key := Kv.mono_eq G1.tr G1.ne G1.t0 G1.n0 G1.sim G2.tr G2.ne G2.t0 G2.n0 G2.sim
    refine ⟨_, rfl, a, p, rfl, hp, _, rfl, b, q, rfl, hq, rfl, _, rfl, ?_⟩
    have l1 := G1.ln
    have l2 := G2.ln
    have l7 := G1.l7
    by_cases c : p.length = q.length
    · have e0 : (!decide (V.int ((p.length : Int) - 1) = V.int ((q.length : Int) - 1))) = false := by rw [c]; simp
      rw [e0]
      refine iteF ⟨_, rfl, _, rfl, a, b, _, _, rfl, hp.sq, hq.sq, fun D hD => ?_⟩
      let bs : List Bool := (List.range p.length).map fun i => decide (Kv.cf p i * Kv.lc q = Kv.cf q i * Kv.lc p)
      have bl : bs.length = p.length := by simp [bs]
      refine lc_det (walk_zip (xs := p.map V.int) (ys := q.map V.int) rfl) (fun i => ((bs.take i).map V.bl)) (by simp) (fun i _ => by rw [List.length_map, List.length_take]; omega) hD (fun H' s' => ⟨(hp.same s').sq, (hq.same s').sq⟩) (fun i x H5 H' hi' s' hy N Rk _ r => ?_) fun H5 s5 eD => ?_
      · obtain ⟨t, y, z, rfl, ht, rfl, e1, e2⟩ := hy
        obtain ⟨u, hu, rfl⟩ := li_get e1
        obtain ⟨v, hv, rfl⟩ := li_get e2
        have s6 := s'.trans (upd_new (o := .tup [.int u, .int v]) ht)
        have il := (List.getElem?_eq_some_iff.mp hu).1
        have hb : bs[i]? = some (decide (u * Kv.lc q = v * Kv.lc p)) := by
          show ((List.range p.length).map _)[i]? = _
          rw [List.getElem?_map, List.getElem?_range il, Option.map_some, Kv.cf_at hu, Kv.cf_at hv]
        have hp6 := hp.same s6
        have hq6 := hq.same s6
        refine ⟨t, _, rfl, SqT.of upd_same, rfl, _, _, rfl, _, _, rfl, rfl, rfl, ?_⟩
        refine ⟨_, rfl, _, rfl, 1, rfl, b, _, -1, _, rfl, rfl, hq6.sq, li_last G2.ne, _, _, rfl, rfl, mulX_of (G1.ht _ (List.mem_of_getElem? hu)) (G2.ht _ (Kv.lc_mem G2.ne)) (by decide), ?_⟩
        refine ⟨_, rfl, _, rfl, 1, rfl, a, _, -1, _, rfl, rfl, hp6.sq, li_last G1.ne, _, _, rfl, rfl, mulX_of (G2.ht _ (List.mem_of_getElem? hv)) (G1.ht _ (Kv.lc_mem G1.ne)) (by decide), ?_⟩
        refine ⟨rfl, r _ _ (upd_new ht) ?_⟩
        rw [take_more hb, List.map_append]
        have eb : decide (u * Kv.lc q = v * Kv.lc p) = decide (V.int (u * Kv.lc q) = V.int (v * Kv.lc p)) := by
          rw [Bool.eq_iff_iff, decide_eq_true_iff, decide_eq_true_iff]
          exact ⟨fun h => by rw [h], fun h => V.int.inj h⟩
        rw [eb]
        rfl
      · have e9 : min (p.map V.int).length (q.map V.int).length = p.length := by rw [List.length_map, List.length_map]; omega
        rw [e9, ← bl, List.take_length] at eD
        refine ⟨D, bs, rfl, SqL.of eD, ?_⟩
        have : bs.all id = (Kqg1.monic p0 == Kqg1.monic q0) := by
          rw [Bool.eq_iff_iff, key]
          constructor
          · intro h
            refine ⟨c, fun i u v hu hv => ?_⟩
            have il := (List.getElem?_eq_some_iff.mp hu).1
            have hb : bs[i]? = some (decide (u * Kv.lc q = v * Kv.lc p)) := by
              show ((List.range p.length).map _)[i]? = _
              rw [List.getElem?_map, List.getElem?_range il, Option.map_some, Kv.cf_at hu, Kv.cf_at hv]
            have := List.all_eq_true.mp h _ (List.mem_of_getElem? hb)
            simpa using this
          · rintro ⟨_, h⟩
            rw [List.all_eq_true]
            intro x hx
            obtain ⟨i, hi, rfl⟩ := List.mem_map.mp hx
            have il := List.mem_range.mp hi
            have := h i _ _ (Kv.cf_get il) (Kv.cf_get (show i < q.length by omega))
            simpa using this
        rw [this]
        exact k H5 s5
    · have e0 : (!decide (V.int ((p.length : Int) - 1) = V.int ((q.length : Int) - 1))) = true := by
        have : ¬ V.int ((p.length : Int) - 1) = V.int ((q.length : Int) - 1) := fun h => by have := V.int.inj h; omega
        simp only [this, decide_false, Bool.not_false]
      rw [e0]
      have e1 : (Kqg1.monic p0 == Kqg1.monic q0) = false := by
        rw [← Bool.not_eq_true, key]
        exact fun h => c h.1
      rw [e1] at k
      exact iteT (k H (Same.refl H))
end
end Il
namespace Kv
theorem tot_bd {p0 : List Rat} {Ls : List (List (List Int))} (t : Tr p0) (n : p0 ≠ []) (F : FamOk p0 Ls) {b : Rat} (h : Far p0 b) (z : ∀ L ∈ Ls, L.length ≤ 7) : 0 ≤ tot (Kqg1.layerChains p0) ∧ tot (Kqg1.layerChains p0) ≤ 49 := by
  have e := F.total t n h
  have bd : ∀ t : Rat, 0 ≤ PV Ls t ∧ PV Ls t ≤ 7 * (Ls.length : Int) := fun t => by
    unfold PV
    have l7 := F.l7
    clear e F
    induction Ls with
    | nil => exact ⟨Int.le_refl _, Int.le_refl _⟩
    | cons L Ls ih =>
      have a := ih (fun M hM => z M (List.mem_cons_of_mem _ hM)) (by simp at l7; omega)
      have b := V_bd L t
      have c := z L List.mem_cons_self
      rw [List.map_cons, sum_cons, List.length_cons]
      omega
  have a := bd (-b)
  have c := bd b
  have l7 := F.l7
  have nn : 0 ≤ tot (Kqg1.layerChains p0) := by rw [← count_all (fam_layers t n).1]; omega
  omega
end Kv
namespace Il
open PySem PySem.Spec PyProof.Rows L2
theorem cr_tot {C : Addr} {H : Hp} {a : Addr} {p0 : List Rat} (h : CrAt C H a p0) : 0 ≤ Kv.tot (Kqg1.layerChains p0) ∧ Kv.tot (Kqg1.layerChains p0) ≤ 49 := by
  obtain ⟨dx, ch, Ls, b, h1, h2, h3, h4, h5, h6, h7, h8⟩ := h
  exact Kv.tot_bd h5 h6 h3 h7 fun L hL => (h4 L hL).len
section
variable {P : Program} {w : World} {K : PySem.W.Frag} {mg : Str → Option Value} {base : Heap}
abbrev sRf : Stmt := topS 74
abbrev NRf : List Str := ["roots", "index", "bits", "scale", "low", "high", "middle"]
theorem scRf : FnScope NRf ["roots", "index", "bits"] (defScope sRf) := ⟨rfl, rfl, rfl, by decide +kernel, rfl, by decide +kernel, by decide +kernel⟩
def spRf (C : Addr) : Sp := fun vs H Q _ => ∃ (a : Addr) (p0 : List Rat) (k bits : Nat), vs = [.ref a, .int (k : Int), .int (bits : Int)] ∧ CrAt C H a p0 ∧ (k : Int) < Kv.tot (Kqg1.layerChains p0) ∧ bits ≤ 20 ∧ GiveV H Q (.int (Kqg1.rootFloor p0 k bits))
theorem df_rf {C : Addr} (T : CrC K C) (F : Fx K mg "root_floor" sRf) (D_count_below : Dm P w K mg base C "count_below" 5 ["self", "numerator", "denominator"] (spCb C)) : Df P w K mg base "root_floor" 6 ["roots", "index", "bits"] (spRf C) := by
  refine df_of F scRf (fun _ _ _ _ _ _ us hl => match us, hl with | [_, _, _], _ => rfl) (fun vs H Q E h => ?_) (fun f cdv A outer s H vs Q E hr h => ?_)
  · obtain ⟨a, p0, k, bits, rfl, _⟩ := h
    rfl
  · obtain ⟨a, p0, k, bits, rfl, hc, hk, hb, kk⟩ := h
    refine ⟨_, (pss_cons (ps_set (i := 3) scRf.nd rfl (.inl rfl) (pe_op op_shl pe_int (pv 2)))
      (pss_cons (ps_set (i := 4) scRf.nd rfl (.inl rfl) (pe_op op_mulX (pe_un un_neg (pe_fldK K (pv 0))) (pv 3)))
      (pss_cons (ps_set (i := 5) scRf.nd rfl (.inl rfl) (pe_op op_mulX (pe_fldK K (pv 0)) (pv 3)))
      (pss_cons (ps_while PassesOwn.never (pt_cmpR op_gt (pe_op op_sub (pv 5) (pv 4)) pe_int (nomark _)) (pss_cons (ps_set (i := 6) scRf.nd rfl (.inl rfl) (pe_op op_fdivS (pe_op op_add (pv 4) (pv 5)) pe_int))
      (pss_one (ps_if (pt_cmpR op_le (pm D_count_below (hr.mono (by decide)) (pv 0) (pa_cons (pv 6) (pa_cons (pv 3) pa_nil))) (pv 1) (nomark _)) (pss_one (ps_set (i := 4) scRf.nd rfl (.inl rfl) (pv 6))) (pss_one (ps_set (i := 5) scRf.nd rfl (.inl rfl) (pv 6)))))))
      (pss_one (ps_ret (pv 4))))))), ?_⟩
    obtain ⟨dx, ch, Ls, b, h1, h2, h3, h4, h5, h6, h7, h8⟩ := id hc
    obtain ⟨fm, pt⟩ := Kv.fam_layers h5 h6
    have s20 : ((2 : Int) ^ bits).natAbs ≤ 2 ^ 20 := by
      rw [Int.natAbs_pow]
      exact Nat.pow_le_pow_right (by decide) hb
    have sc0 : (0 : Int) < 2 ^ bits := Int.pow_pos (by decide)
    have sz : ∀ x : Int, x.natAbs ≤ 2 ^ 1002 → (x * 2 ^ bits).natAbs ≤ 2 ^ 1022 := fun x hx => Kv.mul_ht hx s20
    refine ⟨_, rfl, _, _, rfl, rfl, ⟨by omega, by omega, by decide⟩, ?_⟩
    have e1 : (1 : Int) * 2 ^ (bits : Int).toNat = 2 ^ bits := by rw [Int.one_mul]; rfl
    show tSeq _ _ _ [_, _, _, some (.int (1 * 2 ^ (bits : Int).toNat)), _, _, _] H
    rw [e1]
    refine ⟨_, rfl, a, C, dx, _, _, rfl, h1, T.cl, T.bound, rfl, b, rfl, _, rfl, _, _, rfl, rfl, mulX_of (a := 1002) (b := 20) (by rw [Int.natAbs_neg]; exact h8) s20 (by decide), ?_⟩
    refine ⟨_, rfl, a, C, dx, _, _, rfl, h1, T.cl, T.bound, rfl, _, rfl, _, _, rfl, rfl, mulX_of h8 s20 (by decide), ?_⟩
    have dy : ∀ m : Int, (m : Rat) / (((2 : Int) ^ bits : Int) : Rat) = Kqg1.dyadic m bits := fun m => by
      unfold Kqg1.dyadic
      rw [← Rat.intCast_natCast, Int.natCast_pow]
      rfl
    have dyb : Kqg1.dyadic (b * 2 ^ bits) bits = (b : Rat) := by
      rw [← dy, Rat.intCast_mul]
      have : (((2 : Int) ^ bits : Int) : Rat) ≠ 0 := by
        have : (0 : Rat) < (((2 : Int) ^ bits : Int) : Rat) := by exact_mod_cast sc0
        grind
      grind
    have dyn : Kqg1.dyadic (-b * 2 ^ bits) bits = -(b : Rat) := by
      rw [← dyb, ← dy, ← dy, Int.neg_mul, Rat.intCast_neg]
      grind
    obtain ⟨f1, f2, _, _⟩ := Kv.cb_far fm pt h7 Rat.le_refl
    refine while_w (fun σ H' => Same H H' ∧ ∃ (lo hi : Int) (v : Option V), σ = [some (.ref a), some (.int (k : Int)), some (.int (bits : Int)), some (.int (2 ^ bits)), some (.int lo), some (.int hi), v] ∧
        Kv.cb (Kqg1.layerChains p0) (Kqg1.dyadic lo bits) ≤ k ∧ (k : Int) < Kv.cb (Kqg1.layerChains p0) (Kqg1.dyadic hi bits) ∧ lo.natAbs ≤ 2 ^ 1022 ∧ hi.natAbs ≤ 2 ^ 1022)
      (fun σ _ => match σ with | [_, _, _, _, some (.int lo), some (.int hi), _] => (hi - lo).toNat | _ => 0) ⟨Same.refl H, -b * 2 ^ bits, b * 2 ^ bits, Option.none, rfl, by rw [dyn, f2]; omega, by rw [dyb, f1]; exact hk, sz _ (by rw [Int.natAbs_neg]; exact h8), sz _ h8⟩ ?_
    rintro σ H2 ⟨s2, lo, hi, v, rfl, c1, c2, z1, z2⟩
    have lt : lo < hi := by
      refine Classical.byContradiction fun h => ?_
      have := Kv.cb_mono' fm (Kv.dyadic_le bits (show hi ≤ lo by omega))
      omega
    refine ⟨_, rfl, _, rfl, _, _, rfl, rfl, _, _, rfl, rfl, _, rfl, ?_⟩
    by_cases c : 1 < hi - lo
    · rw [decide_eq_true c]
      refine iteT ⟨fun σ' H' => Same H H' ∧ ∃ (lo' hi' : Int) (v : Option V), σ' = [some (.ref a), some (.int (k : Int)), some (.int (bits : Int)), some (.int (2 ^ bits)), some (.int lo'), some (.int hi'), v] ∧
        Kv.cb (Kqg1.layerChains p0) (Kqg1.dyadic lo' bits) ≤ k ∧ (k : Int) < Kv.cb (Kqg1.layerChains p0) (Kqg1.dyadic hi' bits) ∧ lo'.natAbs ≤ 2 ^ 1022 ∧ hi'.natAbs ≤ 2 ^ 1022 ∧ (hi' - lo').toNat < (hi - lo).toNat, ?_, ?_⟩
      · rintro σ' H' ⟨g0, lo', hi', v, rfl, g1, g2, g3, g4, g5⟩
        exact ⟨_, g5, rfl, g0, lo', hi', v, rfl, g1, g2, g3, g4⟩
      · refine ⟨_, rfl, _, rfl, _, _, rfl, rfl, _, _, rfl, rfl, divS_of (a := 1) (by decide) (by decide) (by decide), ?_⟩
        have em : (fun i j : Int => V.int (i.fdiv j)) (lo + hi) 2 = V.int ((lo + hi) / 2) := congrArg V.int (Int.fdiv_eq_ediv_of_nonneg _ (by decide))
        rw [em]
        have m1 : lo < (lo + hi) / 2 := by omega
        have m2 : (lo + hi) / 2 < hi := by omega
        generalize (lo + hi) / 2 = m at m1 m2
        have zm : m.natAbs ≤ 2 ^ 1022 := by
          clear kk f1 f2 c1 c2 e1 s20 sz
          generalize 2 ^ 1022 = t at *
          omega
        have pl : Plc m (2 ^ bits) := ⟨sc0, Nat.le_trans zm (Nat.pow_le_pow_right (by decide) (by decide)), Nat.le_trans s20 (Nat.pow_le_pow_right (by decide) (by decide))⟩
        refine ⟨_, rfl, a, dx, _, rfl, s2 _ _ h1, rfl, _, rfl, _, rfl, a, p0, m, 2 ^ bits, rfl, CrAt.keeps _ _ _ _ s2 hc, pl, fun H3 s3 => ?_⟩
        rw [dy]
        refine ⟨_, rfl, _, _, rfl, rfl, _, rfl, ?_⟩
        by_cases d : Kv.cb (Kqg1.layerChains p0) (Kqg1.dyadic m bits) ≤ k
        · rw [decide_eq_true d]
          exact iteT ⟨_, rfl, s2.trans s3, m, hi, _, rfl, d, c2, zm, z2, by omega⟩
        · rw [decide_eq_false d]
          exact iteF ⟨_, rfl, s2.trans s3, lo, m, _, rfl, c1, by omega, z1, zm, by omega⟩
    · rw [decide_eq_false c]
      refine iteF ⟨_, rfl, ?_⟩
      have e : hi = lo + 1 := by omega
      rw [e] at c2
      obtain ⟨k1, k2⟩ := Kv.rootFloor_spec fm pt (Kv.far_rootBound h5 h6) hk bits
      have : lo = Kqg1.rootFloor p0 k bits := Kv.floor_unique fm c1 c2 k1 k2
      rw [this]
      exact kk H2 s2
theorem dis_pol {p s : List Int} {p0 : List Rat} (G : Pol p p0) (hp : Kv.Ht p 860) (S : Dis s p0) : Pol s (Kqg1.squarefree p0) := by
  have sf := Kv.sf_spec G.t0 G.n0
  obtain ⟨w, hw⟩ : Kv.Dv (Kv.zr s) (Kv.zr p) := S.sim.symm.dv.trans (sf.dv.trans G.sim.dv)
  obtain ⟨W, _, eW⟩ := Kv.whole_quotient S.prim hw
  exact ⟨S.tr, S.ne, S.l7, Kv.ht_le (Kv.factor_ht G.tr G.ne G.l7 S.l7 hp (fun x => by rw [← eW]; exact hw x)) (by decide), sf.tr, Kv.ne_of_dv G.t0 G.n0 sf.dv, S.sim⟩
abbrev sDf : Stmt := topS 75
abbrev NDf : List Str := ["polynomial", "bits", "roots", "index"]
theorem scDf : FnScope NDf ["polynomial", "bits"] (defScope sDf) := ⟨rfl, rfl, rfl, by decide +kernel, rfl, by decide +kernel, by decide +kernel⟩
def flo (p0 : List Rat) (bits : Nat) : List Int := (List.range (Kqg1.countRoots (Kqg1.squarefree p0) .minusInfinity .plusInfinity)).map fun k => Kqg1.rootFloor (Kqg1.squarefree p0) k bits
def spDf : Sp := fun vs H Q _ => ∃ (a : Addr) (p : List Int) (p0 : List Rat) (bits : Nat), vs = [.ref a, .int (bits : Int)] ∧ LI H a p ∧ Pol p p0 ∧ Kv.Ht p 860 ∧ bits ≤ 20 ∧ ((flo p0 bits).length ≤ 49 → GiveL H Q (flo p0 bits))
theorem df_df {C : Addr} (T : CrC K C) (N : Nm mg) (F : Fx K mg "distinct_root_floors" sDf) (D_distinct_part : Df P w K mg base "distinct_part" 38 ["polynomial"] spDp) (D_CountedRoots : Dk P w K mg base "CountedRoots" C 39 ["self", "polynomial"] (spCrI C))
    (D_root_floor : Df P w K mg base "root_floor" 6 ["roots", "index", "bits"] (spRf C)) : Df P w K mg base "distinct_root_floors" 41 ["polynomial", "bits"] spDf := by
  refine df_of F scDf (fun _ _ _ _ _ _ us hl => match us, hl with | [_, _], _ => rfl) (fun vs H Q E h => ?_) (fun f cdv A outer s H vs Q E hr h => ?_)
  · obtain ⟨a, p, p0, bits, rfl, _⟩ := h
    rfl
  · obtain ⟨a, p, p0, bits, rfl, hp, G, hh, hb, k⟩ := h
    refine ⟨_, (pss_cons (ps_set (i := 2) scDf.nd rfl (.inr rfl) (pmk D_CountedRoots (hr.mono (by decide)) (pa_cons (pd D_distinct_part (hr.mono (by decide)) (pa_cons (pv 0) pa_nil)) pa_nil)))
      (pss_one (ps_ret (pe_lc (own := [("index", 3)]) (g := gName 3) (by rfl) scDf.nd (pi_range1 (by rfl) N.range (pa_cons (pe_fldK K (pv 2)) pa_nil)) (blkOk_by (N := NDf) (sc := defScope sDf) (by decide +kernel)) (fun _ _ _ _ _ => pg_name (i := 3) scDf.nd rfl (Or.inl rfl)) (fun _ _ _ _ _ => pts_nil) (fun _ _ _ _ _ => (pd D_root_floor (hr.mono (by decide)) (pa_cons (pv 2) (pa_cons (pv 3) (pa_cons (pv 1) pa_nil))))))))), ?_⟩
    refine ⟨_, rfl, a, p, p0, rfl, hp, G, fun u S H1 d s1 hd => ?_⟩
    have G2 := dis_pol G hh S
    refine fun x dx hx hdx ne => mk_counted hd G2 hx hdx ne fun H2 s2 hc => ?_
    have bd := cr_tot hc
    obtain ⟨dx, ch, Ls, b, h1, h2⟩ := id hc
    have cn := Kv.count_all (Kv.fam_layers G2.t0 G2.n0).1
    have nl : (flo p0 bits).length = (Kv.tot (Kqg1.layerChains (Kqg1.squarefree p0))).toNat := by
      unfold flo Kqg1.countRoots
      rw [List.length_map, List.length_range]
      omega
    refine ⟨_, rfl, x, C, dx, _, _, rfl, h1, T.cl, T.total, rfl, _, rfl, by omega, by omega, fun D hD => lc_det walk_range (fun i => ((flo p0 bits).take i).map V.int) (by simp) (fun i _ => by rw [List.length_map, List.length_take]; omega) hD (fun _ _ => trivial) (fun i y H3 H' hi s' hy N Rk _ r => ?_) fun H3 s3 eD => ?_⟩
    · obtain ⟨rfl, rfl⟩ := hy
      have hf : (flo p0 bits)[i]? = some (Kqg1.rootFloor (Kqg1.squarefree p0) i bits) := by
        unfold flo at nl ⊢
        rw [List.length_map, List.length_range] at nl
        rw [List.getElem?_map, List.getElem?_range (by omega)]
        rfl
      have e0 : (0 : Int) + (i : Nat) = (i : Nat) := by omega
      refine ⟨rfl, _, rfl, _, rfl, _, rfl, x, _, i, bits, ?_, CrAt.keeps _ _ _ _ s' hc, by omega, hb, fun H4 s4 => r _ H4 s4 (by rw [take_more hf, List.map_append]; rfl)⟩
      show [V.ref x, V.int (0 + ((i : Nat) : Int)), V.int bits] = _
      rw [e0]
    · rw [← nl, List.take_length] at eD
      exact k (by omega) H3 D (s1.trans (s2.trans s3)) eD
abbrev sJf : Stmt := topS 76
abbrev NJf : List Str := ["first", "second", "pairs", "place", "bits", "pair"]
theorem scJf : FnScope NJf ["first", "second", "pairs", "place", "bits"] (defScope sJf) := ⟨rfl, rfl, rfl, by decide +kernel, rfl, by decide +kernel, by decide +kernel⟩
def spJf : Sp := fun vs H Q _ => ∃ (a b c : Addr) (p0 q0 : List Rat) (k bits : Nat), vs = [.ref a, .ref b, .ref c, .int (k : Int), .int (bits : Int)] ∧ Two H a b p0 q0 ∧ Prs H c (Kqg2.jointMultiplicities p0 q0) ∧ k < (Kqg2.jointMultiplicities p0 q0).length ∧ (Kqg2.jointMultiplicities p0 q0).length ≤ 21 ∧ bits ≤ 20 ∧
  GiveV H Q (.int (Kqg1.rootFloor (Kv.JP p0 q0) k bits))
theorem df_jf {C : Addr} (N : Nm mg) (F : Fx K mg "joint_root_floor" sJf) (D_CountedRoots : Dk P w K mg base "CountedRoots" C 39 ["self", "polynomial"] (spCrI C))
    (D_root_floor : Df P w K mg base "root_floor" 6 ["roots", "index", "bits"] (spRf C)) : Df P w K mg base "joint_root_floor" 41 ["first", "second", "pairs", "place", "bits"] spJf := by
  refine df_of F scJf (fun _ _ _ _ _ _ us hl => match us, hl with | [_, _, _, _, _], _ => rfl) (fun vs H Q E h => ?_) (fun f cdv A outer s H vs Q E hr h => ?_)
  · obtain ⟨a, b, c, p0, q0, k, bits, rfl, _⟩ := h
    rfl
  · obtain ⟨a, b, c, p0, q0, k, bits, rfl, G, ⟨as, hA⟩, hk, hl, hb, kk⟩ := h
    refine ⟨_, (pss_cons (ps_if (pt_cmpR op_gt (pe_ix (ix_tupK K) (pe_ix (ix_listK K) (pv 2) (pv 3) (fun _ _ => rfl)) pe_int (fun _ _ => rfl)) pe_int (nomark _)) (pss_one (ps_ret (pd D_root_floor (hr.mono (by decide)) (pa_cons (pmk D_CountedRoots (hr.mono (by decide)) (pa_cons (pv 0) pa_nil)) (pa_cons (pe_callB (cr_sum rfl) (by rfl) N.sum (by decide +kernel) (pa_cons (pe_lc (own := [("pair", 5)]) (g := gName 5) (by rfl) scJf.nd (pi_list (pe_slice sl_list (pv 2) po_none (po_some (pv 3)))) (blkOk_by (N := NJf) (sc := defScope sJf) (by decide +kernel)) (fun _ _ _ _ _ => pg_name (i := 5) scJf.nd rfl (Or.inl rfl)) (fun _ _ _ _ _ => pts_nil) (fun _ _ _ _ _ => (pe_ix (ix_tupK K) (pv 5) pe_int (fun _ _ => rfl)))) pa_nil)) (pa_cons (pv 4) pa_nil)))))) pss_nil)
      (pss_one (ps_ret (pd D_root_floor (hr.mono (by decide)) (pa_cons (pmk D_CountedRoots (hr.mono (by decide)) (pa_cons (pv 1) pa_nil)) (pa_cons (pe_callB (cr_sum rfl) (by rfl) N.sum (by decide +kernel) (pa_cons (pe_lc (own := [("pair", 5)]) (g := gName 5) (by rfl) scJf.nd (pi_list (pe_slice sl_list (pv 2) po_none (po_some (pv 3)))) (blkOk_by (N := NJf) (sc := defScope sJf) (by decide +kernel)) (fun _ _ _ _ _ => pg_name (i := 5) scJf.nd rfl (Or.inl rfl)) (fun _ _ _ _ _ => pts_nil) (fun _ _ _ _ _ => (pe_ix (ix_tupK K) (pv 5) pe_int (fun _ _ => rfl)))) pa_nil)) (pa_cons (pv 4) pa_nil))))))), ?_⟩
    obtain ⟨⟨p, q, hp, hq, G1, G2⟩, sp, sq⟩ := id G
    obtain ⟨x, hx⟩ : ∃ x, (Kqg2.jointMultiplicities p0 q0)[k]? = some x := ⟨_, List.getElem?_eq_getElem hk⟩
    obtain ⟨f1, f2, _⟩ := Kv.joint_floor G1.t0 G1.n0 sp G2.t0 G2.n0 sq hx bits
    obtain ⟨e, he, pe⟩ := hA.get hx
    have al := hA.len
    refine ⟨_, rfl, _, rfl, c, _, _, _, rfl, rfl, SqL.of hA.lst, at_of rfl (ref_at he), e, _, 0, _, rfl, rfl, SqT.of pe, rfl, _, _, rfl, rfl, _, rfl, ?_⟩
    have sm : ∀ (f : Nat × Nat → Int) (i : Nat), i ≤ k → ((((Kqg2.jointMultiplicities p0 q0).take k).take i).map f).length ≤ 10000 := fun f i _ => by
      rw [List.length_map, List.length_take, List.length_take]; omega
    have cut : cutV (as.map V.ref) Option.none (some (k : Int)) = (as.take k).map V.ref := by
      rw [cut_up _ (by rw [List.length_map, al]; omega), ← List.map_take]
    have tl : (as.take k).length = k := by rw [List.length_take]; omega
    by_cases c0 : 0 < x.1
    · rw [decide_eq_true (show (0 : Int) < (x.1 : Int) by omega)]
      obtain ⟨i, hi, fl, it⟩ := f1 c0
      refine iteT ⟨_, rfl, fun y dy hy hdy ne => mk_counted hp G1 hy hdy ne fun H2 s2 hc => ?_⟩
      have hA2 := s2 _ _ hA.lst
      refine ⟨_, rfl, ?_⟩
      refine ⟨_, rfl, _, rfl, c, _, rfl, SqL.of hA2, fun m hm => ?_⟩
      rw [cut]
      have s3 := upd_new (o := .lst ((as.take k).map V.ref)) hm
      refine ⟨m, rfl, ⟨_, SqL.of upd_same⟩, fun D hD => lc_det (walk_list (xs := (as.take k).map V.ref)) (fun i => ((((Kqg2.jointMultiplicities p0 q0).take k).take i).map fun y => (y.1 : Int)).map V.int) (by simp) (fun i _ => by rw [List.length_map, List.length_map, List.length_take, List.length_take]; omega) hD (fun H' s' => SqL.of (s' _ _ upd_same)) (fun j v H3 H' hj s' hy N Rk _ r => ?_) fun H3 s4 eD => ?_⟩
      · obtain ⟨rfl, hv⟩ := hy
        rw [List.length_map, tl] at hj
        rw [List.getElem?_map, List.getElem?_take_of_lt hj] at hv
        obtain ⟨g, z, hg, hz, rfl, pz⟩ := hA.ofV (show (as.map V.ref)[j]? = some v by rw [List.getElem?_map]; exact hv)
        have hz2 : ((Kqg2.jointMultiplicities p0 q0).take k)[j]? = some z := by rw [List.getElem?_take_of_lt hj]; exact hz
        exact ⟨rfl, _, rfl, g, _, 0, _, rfl, rfl, SqT.of ((s2.trans (s3.trans s')) _ _ pz), rfl, r _ H' (Same.refl _) (by rw [take_more hz2, List.map_append, List.map_append]; rfl)⟩
      · have e9 : ((Kqg2.jointMultiplicities p0 q0).take k).take ((as.take k).map V.ref).length = (Kqg2.jointMultiplicities p0 q0).take k := by
          rw [List.length_map, tl, List.take_take, Nat.min_self]
        rw [e9] at eD
        refine ⟨D, _, rfl, SqL.of eD, ?_⟩
        rw [Kv.sum_sum, ← hi]
        refine ⟨_, rfl, y, p0, i, bits, rfl, CrAt.keeps _ _ _ _ (s3.trans s4) hc, it, hb, fun H4 s5 => ?_⟩
        rw [fl]
        exact kk H4 (s2.trans (s3.trans (s4.trans s5)))
    · rw [decide_eq_false (show ¬ (0 : Int) < (x.1 : Int) by omega)]
      obtain ⟨i, hi, fl, it⟩ := f2 (by omega)
      refine iteF ⟨_, rfl, fun y dy hy hdy ne => mk_counted hq G2 hy hdy ne fun H2 s2 hc => ?_⟩
      have hA2 := s2 _ _ hA.lst
      refine ⟨_, rfl, ?_⟩
      refine ⟨_, rfl, _, rfl, c, _, rfl, SqL.of hA2, fun m hm => ?_⟩
      rw [cut]
      have s3 := upd_new (o := .lst ((as.take k).map V.ref)) hm
      refine ⟨m, rfl, ⟨_, SqL.of upd_same⟩, fun D hD => lc_det (walk_list (xs := (as.take k).map V.ref)) (fun i => ((((Kqg2.jointMultiplicities p0 q0).take k).take i).map fun y => (y.2 : Int)).map V.int) (by simp) (fun i _ => by rw [List.length_map, List.length_map, List.length_take, List.length_take]; omega) hD (fun H' s' => SqL.of (s' _ _ upd_same)) (fun j v H3 H' hj s' hy N Rk _ r => ?_) fun H3 s4 eD => ?_⟩
      · obtain ⟨rfl, hv⟩ := hy
        rw [List.length_map, tl] at hj
        rw [List.getElem?_map, List.getElem?_take_of_lt hj] at hv
        obtain ⟨g, z, hg, hz, rfl, pz⟩ := hA.ofV (show (as.map V.ref)[j]? = some v by rw [List.getElem?_map]; exact hv)
        have hz2 : ((Kqg2.jointMultiplicities p0 q0).take k)[j]? = some z := by rw [List.getElem?_take_of_lt hj]; exact hz
        exact ⟨rfl, _, rfl, g, _, 1, _, rfl, rfl, SqT.of ((s2.trans (s3.trans s')) _ _ pz), rfl, r _ H' (Same.refl _) (by rw [take_more hz2, List.map_append, List.map_append]; rfl)⟩
      · have e9 : ((Kqg2.jointMultiplicities p0 q0).take k).take ((as.take k).map V.ref).length = (Kqg2.jointMultiplicities p0 q0).take k := by
          rw [List.length_map, tl, List.take_take, Nat.min_self]
        rw [e9] at eD
        refine ⟨D, _, rfl, SqL.of eD, ?_⟩
        rw [Kv.sum_sum, ← hi]
        refine ⟨_, rfl, y, q0, i, bits, rfl, CrAt.keeps _ _ _ _ (s3.trans s4) hc, it, hb, fun H4 s5 => ?_⟩
        rw [fl]
        exact kk H4 (s2.trans (s3.trans (s4.trans s5)))
end
end Il
namespace Kv
theorem frac_low {n d : Int} (h : 0 < d) : ((n : Rat) / (d : Rat)).num = n / (Int.gcd n d : Int) ∧ (((n : Rat) / (d : Rat)).den : Int) = d / (Int.gcd n d : Int) ∧ 0 < Int.gcd n d := by
  have g0 : 0 < Int.gcd n d := Int.gcd_pos_of_ne_zero_right _ (by omega)
  rw [← Rat.divInt_eq_div]
  refine ⟨?_, ?_, g0⟩
  · rw [Rat.num_divInt, Int.sign_eq_one_of_pos h, Int.one_mul, Int.gcd_comm]
  · rw [Rat.den_divInt, if_neg (by omega), Int.gcd_comm]
    rw [Int.natCast_ediv]
    congr 1
    omega
theorem tr_take_q {p : List Rat} {c : Nat} {x : Rat} (h : p[c]? = some x) (hx : x ≠ 0) : Tr (p.take (c + 1)) := by
  rw [take_last h]
  exact .inr (by rw [ld_snoc]; exact hx)
theorem trim_take_q {p : List Rat} {c : Nat} (h : p[c]? = some 0) : Kqg1.trim (p.take (c + 1)) = Kqg1.trim (p.take c) := by
  rw [take_last h, trim_snoc]
end Kv
namespace Il
open PySem PySem.Spec PyProof.Rows L2
def FrAt (H : Hp) (a : Addr) (q : Rat) : Prop := H a = some (.tup [.int q.num, .int (q.den : Int)])
theorem FrAt.keeps : Keeps FrAt := fun _ _ _ _ s h => s _ _ h
theorem FrAt.apart : Apart FrAt := fun H d as o a x hd n h => by show upd H d o a = _; rw [upd_ne n]; exact h
abbrev FrPo := Ls FrAt
theorem frpo_keeps : Keeps FrPo := Ls.keeps FrAt.keeps
section
variable {P : Program} {w : World} {K : PySem.W.Frag} {mg : Str → Option Value} {base : Heap}
abbrev sLt : Stmt := topS 35
abbrev NLt : List Str := ["numerator", "denominator", "divisor"]
theorem scLt : FnScope NLt ["numerator", "denominator"] (defScope sLt) := ⟨rfl, rfl, rfl, by decide +kernel, rfl, by decide +kernel, by decide +kernel⟩
def spLt : Sp := fun vs H Q _ => ∃ n d : Int, vs = [.int n, .int d] ∧ 0 < d ∧ n.natAbs ≤ 2 ^ 8000 ∧ d.natAbs ≤ 2 ^ 8000 ∧ NewS FrAt H Q ((n : Rat) / (d : Rat))
theorem df_lt (F : Fx K mg "lowest_terms" sLt) (D_greatest_divisor : Df P w K mg base "greatest_divisor" 1 ["first", "second"] spGd) : Df P w K mg base "lowest_terms" 2 ["numerator", "denominator"] spLt := by
  refine df_of F scLt (fun _ _ _ _ _ _ us hl => match us, hl with | [_, _], _ => rfl) (fun vs H Q E h => ?_) (fun f cdv A outer s H vs Q E hr h => ?_)
  · obtain ⟨n, d, rfl, _⟩ := h
    rfl
  · obtain ⟨n, d, rfl, d0, hn, hd, k⟩ := h
    refine ⟨_, (pss_cons (ps_set (i := 2) scLt.nd rfl (.inl rfl) (pd D_greatest_divisor (hr.mono (by decide)) (pa_cons (pv 0) (pa_cons (pv 1) pa_nil))))
      (pss_one (ps_ret (pe_tup (pa_cons (pe_op op_fdivS (pv 0) (pv 2)) (pa_cons (pe_op op_fdivS (pv 1) (pv 2)) pa_nil)))))), ?_⟩
    obtain ⟨e1, e2, g0⟩ := Kv.frac_low (n := n) d0
    have gd : (Int.gcd n d : Int).natAbs ≤ 2 ^ 8000 := by
      refine Nat.le_trans ?_ hd
      rw [Int.natAbs_natCast]
      exact Nat.le_of_dvd (by omega) (by show Nat.gcd _ _ ∣ _; exact Nat.gcd_dvd_right _ _)
    refine ⟨_, rfl, _, rfl, n, d, rfl, ?_⟩
    refine ⟨_, rfl, _, rfl, _, _, rfl, rfl, divS_of (by omega) gd (by decide), _, rfl, _, rfl, _, _, rfl, rfl, divS_of (by omega) gd (by decide), (by show 2 ≤ sizeLine; decide), fun t ht => k _ t (upd_new ht) ht ?_⟩
    show upd H t _ t = _
    rw [upd_same, e1, e2]
    show some (HO.tup [.int (n.fdiv (Int.gcd n d : Int)), .int (d.fdiv (Int.gcd n d : Int))]) = _
    rw [Int.fdiv_eq_ediv_of_nonneg _ (by omega), Int.fdiv_eq_ediv_of_nonneg _ (by omega)]
abbrev sWe : Stmt := topS 36
abbrev NWe : List Str := ["fractions", "count"]
theorem scWe : FnScope NWe ["fractions"] (defScope sWe) := ⟨rfl, rfl, rfl, by decide +kernel, rfl, by decide +kernel, by decide +kernel⟩
def spWe : Sp := fun vs H Q _ => ∃ (a : Addr) (p : List Rat), vs = [.ref a] ∧ FrPo H a p ∧ p.length ≤ 10000 ∧ New FrPo H Q (Kqg1.trim p)
theorem df_we (F : Fx K mg "without_end_zeros" sWe) (T : Nm mg) : Df P w K mg base "without_end_zeros" 1 ["fractions"] spWe := by
  refine df_of F scWe (fun _ _ _ _ _ _ us hl => match us, hl with | [_], _ => rfl) (fun vs H Q E h => ?_) (fun f cdv A outer s H vs Q E hr h => ?_)
  · obtain ⟨a, p, rfl, _⟩ := h
    rfl
  · obtain ⟨a, p, rfl, ⟨as, hA⟩, hl, k⟩ := h
    refine ⟨_, (pss_cons (ps_set (i := 1) scWe.nd rfl (.inl rfl) (pe_callB (call_lenK K) (by rfl) T.len (by decide +kernel) (pa_cons (pv 0) pa_nil)))
      (pss_cons (ps_while PassesOwn.never (PW.pt (pw_and (pt_cmpR op_gt (pv 1) pe_int (nomark _)) (pw_and1 (pt_cmpR op_eq (pe_ix (ix_tupK K) (pe_ix (ix_listK K) (pv 0) (pe_op op_sub (pv 1) pe_int) (fun _ _ => rfl)) pe_int (fun _ _ => rfl)) pe_int (nomark _))))) (pss_one (ps_aug (i := 1) scWe.nd rfl (.inl rfl) pe_int ip_sub)))
      (pss_one (ps_ret (pe_slice sl_list (pv 0) po_none (po_some (pv 1))))))), ?_⟩
    have al := hA.len
    refine ⟨_, rfl, a, _, rfl, Il.Ls.len ⟨as, hA⟩, ?_⟩
    refine while_w (fun σ H' => H' = H ∧ ∃ c : Nat, σ = [some (.ref a), some (.int (c : Int))] ∧ c ≤ p.length ∧ Kqg1.trim (p.take c) = Kqg1.trim p)
      (fun σ _ => match σ with | [_, some (.int c)] => c.toNat | _ => 0) ⟨rfl, p.length, rfl, Nat.le_refl _, by rw [List.take_length]⟩ ?_
    rintro σ H1 ⟨rfl, c, rfl, hc, tc⟩
    have out : Kv.Tr (p.take c) → tRet (tSl (rSlL K) (tVar 0) tNoPart (tPart (tVar 1))) { nx := fun _ H' => Q .non H', rt := Q } [some (.ref a), some (.int (c : Int))] H1 := fun t => by
      refine ⟨_, rfl, _, rfl, _, rfl, a, _, rfl, SqL.of hA.lst, fun q hq => ?_⟩
      rw [cut_up _ (by rw [List.length_map, al]; exact hc), ← List.map_take]
      have e : Kqg1.trim p = p.take c := by rw [← tc, Kv.trim_id t]
      rw [e] at k
      refine k _ q (upd_new hq) hq ⟨as.take c, upd_same, by rw [List.length_take, List.length_take, al], fun i b x h1 h2 => ?_⟩
      have il := (List.getElem?_eq_some_iff.mp h1).1
      rw [List.length_take] at il
      rw [List.getElem?_take_of_lt (by omega)] at h1 h2
      exact FrAt.keeps _ _ _ _ (upd_new hq) (hA.at_ i b x h1 h2)
    refine ⟨_, rfl, _, _, rfl, rfl, _, rfl, ?_⟩
    cases c with
    | zero => exact iteF (iteF (out .nil))
    | succ c =>
      obtain ⟨x, hx⟩ : ∃ x, p[c]? = some x := ⟨_, List.getElem?_eq_getElem (by omega)⟩
      obtain ⟨b, hb, pb⟩ := hA.get hx
      rw [decide_eq_true (show (0 : Int) < ((c + 1 : Nat) : Int) by omega)]
      refine iteT ⟨_, rfl, _, rfl, _, _, rfl, rfl, a, _, _, _, rfl, rfl, SqL.of hA.lst, at_of (j := c) (by omega) (ref_at hb), b, _, 0, _, rfl, rfl, SqT.of pb, rfl, rfl, _, rfl, ?_⟩
      by_cases z : x = 0
      · subst z
        refine iteT ⟨fun σ' H' => H' = H1 ∧ σ' = [some (.ref a), some (.int c)], ?_, ?_⟩
        · rintro σ' H' ⟨rfl, rfl⟩
          exact ⟨_, (by show c < ((c + 1 : Nat) : Int).toNat; omega), rfl, rfl, c, rfl, by omega, (Kv.trim_take_q hx).symm.trans tc⟩
        · refine ⟨_, rfl, _, _, rfl, rfl, rfl, ?_⟩
          show [some (V.ref a), some (V.int (((c + 1 : Nat) : Int) - 1))] = _
          rw [show ((c + 1 : Nat) : Int) - 1 = (c : Int) by omega]
      · rw [decide_eq_false (fun q => z (Rat.num_eq_zero.mp (V.int.inj q)))]
        exact iteF (out (Kv.tr_take_q hx z))
abbrev sFn : Stmt := topS 37
abbrev NFn : List Str := ["numerators", "denominator", "numerator"]
theorem scFn : FnScope NFn ["numerators", "denominator"] (defScope sFn) := ⟨rfl, rfl, rfl, by decide +kernel, rfl, by decide +kernel, by decide +kernel⟩
def spFn : Sp := fun vs H Q _ => ∃ (a : Addr) (c : List Int) (d : Int), vs = [.ref a, .int d] ∧ LI H a c ∧ c.length ≤ 10000 ∧ 0 < d ∧ d.natAbs ≤ 2 ^ 8000 ∧ Kv.Ht c 8000 ∧ New FrPo H Q (Kqg1.trim (c.map fun (x : Int) => ((x : Rat) / (d : Rat))))
theorem df_fn (F : Fx K mg "from_numerators" sFn) (D_lowest_terms : Df P w K mg base "lowest_terms" 2 ["numerator", "denominator"] spLt) (D_without_end_zeros : Df P w K mg base "without_end_zeros" 1 ["fractions"] spWe) :
    Df P w K mg base "from_numerators" 3 ["numerators", "denominator"] spFn := by
  refine df_of F scFn (fun _ _ _ _ _ _ us hl => match us, hl with | [_, _], _ => rfl) (fun vs H Q E h => ?_) (fun f cdv A outer s H vs Q E hr h => ?_)
  · obtain ⟨a, c, d, rfl, _⟩ := h
    rfl
  · obtain ⟨a, c, d, rfl, hc, lc, d0, hd, hh, k⟩ := h
    refine ⟨_, (pss_one (ps_ret (pd D_without_end_zeros (hr.mono (by decide)) (pa_cons (pe_lc (own := [("numerator", 2)]) (g := gName 2) (by rfl) scFn.nd (pi_list (pv 0)) (blkOk_by (N := NFn) (sc := defScope sFn) (by decide +kernel)) (fun _ _ _ _ _ => pg_name (i := 2) scFn.nd rfl (Or.inl rfl)) (fun _ _ _ _ _ => pts_nil) (fun _ _ _ _ _ => (pd D_lowest_terms (hr.mono (by decide)) (pa_cons (pv 2) (pa_cons (pv 1) pa_nil))))) pa_nil)))), ?_⟩
    refine ⟨_, rfl, a, rfl, ⟨_, hc.sq⟩, fun D hD => lc_news FrAt.keeps FrAt.apart (fun i y => ∃ x : Int, c[i]? = some x ∧ y = (x : Rat) / (d : Rat)) hc.sq hD (by rw [List.length_map]; exact lc) (fun i x hx H' R s' r => ?_) fun ys H' ly hy s' hys => ?_⟩
    · obtain ⟨z, hz, rfl⟩ := li_get hx
      exact ⟨rfl, _, rfl, _, rfl, z, d, rfl, d0, hh _ (List.mem_of_getElem? hz), hd, fun H2 b s2 n2 h2 => r _ b H2 ⟨z, hz, rfl⟩ s2 n2 h2⟩
    · rw [List.length_map] at ly
      have e := zs_map (f := fun x : Int => (x : Rat) / (d : Rat)) ly fun i y x h1 h2 => by
        obtain ⟨x', e1, e2⟩ := hy i y h1
        rw [h2] at e1
        rw [Option.some.inj e1]
        exact e2
      rw [e] at hys
      exact ⟨D, _, rfl, hys, by rw [List.length_map]; exact lc, fun H2 b s2 n2 h2 => k H2 b (s'.trans s2) (s'.free n2) h2⟩
abbrev sCt : Stmt := topS 39
abbrev NCt : List Str := ["polynomial", "power"]
theorem scCt : FnScope NCt ["polynomial", "power"] (defScope sCt) := ⟨rfl, rfl, rfl, by decide +kernel, rfl, by decide +kernel, by decide +kernel⟩
def spCt : Sp := fun vs H Q _ => ∃ (a : Addr) (p : List Rat) (i : Nat), vs = [.ref a, .int (i : Int)] ∧ FrPo H a p ∧ ∀ (H' : Hp) (b : Addr), Same H H' → FrAt H' b (Kqg1.coefficient p i) → Q (.ref b) H'
theorem df_ct (F : Fx K mg "coefficient_at" sCt) (T : Nm mg) : Df P w K mg base "coefficient_at" 1 ["polynomial", "power"] spCt := by
  refine df_of F scCt (fun _ _ _ _ _ _ us hl => match us, hl with | [_, _], _ => rfl) (fun vs H Q E h => ?_) (fun f cdv A outer s H vs Q E hr h => ?_)
  · obtain ⟨a, p, i, rfl, _⟩ := h
    rfl
  · obtain ⟨a, p, i, rfl, ⟨as, hA⟩, k⟩ := h
    refine ⟨_, (pss_cons (ps_if (pt_cmpR op_lt (pv 1) (pe_callB (call_lenK K) (by rfl) T.len (by decide +kernel) (pa_cons (pv 0) pa_nil)) (nomark _)) (pss_one (ps_ret (pe_ix (ix_listK K) (pv 0) (pv 1) (fun _ _ => rfl)))) pss_nil)
      (pss_one (ps_ret (pe_tup (pa_cons pe_int (pa_cons pe_int pa_nil)))))), ?_⟩
    refine ⟨_, rfl, _, rfl, a, _, rfl, Il.Ls.len ⟨as, hA⟩, _, _, rfl, rfl, _, rfl, ?_⟩
    by_cases c : i < p.length
    · rw [decide_eq_true (show (i : Int) < (p.length : Int) by omega)]
      have hx : p[i]? = some p[i] := List.getElem?_eq_getElem c
      obtain ⟨b, hb, pb⟩ := hA.get hx
      have e : Kqg1.coefficient p i = p[i] := by unfold Kqg1.coefficient; rw [List.getD_eq_getElem?_getD, hx]; rfl
      rw [← e] at pb
      exact iteT ⟨_, rfl, _, rfl, a, _, _, _, rfl, rfl, SqL.of hA.lst, at_of rfl (ref_at hb), k H b (Same.refl H) pb⟩
    · rw [decide_eq_false (show ¬ (i : Int) < (p.length : Int) by omega)]
      refine iteF ⟨(by show 2 ≤ sizeLine; decide), fun t ht => k _ t (upd_new ht) ?_⟩
      have e : Kqg1.coefficient p i = 0 := by unfold Kqg1.coefficient; rw [List.getD_eq_getElem?_getD, List.getElem?_eq_none_iff.mpr (by omega)]; rfl
      rw [e]
      exact upd_same
end
end Il
namespace Kv
theorem sum_frac (a b : Int) (l r : Rat) : ((a * l.num * (r.den : Int) + b * r.num * (l.den : Int) : Int) : Rat) / (((l.den : Int) * (r.den : Int) : Int) : Rat) = (a : Rat) * l + (b : Rat) * r := by
  have h1 := rat_eq l
  have h2 := rat_eq r
  have d1 : (l.den : Rat) ≠ 0 := by
    intro z
    have : (l.den : Rat) = ((0 : Nat) : Rat) := z
    have := Rat.natCast_inj.mp this
    exact l.den_nz this
  have d2 : (r.den : Rat) ≠ 0 := by
    intro z
    have : (r.den : Rat) = ((0 : Nat) : Rat) := z
    have := Rat.natCast_inj.mp this
    exact r.den_nz this
  rw [Rat.intCast_add, Rat.intCast_mul, Rat.intCast_mul, Rat.intCast_mul, Rat.intCast_mul, Rat.intCast_mul, Rat.intCast_natCast, Rat.intCast_natCast, ← h1, ← h2]
  have : (a : Rat) * (l * (l.den : Rat)) * (r.den : Rat) + (b : Rat) * (r * (r.den : Rat)) * (l.den : Rat) = ((a : Rat) * l + (b : Rat) * r) * ((l.den : Rat) * (r.den : Rat)) := by grind
  rw [this]
  have n0 : (l.den : Rat) * (r.den : Rat) ≠ 0 := fun z => by rcases mul_zero_cases z with z | z <;> contradiction
  grind
theorem mul_frac (a : Int) (l : Rat) : ((a * l.num : Int) : Rat) / ((l.den : Int) : Rat) = (a : Rat) * l := by
  have h1 := rat_eq l
  have d1 : (l.den : Rat) ≠ 0 := by
    intro z
    have : (l.den : Rat) = ((0 : Nat) : Rat) := z
    have := Rat.natCast_inj.mp this
    exact l.den_nz this
  rw [Rat.intCast_mul, Rat.intCast_natCast, ← h1]
  grind
theorem sm_coef {p : List Rat} (h : Sm p) (i : Nat) : (Kqg1.coefficient p i).num.natAbs ≤ 2 ^ 100 ∧ ((Kqg1.coefficient p i).den : Int).natAbs ≤ 2 ^ 100 ∧ 0 < ((Kqg1.coefficient p i).den : Int) := by
  have t : 10 ^ 30 ≤ 2 ^ 100 := by decide
  have pos : 0 < ((Kqg1.coefficient p i).den : Int) := by have := (Kqg1.coefficient p i).den_pos; omega
  unfold Kqg1.coefficient at pos ⊢
  rw [List.getD_eq_getElem?_getD] at pos ⊢
  cases e : p[i]? with
  | none => rw [e] at pos; exact ⟨by show (0 : Rat).num.natAbs ≤ _; decide, by show ((0 : Rat).den : Int).natAbs ≤ _; decide, pos⟩
  | some x =>
    rw [e] at pos
    obtain ⟨a, b⟩ := h.2 x (List.mem_of_getElem? e)
    exact ⟨Nat.le_trans a t, by rw [Int.natAbs_natCast]; exact Nat.le_trans b t, pos⟩
end Kv
namespace Il
open PySem PySem.Spec PyProof.Rows L2
theorem frat_upd {H : Hp} {a d : Addr} {xs : List V} {o : HO} {x : Rat} (h : FrAt H a x) (hd : H d = some (.lst xs)) : FrAt (upd H d o) a x := by
  show upd H d o a = _
  rw [upd_ne]
  · exact h
  · rintro rfl
    have := hd.symm.trans h
    cases this
theorem lc_newsW {α : Type} {Ra : Hp → Addr → α → Prop} (kp : Keeps Ra) (ap : Apart Ra) {J : It} {n : Nat} {G : Hp → Prop} {Y : Nat → Hp → V → Hp → Prop} (w : Walk J n G Y) {g : TG} {te : TE} {vs : List Nat} {σ : L2.St} {H1 : Hp} {D : Addr} {Qd : Hp → Prop} (R : Nat → α → Prop) (hD : H1 D = Option.none) (sz : n ≤ 10000) (hG : ∀ H, Same H1 H → G H)
    (hs : ∀ (i : Nat) (x : V) (H H' : Hp), i < n → Same H1 H → Y i H x H' → ∀ (Rk : VK), (∀ (z : α) (b : Addr) (H2 : Hp), R i z → Same H H2 → H b = Option.none → Ra H2 b z → Rk (.ref b) H2) → g x (wipe σ vs) H' fun σ2 H2 => wipe σ2 vs = wipe σ vs ∧ te σ2 H2 Rk)
    (hd : ∀ (zs : List α) (H : Hp), zs.length = n → (∀ (i : Nat) (z : α), zs[i]? = some z → R i z) → Same H1 H → Ls Ra H D zs → Qd H) :
    ∃ W : Nat → Nat → Hp → Prop, (∃ m, W 0 m (upd H1 D (.lst []))) ∧ ∀ i m H, W i m H →
      (J.stop i H ∧ Qd H) ∨ (J.go i H ∧ ∃ Nx : Hp → Prop, (∀ H', Nx H' → ∃ m', m' < m ∧ W (i + 1) m' H') ∧ ∀ x H', J.yld i H x H' → g x (wipe σ vs) H' fun σ2 H2 => wipe σ2 vs = wipe σ vs ∧ tYes σ2 H2 fun b H3 =>
        if b = true then te σ2 H3 fun y H4 => ∃ acc, H4 D = some (.lst acc) ∧ acc.length < sizeLine ∧ Nx (upd H4 D (.lst (acc ++ [y]))) else Nx H3) := by
  refine lc_it w (fun i H => Same H1 H ∧ ∃ (cs : List Addr) (zs : List α), LsAt Ra H D zs cs ∧ (∀ c ∈ cs, c ≠ D) ∧ zs.length = i ∧ ∀ (j : Nat) (z : α), zs[j]? = some z → R j z)
    ⟨upd_new hD, [], [], ⟨upd_same, rfl, fun i b x h => by simp at h⟩, by simp, rfl, fun j z h => by simp at h⟩ (fun i H _ e => hG H e.1) (fun i x H H' hi ⟨s2, cs, zs, hC, nD, li, hj⟩ hy => ?_) (fun H ⟨s2, cs, zs, hC, nD, li, hj⟩ => hd zs H li hj s2 ⟨cs, hC⟩)
  refine hs i x H H' hi s2 hy _ fun z b H3 hz s3 n3 h3 => ?_
  have hD3 := s3 _ _ hC.lst
  have bD : b ≠ D := fun e => by rw [e, hC.lst] at n3; cases n3
  refine ⟨_, hD3, ?_, same_own (s2.trans s3) hD, cs ++ [b], zs ++ [z], ?_, fun e he => ?_, by rw [List.length_append, li]; rfl, fun j u hu => ?_⟩
  · rw [List.length_map, hC.len, li]
    exact small_of (show i ≤ 10000 by omega)
  · exact LsAt.snoc (R := Ra) (H := H3) ⟨hD3, hC.len, fun i b x h1 h2 => kp _ _ _ _ s3 (hC.at_ i b x h1 h2)⟩ (fun j e y h1 h2 => ap _ _ _ _ _ _ hD3 (nD e (List.mem_of_getElem? h1)) (kp _ _ _ _ s3 (hC.at_ j e y h1 h2))) (ap _ _ _ _ _ _ hD3 bD h3)
  · rcases List.mem_append.mp he with q | q
    · exact nD e q
    · rw [List.mem_singleton.mp q]
      exact bD
  · by_cases q : j < zs.length
    · rw [List.getElem?_append_left q] at hu
      exact hj j u hu
    · have l1 := (List.getElem?_eq_some_iff.mp hu).1
      rw [List.length_append, List.length_singleton] at l1
      have ej : j = zs.length := by omega
      subst ej
      rw [List.getElem?_append_right (Nat.le_refl _), Nat.sub_self] at hu
      have e1 : z = u := Option.some.inj hu
      rw [← e1, li]
      exact hz
theorem zs_range {α : Type} {f : Nat → α} {n : Nat} {zs : List α} (l : zs.length = n) (h : ∀ (i : Nat) (z : α), zs[i]? = some z → z = f i) : zs = (List.range n).map f := by
  refine List.ext_getElem? fun i => ?_
  rw [List.getElem?_map]
  by_cases c : i < n
  · have e : zs[i]? = some (zs[i]'(by omega)) := List.getElem?_eq_getElem _
    rw [List.getElem?_range c, e]
    exact congrArg some (h i _ e)
  · rw [List.getElem?_eq_none_iff.mpr (by omega), List.getElem?_eq_none_iff.mpr (by simp; omega)]; rfl
section
variable {P : Program} {w : World} {K : PySem.W.Frag} {mg : Str → Option Value} {base : Heap}
abbrev sFr : Stmt := topS 38
abbrev NFr : List Str := ["numerators", "denominator", "product", "scale", "numerator", "raised", "lowered", "left", "right", "coefficient"]
theorem scFr : FnScope NFr ["numerators", "denominator"] (defScope sFr) := ⟨rfl, rfl, rfl, by decide +kernel, rfl, by decide +kernel, by decide +kernel⟩
def spFr : Sp := fun vs H Q _ => ∃ (a : Addr) (c : List Int) (d : Int), vs = [.ref a, .int d] ∧ LI H a c ∧ c.length ≤ 6 ∧ 0 < d ∧ d ≤ 1000 ∧ (∀ r ∈ c, r.natAbs ≤ 1000) ∧ New FrPo H Q (Kv.prd (d : Rat) c)
theorem df_fr (F : Fx K mg "from_roots" sFr) (T : Nm mg) (D_from_numerators : Df P w K mg base "from_numerators" 3 ["numerators", "denominator"] spFn) : Df P w K mg base "from_roots" 4 ["numerators", "denominator"] spFr := by
  refine df_of F scFr (fun _ _ _ _ _ _ us hl => match us, hl with | [_, _], _ => rfl) (fun vs H Q E h => ?_) (fun f cdv A outer s H vs Q E hr h => ?_)
  · obtain ⟨a, c, d, rfl, _⟩ := h
    rfl
  · obtain ⟨a, c, d, rfl, hc, lc, d0, d1, hr', k⟩ := h
    refine ⟨_, (pss_cons (ps_set (i := 2) scFr.nd rfl (.inl rfl) (pe_lst (pa_cons pe_int pa_nil)))
      (pss_cons (ps_set (i := 3) scFr.nd rfl (.inl rfl) pe_int)
      (pss_cons (ps_for PassesOwn.never rfl (pi_list (pv 0)) (pg_name (i := 4) scFr.nd rfl (.inr rfl)) (pss_cons (ps_set (i := 5) scFr.nd rfl (.inl rfl) (pe_op op_cat (pe_lst (pa_cons pe_int pa_nil)) (pe_lc (own := [("coefficient", 9)]) (g := gName 9) (by rfl) scFr.nd (pi_list (pv 2)) (blkOk_by (N := NFr) (sc := defScope sFr) (by decide +kernel)) (fun _ _ _ _ _ => pg_name (i := 9) scFr.nd rfl (Or.inl rfl)) (fun _ _ _ _ _ => pts_nil) (fun _ _ _ _ _ => (pe_op op_mulX (pv 1) (pv 9))))))
      (pss_cons (ps_set (i := 6) scFr.nd rfl (.inl rfl) (pe_op op_cat (pe_lc (own := [("coefficient", 9)]) (g := gName 9) (by rfl) scFr.nd (pi_list (pv 2)) (blkOk_by (N := NFr) (sc := defScope sFr) (by decide +kernel)) (fun _ _ _ _ _ => pg_name (i := 9) scFr.nd rfl (Or.inl rfl)) (fun _ _ _ _ _ => pts_nil) (fun _ _ _ _ _ => (pe_op op_mulX (pv 4) (pv 9)))) (pe_lst (pa_cons pe_int pa_nil))))
      (pss_cons (ps_setLc (i := 2) (own := [("left", 7), ("right", 8)]) (g := gTup K 2 (gCons (gName 7) (gCons (gName 8) gNil))) (by rfl) scFr.nd rfl rfl (sw_true rfl rfl rfl (by decide +kernel)) (pi_zip (by rfl) T.zip (pa_cons (pv 5) (pa_cons (pv 6) pa_nil))) (blkOk_by (N := NFr) (sc := defScope sFr) (by decide +kernel)) (fun _ _ _ _ _ => pg_tup (by rfl) (pgs_cons (pg_name (i := 7) scFr.nd rfl (Or.inl rfl)) (pgs_cons (pg_name (i := 8) scFr.nd rfl (Or.inl rfl)) pgs_nil))) (fun _ _ _ _ _ => pts_nil) (fun _ _ _ _ _ => (pe_op op_sub (pv 7) (pv 8))))
      (pss_one (ps_aug (i := 3) scFr.nd rfl (.inl rfl) (pv 1) ip_mulX))))))
      (pss_one (ps_ret (pd D_from_numerators (hr.mono (by decide)) (pa_cons (pv 2) (pa_cons (pv 3) pa_nil)))))))), ?_⟩
    have dk : d.natAbs ≤ 2 ^ 10 := by omega
    have rk : ∀ i, ∀ r ∈ c.take i, r.natAbs ≤ 2 ^ 10 := fun i r hr => by have := hr' r (List.mem_of_mem_take hr); omega
    have rh : ∀ i, Kv.Ht (Kv.rts d (c.take i)) 66 := fun i => Kv.ht_le (Kv.rts_ht dk _ (rk i)) (by rw [List.length_take]; omega)
    have rl : ∀ i, (Kv.rts d (c.take i)).length ≤ 7 := fun i => by rw [Kv.rts_len, List.length_take]; omega
    refine ⟨(by show 1 ≤ sizeLine; decide), fun pr hpr => ?_⟩
    have s1 := upd_new (o := .lst [.int 1]) hpr
    refine ⟨_, rfl, a, rfl, ⟨_, (hc.same s1).sq⟩, for_list (K := K) (a := a) (xs := c.map V.int) (fun i σ H' => Same H H' ∧ ∃ (pr : Addr) (v4 v5 v6 : Option V), σ = [some (.ref a), some (.int d), some (.ref pr), some (.int (d ^ i)), v4, v5, v6, none, none, none] ∧ LI H' pr (Kv.rts d (c.take i)))
      ⟨s1, pr, none, none, none, by rw [Int.pow_zero]; rfl, upd_same⟩ (fun i σ H' _ e => (hc.same e.1).sq) ?_ ?_⟩
    · rintro i x σ H2 hx ⟨s2, pr, v4, v5, v6, rfl, hp⟩
      obtain ⟨r, hz, rfl⟩ := li_get hx
      have il := (List.getElem?_eq_some_iff.mp hz).1
      have rm := hr' r (List.mem_of_getElem? hz)
      have rb := rl i
      have rht := rh i
      have st : Kv.rts d (c.take (i + 1)) = Kv.stp d r (Kv.rts d (c.take i)) := by rw [take_more hz, Kv.rts_snoc]
      generalize Kv.rts d (c.take i) = p at hp rb rht st
      refine ⟨(by show 1 ≤ sizeLine; decide), fun l1 hl1 => ?_⟩
      have t1 := upd_new (o := .lst [.int 0]) hl1
      refine ⟨_, rfl, pr, rfl, ⟨_, (hp.same t1).sq⟩, fun D1 hD1 => lc_det (walk_list (xs := p.map V.int)) (fun j => ((p.take j).map fun a => d * a).map V.int) (by simp) (fun j _ => by rw [List.length_map, List.length_map, List.length_take]; omega) hD1 (fun H' s' => ((hp.same t1).same s').sq) (fun j v H3 H' hj s' hy N Rk _ rr => ?_) fun H3 s3 eD => ?_⟩
      · obtain ⟨rfl, hv⟩ := hy
        obtain ⟨z, hz, rfl⟩ := li_get hv
        exact ⟨rfl, _, rfl, _, rfl, _, _, rfl, rfl, mulX_of dk (rht _ (List.mem_of_getElem? hz)) (by decide), rr _ _ (Same.refl _) (by rw [take_more hz, List.map_append, List.map_append]; rfl)⟩
      rw [List.length_map, List.take_length] at eD
      refine ⟨l1, D1, _, _, rfl, rfl, s3 _ _ upd_same, eD, ?_, fun ra hra => ?_⟩
      · rw [List.length_map, List.length_map]
        show 1 + p.length ≤ 16777216
        omega
      have t2 := t1.trans (s3.trans (upd_new (o := .lst (V.int 0 :: (p.map fun a => d * a).map V.int)) hra))
      refine ⟨_, rfl, pr, rfl, ⟨_, (hp.same t2).sq⟩, fun D2 hD2 => lc_det (walk_list (xs := p.map V.int)) (fun j => ((p.take j).map fun a => r * a).map V.int) (by simp) (fun j _ => by rw [List.length_map, List.length_map, List.length_take]; omega) hD2 (fun H' s' => ((hp.same t2).same s').sq) (fun j v H4 H' hj s' hy N Rk _ rr => ?_) fun H4 s4 eD4 => ?_⟩
      · obtain ⟨rfl, hv⟩ := hy
        obtain ⟨z, hz, rfl⟩ := li_get hv
        exact ⟨rfl, _, rfl, _, rfl, _, _, rfl, rfl, mulX_of (a := 10) (by omega) (rht _ (List.mem_of_getElem? hz)) (by decide), rr _ _ (Same.refl _) (by rw [take_more hz, List.map_append, List.map_append]; rfl)⟩
      rw [List.length_map, List.take_length] at eD4
      refine ⟨(by show 1 ≤ sizeLine; decide), fun l2 hl2 => ?_⟩
      have t3 := upd_new (o := .lst [.int 0]) hl2
      refine ⟨D2, l2, _, _, rfl, rfl, t3 _ _ eD4, upd_same, ?_, fun rb' hrb => ?_⟩
      · rw [List.length_map, List.length_map]
        show p.length + 1 ≤ 16777216
        omega
      have t4 := upd_new (o := .lst ((p.map fun a => r * a).map V.int ++ [V.int 0])) hrb
      have tA := s4.trans (t3.trans t4)
      have hra5 : LI (upd (upd H4 l2 (.lst [.int 0])) rb' (.lst ((p.map fun a => r * a).map V.int ++ [V.int 0]))) ra (0 :: p.map fun a => d * a) := tA _ _ upd_same
      have hrb5 : LI (upd (upd H4 l2 (.lst [.int 0])) rb' (.lst ((p.map fun a => r * a).map V.int ++ [V.int 0]))) rb' ((p.map fun a => r * a) ++ [0]) := by
        show upd _ rb' _ rb' = _
        rw [upd_same, List.map_append]
        rfl
      generalize hH5 : upd (upd H4 l2 (.lst [.int 0])) rb' (.lst ((p.map fun a => r * a).map V.int ++ [V.int 0])) = H5 at tA hra5 hrb5
      have sl := Kv.stp_len d r p
      refine ⟨_, rfl, _, rfl, ra, rb', _, _, rfl, hra5.sq, hrb5.sq, fun D3 hD3 => lc_det (walk_zip (xs := (0 :: p.map fun a => d * a).map V.int) (ys := ((p.map fun a => r * a) ++ [0]).map V.int) rfl) (fun j => ((Kv.stp d r p).take j).map V.int) (by simp) (fun j _ => by rw [List.length_map, List.length_take]; omega) hD3 (fun H' s' => ⟨(hra5.same s').sq, (hrb5.same s').sq⟩) (fun j v H6 H' hj s' hy N Rk _ rr => ?_) fun H6 s6 eD6 => ?_⟩
      · obtain ⟨t, y, z, rfl, ht, rfl, e1, e2⟩ := hy
        obtain ⟨u, hu, rfl⟩ := li_get e1
        obtain ⟨v, hv, rfl⟩ := li_get e2
        have hs : (Kv.stp d r p)[j]? = some (u - v) := by
          unfold Kv.stp
          rw [List.getElem?_zipWith, hu, hv]
        refine ⟨t, _, rfl, SqT.of upd_same, rfl, _, _, rfl, _, _, rfl, rfl, rfl, ?_⟩
        exact ⟨_, rfl, _, rfl, _, _, rfl, rfl, rr _ _ (upd_new ht) (by rw [take_more hs, List.map_append]; rfl)⟩
      · have e9 : (Kv.stp d r p).take (min ((0 :: p.map fun a => d * a).map V.int).length (((p.map fun a => r * a) ++ [0]).map V.int).length) = Kv.stp d r p := by
          refine List.take_of_length_le ?_
          rw [sl]; simp
        rw [e9] at eD6
        have dpow : (d ^ i).natAbs ≤ 2 ^ 60 := Nat.le_trans (Kv.pow_ht dk i) (Nat.pow_le_pow_right (by decide) (by omega))
        refine ⟨_, rfl, _, rfl, _, _, rfl, rfl, mulX_of dpow dk (by decide), s2.trans (t2.trans (tA.trans s6)), D3, some (.int r), some (.ref ra), some (.ref rb'), ?_, by rw [st]; exact eD6⟩
        rw [Int.pow_succ]
        rfl
    · rintro σ H2 ⟨s2, pr, v4, v5, v6, rfl, hp⟩
      rw [List.length_map, List.take_length] at hp
      rw [List.length_map]
      have rb := rl c.length
      have rht := rh c.length
      rw [List.take_length] at rb rht
      have e := Kv.prd_eq d0 c
      rw [← e] at k
      refine ⟨_, rfl, _, rfl, pr, _, _, rfl, hp, by omega, Int.pow_pos d0, Nat.le_trans (Kv.pow_ht dk c.length) (Nat.pow_le_pow_right (by decide) (by omega)), Kv.ht_le rht (by decide), fun H3 b s3 n3 h3 => k H3 b (s2.trans s3) (s2.free n3) h3⟩
abbrev sSm : Stmt := topS 40
abbrev NSm : List Str := ["first", "first_factor", "second", "second_factor", "fractions", "power", "left", "right", "numerator"]
theorem scSm : FnScope NSm ["first", "first_factor", "second", "second_factor"] (defScope sSm) := ⟨rfl, rfl, rfl, by decide +kernel, rfl, by decide +kernel, by decide +kernel⟩
def spSm : Sp := fun vs H Q _ => ∃ (a b : Addr) (p q : List Rat) (x y : Int), vs = [.ref a, .int x, .ref b, .int y] ∧ FrPo H a p ∧ FrPo H b q ∧ Kv.Sm p ∧ Kv.Sm q ∧ x.natAbs ≤ 2 ^ 10 ∧ y.natAbs ≤ 2 ^ 10 ∧ New FrPo H Q (Kqg1.add (Kqg1.scale (x : Rat) p) (Kqg1.scale (y : Rat) q))
theorem df_sm (F : Fx K mg "sum_of_multiples" sSm) (T : Nm mg) (D_coefficient_at : Df P w K mg base "coefficient_at" 1 ["polynomial", "power"] spCt) (D_lowest_terms : Df P w K mg base "lowest_terms" 2 ["numerator", "denominator"] spLt)
    (D_without_end_zeros : Df P w K mg base "without_end_zeros" 1 ["fractions"] spWe) : Df P w K mg base "sum_of_multiples" 3 ["first", "first_factor", "second", "second_factor"] spSm := by
  refine df_of F scSm (fun _ _ _ _ _ _ us hl => match us, hl with | [_, _, _, _], _ => rfl) (fun vs H Q E h => ?_) (fun f cdv A outer s H vs Q E hr h => ?_)
  · obtain ⟨a, b, p, q, x, y, rfl, _⟩ := h
    rfl
  · obtain ⟨a, b, p, q, x, y, rfl, hp, hq, sp, sq, bx, by', k⟩ := h
    refine ⟨_, (pss_cons (ps_set (i := 4) scSm.nd rfl (.inl rfl) (pe_lst pa_nil))
      (pss_cons (ps_for PassesOwn.never rfl (pi_range1 (by rfl) T.range (pa_cons (pe_callB (call_max2 rfl) (by rfl) T.max (by decide +kernel) (pa_cons (pe_callB (call_lenK K) (by rfl) T.len (by decide +kernel) (pa_cons (pv 0) pa_nil)) (pa_cons (pe_callB (call_lenK K) (by rfl) T.len (by decide +kernel) (pa_cons (pv 2) pa_nil)) pa_nil))) pa_nil)) (pg_name (i := 5) scSm.nd rfl (.inl rfl)) (pss_cons (ps_set (i := 6) scSm.nd rfl (.inl rfl) (pd D_coefficient_at (hr.mono (by decide)) (pa_cons (pv 0) (pa_cons (pv 5) pa_nil))))
      (pss_cons (ps_set (i := 7) scSm.nd rfl (.inl rfl) (pd D_coefficient_at (hr.mono (by decide)) (pa_cons (pv 2) (pa_cons (pv 5) pa_nil))))
      (pss_cons (ps_set (i := 8) scSm.nd rfl (.inl rfl) (pe_op op_add (pe_op op_mulX (pe_op op_mulX (pv 1) (pe_ix (ix_tupK K) (pv 6) pe_int (fun _ _ => rfl))) (pe_ix (ix_tupK K) (pv 7) pe_int (fun _ _ => rfl))) (pe_op op_mulX (pe_op op_mulX (pv 3) (pe_ix (ix_tupK K) (pv 7) pe_int (fun _ _ => rfl))) (pe_ix (ix_tupK K) (pv 6) pe_int (fun _ _ => rfl)))))
      (pss_one (ps_expr (pe_bm PySem.F.plainAttrs_list PySem.F.slot_list_append PySem.F.type_list_append mt_append (pv 4) (pa_cons (pd D_lowest_terms (hr.mono (by decide)) (pa_cons (pv 8) (pa_cons (pe_op op_mulX (pe_ix (ix_tupK K) (pv 6) pe_int (fun _ _ => rfl)) (pe_ix (ix_tupK K) (pv 7) pe_int (fun _ _ => rfl))) pa_nil))) pa_nil))))))))
      (pss_one (ps_ret (pd D_without_end_zeros (hr.mono (by decide)) (pa_cons (pv 4) pa_nil)))))), ?_⟩
    have lp := sp.1
    have lq := sq.1
    refine ⟨Nat.zero_le _, fun d hd => ?_⟩
    have s1 := upd_new (o := .lst []) hd
    have hp1 := frpo_keeps _ _ _ _ s1 hp
    have hq1 := frpo_keeps _ _ _ _ s1 hq
    refine ⟨_, rfl, a, _, rfl, Il.Ls.len hp1, _, rfl, b, _, rfl, Il.Ls.len hq1, _, _, rfl, ?_⟩
    have em : (if (q.length : Int) > (p.length : Int) then (q.length : Int) else (p.length : Int)) = ((max p.length q.length : Nat) : Int) := by split <;> omega
    rw [em]
    refine ⟨_, rfl, by omega, by omega, for_range (lo := 0) (n := ((max p.length q.length : Nat) : Int).toNat) (fun i σ H' => Same H H' ∧ (∃ v5 v6 v7 v8 : Option V, σ = [some (.ref a), some (.int x), some (.ref b), some (.int y), some (.ref d), v5, v6, v7, v8]) ∧ FrPo H' d ((List.range i).map fun i => (x : Rat) * Kqg1.coefficient p i + (y : Rat) * Kqg1.coefficient q i))
      ⟨s1, ⟨none, none, none, none, rfl⟩, ⟨[], upd_same, rfl, fun i b x h => by simp at h⟩⟩ ?_ ?_⟩
    · rintro i σ H2 hi ⟨s2, ⟨v5, v6, v7, v8, rfl⟩, hD⟩
      have i8 : i < 8 := by omega
      have e0 : V.int (0 + ((i : Nat) : Int)) = V.int (i : Nat) := congrArg V.int (by omega)
      rw [e0]
      obtain ⟨n1, m1, p1⟩ := Kv.sm_coef sp i
      obtain ⟨n2, m2, p2⟩ := Kv.sm_coef sq i
      have sf := Kv.sum_frac x y (Kqg1.coefficient p i) (Kqg1.coefficient q i)
      have rg : (List.range (i + 1)).map (fun i => (x : Rat) * Kqg1.coefficient p i + (y : Rat) * Kqg1.coefficient q i) = (List.range i).map (fun i => (x : Rat) * Kqg1.coefficient p i + (y : Rat) * Kqg1.coefficient q i) ++ [(x : Rat) * Kqg1.coefficient p i + (y : Rat) * Kqg1.coefficient q i] := by
        rw [List.range_succ, List.map_append]; rfl
      refine ⟨_, rfl, _, rfl, a, p, i, rfl, frpo_keeps _ _ _ _ s2 hp, fun H3 lf s3 hlf => ?_⟩
      refine ⟨_, rfl, _, rfl, b, q, i, rfl, frpo_keeps _ _ _ _ (s2.trans s3) hq, fun H4 rt s4 hrt => ?_⟩
      have hlf4 := FrAt.keeps _ _ _ _ s4 hlf
      rw [rg]
      generalize Kqg1.coefficient p i = l at *
      generalize Kqg1.coefficient q i = r at *
      have b1 := Kv.mul_ht bx n1
      have b2 := Kv.mul_ht b1 m2
      have b3 := Kv.mul_ht by' n2
      have b4 := Kv.mul_ht b3 m1
      have b5 := Kv.mul_ht m1 m2
      have b6 := Kv.add_ht b2 b4
      refine ⟨_, rfl, _, rfl, lf, _, 0, _, rfl, rfl, SqT.of hlf4, rfl, _, _, rfl, rfl, mulX_of bx n1 (by decide), _, rfl, rt, _, 1, _, rfl, rfl, SqT.of hrt, rfl, _, _, rfl, rfl, mulX_of b1 m2 (by decide), ?_⟩
      refine ⟨_, rfl, _, rfl, rt, _, 0, _, rfl, rfl, SqT.of hrt, rfl, _, _, rfl, rfl, mulX_of by' n2 (by decide), _, rfl, lf, _, 1, _, rfl, rfl, SqT.of hlf4, rfl, _, _, rfl, rfl, mulX_of b3 m1 (by decide), _, _, rfl, rfl, ?_⟩
      obtain ⟨cs, hC⟩ := frpo_keeps _ _ _ _ (s3.trans s4) hD
      refine ⟨_, rfl, .inl ⟨rfl, _, SqL.of hC.lst⟩, _, rfl, _, rfl, lf, _, 1, _, rfl, rfl, SqT.of hlf4, rfl, _, rfl, rt, _, 1, _, rfl, rfl, SqT.of hrt, rfl, _, _, rfl, rfl, mulX_of m1 m2 (by decide), ?_⟩
      refine ⟨_, _, rfl, Int.mul_pos p1 p2, Nat.le_trans b6 (Nat.pow_le_pow_right (by decide) (by decide)), Nat.le_trans b5 (Nat.pow_le_pow_right (by decide) (by decide)), fun H5 t s5 n5 h5 => ?_⟩
      rw [sf] at h5
      have hC5 := s5 _ _ hC.lst
      refine ⟨d, _, _, rfl, rfl, hC5, ?_, same_own (s2.trans (s3.trans (s4.trans s5))) hd, ⟨_, _, _, _, rfl⟩, _, LsAt.snoc (R := FrAt) (H := H5) ⟨hC5, hC.len, fun i b x h1 h2 => FrAt.keeps _ _ _ _ s5 (hC.at_ i b x h1 h2)⟩ (fun j e y h1 h2 => frat_upd (FrAt.keeps _ _ _ _ s5 (hC.at_ j e y h1 h2)) hC5) (frat_upd h5 hC5)⟩
      rw [List.length_map, hC.len, List.length_map, List.length_range]
      exact small_of (show i ≤ 8 by omega)
    · rintro σ H2 ⟨s2, ⟨v5, v6, v7, v8, rfl⟩, hD⟩
      have en : ((max p.length q.length : Nat) : Int).toNat = max p.length q.length := rfl
      rw [en] at hD
      refine ⟨_, rfl, d, _, rfl, hD, by rw [List.length_map, List.length_range]; omega, ?_⟩
      rw [Kv.comb_eq]
      exact fun H3 b s3 n3 h3 => k H3 b (s2.trans s3) (s2.free n3) h3
abbrev sFd : Stmt := topS 41
abbrev NFd : List Str := ["polynomial", "power"]
theorem scFd : FnScope NFd ["polynomial"] (defScope sFd) := ⟨rfl, rfl, rfl, by decide +kernel, rfl, by decide +kernel, by decide +kernel⟩
def spFd : Sp := fun vs H Q _ => ∃ (a : Addr) (p : List Rat), vs = [.ref a] ∧ FrPo H a p ∧ Kv.Sm p ∧ Kv.Tr p ∧ New FrPo H Q (Kqg1.derivative p)
theorem df_fd (F : Fx K mg "fraction_derivative" sFd) (T : Nm mg) (D_lowest_terms : Df P w K mg base "lowest_terms" 2 ["numerator", "denominator"] spLt) : Df P w K mg base "fraction_derivative" 3 ["polynomial"] spFd := by
  refine df_of F scFd (fun _ _ _ _ _ _ us hl => match us, hl with | [_], _ => rfl) (fun vs H Q E h => ?_) (fun f cdv A outer s H vs Q E hr h => ?_)
  · obtain ⟨a, p, rfl, _⟩ := h
    rfl
  · obtain ⟨a, p, rfl, hp, sp, tp, k⟩ := h
    refine ⟨_, (pss_one (ps_ret (pe_lc (own := [("power", 1)]) (g := gName 1) (by rfl) scFd.nd (pi_range2 (by rfl) T.range (pa_cons pe_int (pa_cons (pe_callB (call_lenK K) (by rfl) T.len (by decide +kernel) (pa_cons (pv 0) pa_nil)) pa_nil))) (blkOk_by (N := NFd) (sc := defScope sFd) (by decide +kernel)) (fun _ _ _ _ _ => pg_name (i := 1) scFd.nd rfl (Or.inl rfl)) (fun _ _ _ _ _ => pts_nil) (fun _ _ _ _ _ => (pd D_lowest_terms (hr.mono (by decide)) (pa_cons (pe_op op_mulX (pv 1) (pe_ix (ix_tupK K) (pe_ix (ix_listK K) (pv 0) (pv 1) (fun _ _ => rfl)) pe_int (fun _ _ => rfl))) (pa_cons (pe_ix (ix_tupK K) (pe_ix (ix_listK K) (pv 0) (pv 1) (fun _ _ => rfl)) pe_int (fun _ _ => rfl)) pa_nil))))))), ?_⟩
    have lp := sp.1
    refine ⟨_, rfl, a, _, rfl, Il.Ls.len hp, _, _, rfl, ⟨by decide, by decide, by omega, by omega⟩, fun D hD => ?_⟩
    obtain ⟨as, hA⟩ := hp
    refine lc_newsW FrAt.keeps FrAt.apart walk_range (fun i y => i < p.length - 1 ∧ y = ((i + 1 : Nat) : Rat) * Kqg1.coefficient p (i + 1)) hD (by omega) (fun _ _ => trivial) (fun i v H2 H' hi s' hy R r => ?_) fun zs H' lz hz s' hzs => ?_
    · obtain ⟨rfl, rfl⟩ := hy
      have il : i + 1 < p.length := by omega
      have hx : p[i + 1]? = some p[i + 1] := List.getElem?_eq_getElem il
      have ec : Kqg1.coefficient p (i + 1) = p[i + 1] := by unfold Kqg1.coefficient; rw [List.getD_eq_getElem?_getD, hx]; rfl
      obtain ⟨b, hb, pb⟩ := hA.get hx
      rw [← ec] at pb
      obtain ⟨n1, m1, p1⟩ := Kv.sm_coef sp (i + 1)
      have pb := s' _ _ pb
      have mf := Kv.mul_frac ((i + 1 : Nat) : Int) (Kqg1.coefficient p (i + 1))
      generalize Kqg1.coefficient p (i + 1) = l at *
      have hl := s' _ _ hA.lst
      have ei : (1 : Int) + (i : Nat) = ((i + 1 : Nat) : Int) := by omega
      have bi : ((1 : Int) + (i : Nat)).natAbs ≤ 2 ^ 3 := by omega
      have at1 : atI (as.map V.ref) (1 + (i : Nat)) = some (V.ref b) := at_of ei (ref_at hb)
      refine ⟨rfl, _, rfl, _, rfl, _, rfl, a, _, _, _, rfl, rfl, SqL.of hl, at1, b, _, 0, _, rfl, rfl, SqT.of pb, rfl, _, _, rfl, rfl, mulX_of bi n1 (by decide), ?_⟩
      refine ⟨_, rfl, _, rfl, a, _, _, _, rfl, rfl, SqL.of hl, at1, b, _, 1, _, rfl, rfl, SqT.of pb, rfl, ?_⟩
      have b1 := Kv.mul_ht bi n1
      refine ⟨_, _, rfl, p1, Nat.le_trans b1 (Nat.pow_le_pow_right (by decide) (by decide)), Nat.le_trans m1 (Nat.pow_le_pow_right (by decide) (by decide)), fun H3 t s3 n3 h3 => ?_⟩
      rw [ei, mf] at h3
      exact r _ t H3 ⟨by omega, by rw [Rat.intCast_natCast]⟩ s3 n3 h3
    · have e : zs = (List.range (p.length - 1)).map fun i => ((i + 1 : Nat) : Rat) * Kqg1.coefficient p (i + 1) := zs_range (by rw [lz]; omega) fun i z h => (hz i z h).2
      rw [e, Kv.deriv_list tp] at hzs
      exact k H' D s' hD hzs
end
end Il
namespace Kv
def lcmF (p : List Rat) : Nat := p.foldl (fun m q => Nat.lcm m q.den) 1
theorem lcmF_snoc (p : List Rat) (q : Rat) : lcmF (p ++ [q]) = Nat.lcm (lcmF p) q.den := by unfold lcmF; rw [List.foldl_append]; rfl
theorem lcmF_pos (p : List Rat) : 0 < lcmF p := snoc_ind (P := fun p => 0 < lcmF p) (by decide) (fun l x ih => by rw [lcmF_snoc]; exact Nat.lcm_pos ih x.den_pos) p
theorem lcmF_le (p : List Rat) : (∀ q ∈ p, q.den ≤ 2 ^ 100) → lcmF p ≤ 2 ^ (100 * p.length) := snoc_ind (P := fun p => (∀ q ∈ p, q.den ≤ 2 ^ 100) → lcmF p ≤ 2 ^ (100 * p.length)) (fun _ => by decide) (fun l x ih h => by
    rw [lcmF_snoc, List.length_append, List.length_singleton, Nat.mul_add, Nat.pow_add]
    refine Nat.le_trans (Nat.le_of_dvd (Nat.mul_pos (lcmF_pos l) x.den_pos) (Nat.lcm_dvd_mul _ _)) ?_
    exact Nat.mul_le_mul (ih fun q hq => h q (List.mem_append_left _ hq)) (h x (by simp))) p
theorem lcmF_dvd (p : List Rat) : ∀ q ∈ p, q.den ∣ lcmF p := snoc_ind (P := fun p => ∀ q ∈ p, q.den ∣ lcmF p) (fun q h => by simp at h) (fun l x ih q hq => by
    rw [lcmF_snoc]
    rcases List.mem_append.mp hq with h | h
    · exact Nat.dvd_trans (ih q h) (Nat.dvd_lcm_left _ _)
    · rw [List.mem_singleton.mp h]; exact Nat.dvd_lcm_right _ _) p
def whlI (p : List Rat) : List Int := p.map fun q => q.num * ((lcmF p / q.den : Nat) : Int)
theorem whole_psc (p : List Rat) : zr (whlI p) = psc (lcmF p : Rat) p := by
  unfold zr whlI psc
  rw [List.map_map]
  refine List.map_congr_left fun q hq => ?_
  show ((q.num * ((lcmF p / q.den : Nat) : Int) : Int) : Rat) = (lcmF p : Rat) * q
  obtain ⟨k, hk⟩ := lcmF_dvd p q hq
  rw [hk, Nat.mul_div_cancel_left _ q.den_pos, Rat.intCast_mul, Rat.intCast_natCast, Rat.natCast_mul, ← rat_eq q]
  grind
theorem sm_den {p : List Rat} (h : Sm p) : ∀ q ∈ p, q.den ≤ 2 ^ 100 := fun q hq => Nat.le_trans (h.2 q hq).2 (by decide)
theorem whole_ht' {p : List Rat} (h : Sm p) : lcmF p ≤ 2 ^ 700 ∧ Ht (whlI p) 800 := by
  have l := lcmF_le p (sm_den h)
  have l7 := h.1
  have l2 : lcmF p ≤ 2 ^ 700 := Nat.le_trans l (Nat.pow_le_pow_right (by decide) (by omega))
  refine ⟨l2, fun c hc => ?_⟩
  obtain ⟨q, hq, rfl⟩ := List.mem_map.mp hc
  have n1 : q.num.natAbs ≤ 2 ^ 100 := Nat.le_trans (h.2 q hq).1 (by decide)
  have n2 : (((lcmF p / q.den : Nat) : Int)).natAbs ≤ 2 ^ 700 := by
    rw [Int.natAbs_natCast]
    exact Nat.le_trans (Nat.div_le_self _ _) l2
  exact mul_ht n1 n2
end Kv
namespace Il
open PySem PySem.Spec PyProof.Rows L2
theorem whole_pol {p : List Rat} (t : Kv.Tr p) (n : p ≠ []) (s : Kv.Sm p) : Pol (Kv.whlI p) p ∧ Kv.Ht (Kv.whlI p) 860 := by
  obtain ⟨_, h⟩ := Kv.whole_ht' s
  have m0 : ((Kv.lcmF p : Nat) : Rat) ≠ 0 := by
    intro z
    have : ((Kv.lcmF p : Nat) : Rat) = ((0 : Nat) : Rat) := z
    have := Rat.natCast_inj.mp this
    have := Kv.lcmF_pos p
    omega
  refine ⟨⟨?_, fun z => n ?_, ?_, Kv.ht_le h (by decide), t, n, ?_⟩, Kv.ht_le h (by decide)⟩
  · rw [Kv.whole_psc, ← Kv.scale_psc t m0]
    exact Kv.tr_scale _ _
  · unfold Kv.whlI at z
    exact List.map_eq_nil_iff.mp z
  · unfold Kv.whlI
    rw [List.length_map]
    exact s.1
  · refine Kv.Sim.symm ⟨_, m0, fun x => ?_⟩
    rw [Kv.whole_psc, Kv.ev_psc]
section
variable {P : Program} {w : World} {K : PySem.W.Frag} {mg : Str → Option Value} {base : Heap}
abbrev sTl : Stmt := topS 42
abbrev NTl : List Str := ["polynomial", "limit", "numerator", "denominator"]
theorem scTl : FnScope NTl ["polynomial"] (defScope sTl) := ⟨rfl, rfl, rfl, by decide +kernel, rfl, by decide +kernel, by decide +kernel⟩
def okC (q : Rat) : Bool := decide (q.num.natAbs ≤ Kqg1.maxCoefficient) && decide (q.den ≤ Kqg1.maxCoefficient)
def spTl : Sp := fun vs H Q _ => ∃ (a : Addr) (p : List Rat), vs = [.ref a] ∧ FrPo H a p ∧ p.length ≤ 10000 ∧ GiveV H Q (.bl (!(p.all okC)))
theorem df_tl (F : Fx K mg "is_too_large" sTl) (T : Nm mg) : Df P w K mg base "is_too_large" 1 ["polynomial"] spTl := by
  refine df_of F scTl (fun _ _ _ _ _ _ us hl => match us, hl with | [_], _ => rfl) (fun vs H Q E h => ?_) (fun f cdv A outer s H vs Q E hr h => ?_)
  · obtain ⟨a, p, rfl, _⟩ := h
    rfl
  · obtain ⟨a, p, rfl, ⟨as, hA⟩, lp, k⟩ := h
    refine ⟨_, (pss_cons (ps_set (i := 1) scTl.nd rfl (.inr rfl) (pe_op op_pow pe_int pe_int))
      (pss_one (ps_ret (pe_callB (cr_any rfl) (by rfl) T.any (by decide +kernel) (pa_cons (pe_lc (own := [("numerator", 2), ("denominator", 3)]) (g := gTup K 2 (gCons (gName 2) (gCons (gName 3) gNil))) (by rfl) scTl.nd (pi_list (pv 0)) (blkOk_by (N := NTl) (sc := defScope sTl) (by decide +kernel)) (fun _ _ _ _ _ => pg_tup (by rfl) (pgs_cons (pg_name (i := 2) scTl.nd rfl (Or.inl rfl)) (pgs_cons (pg_name (i := 3) scTl.nd rfl (Or.inl rfl)) pgs_nil))) (fun _ _ _ _ _ => pts_nil) (fun _ _ _ _ _ => (pe_or (pe_cmpR op_gt (pe_callB call_abs (by rfl) T.abs (by decide +kernel) (pa_cons (pv 2) pa_nil)) (pv 1) (nomark _)) (pe_one (pe_cmpR op_gt (pv 3) (pv 1) (nomark _)))))) pa_nil))))), ?_⟩
    have al := hA.len
    refine ⟨_, _, rfl, rfl, ⟨by decide, by decide, by decide⟩, ?_⟩
    have ep : (fun i j : Int => V.int (i ^ j.toNat)) 10 30 = V.int (10 ^ 30) := rfl
    rw [ep]
    refine ⟨_, rfl, a, rfl, ⟨_, SqL.of hA.lst⟩, fun D hD => lc_det (walk_list (xs := as.map V.ref)) (fun j => ((p.take j).map fun q => !(okC q)).map V.bl) (by simp) (fun j hj => by rw [List.length_map, List.length_map, List.length_take]; omega) hD (fun H' s' => SqL.of (s' _ _ hA.lst)) (fun i v H2 H' hi s' hy N Rk _ r => ?_) fun H2 s2 eD => ?_⟩
    · obtain ⟨rfl, hv⟩ := hy
      obtain ⟨b, q, hb, hq, rfl, pb⟩ := hA.ofV hv
      have fin := r (V.bl (!(okC q))) H' (Same.refl _) (by rw [take_more hq, List.map_append, List.map_append]; rfl)
      refine ⟨b, _, rfl, SqT.of (s' _ _ pb), rfl, _, _, rfl, _, _, rfl, rfl, rfl, ?_⟩
      refine ⟨_, rfl, q.num, rfl, _, rfl, _, _, rfl, rfl, _, rfl, ?_⟩
      rw [abs_of]
      have mc : Kqg1.maxCoefficient = 10 ^ 30 := rfl
      by_cases c : q.num.natAbs ≤ 10 ^ 30
      · rw [decide_eq_false (show ¬ (10 : Int) ^ 30 < (q.num.natAbs : Int) by omega)]
        refine iteF ⟨_, rfl, _, rfl, _, _, rfl, rfl, ?_⟩
        have : okC q = decide (q.den ≤ 10 ^ 30) := by unfold okC; rw [mc, decide_eq_true c, Bool.true_and]
        rw [this] at fin
        have e : (!decide (q.den ≤ 10 ^ 30)) = decide ((10 : Int) ^ 30 < (q.den : Int)) := by
          rw [Bool.eq_iff_iff]
          simp only [Bool.not_eq_true', decide_eq_false_iff_not, decide_eq_true_eq]
          omega
        rw [e] at fin
        exact fin
      · rw [decide_eq_true (show (10 : Int) ^ 30 < (q.num.natAbs : Int) by omega)]
        have : okC q = false := by unfold okC; rw [mc, decide_eq_false c, Bool.false_and]
        rw [this] at fin
        exact iteT fin
    · rw [List.length_map, al, List.take_length] at eD
      refine ⟨D, _, rfl, SqL.of eD, ?_⟩
      have e : (p.map fun q => !(okC q)).any id = !(p.all okC) := by
        rw [List.any_map]
        induction p with
        | nil => rfl
        | cons x p ih =>
          clear ih
          rw [List.not_all_eq_any_not]
          rfl
      rw [e]
      exact k H2 s2
abbrev sAn : Stmt := topS 43
abbrev NAn : List Str := ["polynomial", "numbers", "numerator", "denominator"]
theorem scAn : FnScope NAn ["polynomial"] (defScope sAn) := ⟨rfl, rfl, rfl, by decide +kernel, rfl, by decide +kernel, by decide +kernel⟩
def spAn : Sp := fun vs H Q _ => ∃ (a : Addr) (p : List Rat), vs = [.ref a] ∧ FrPo H a p ∧ p.length ≤ 7 ∧ GiveL H Q ((p.length : Int) :: p.flatMap Kqg1.fraction)
theorem df_an (F : Fx K mg "as_numbers" sAn) (T : Nm mg) : Df P w K mg base "as_numbers" 1 ["polynomial"] spAn := by
  refine df_of F scAn (fun _ _ _ _ _ _ us hl => match us, hl with | [_], _ => rfl) (fun vs H Q E h => ?_) (fun f cdv A outer s H vs Q E hr h => ?_)
  · obtain ⟨a, p, rfl, _⟩ := h
    rfl
  · obtain ⟨a, p, rfl, ⟨as, hA⟩, lp, k⟩ := h
    refine ⟨_, (pss_cons (ps_set (i := 1) scAn.nd rfl (.inl rfl) (pe_lst (pa_cons (pe_callB (call_lenK K) (by rfl) T.len (by decide +kernel) (pa_cons (pv 0) pa_nil)) pa_nil)))
      (pss_cons (ps_for PassesOwn.never rfl (pi_list (pv 0)) (pg_tup (by rfl) (pgs_cons (pg_name (i := 2) scAn.nd rfl (Or.inl rfl)) (pgs_cons (pg_name (i := 3) scAn.nd rfl (Or.inl rfl)) pgs_nil))) (pss_cons (ps_expr (pe_bm PySem.F.plainAttrs_list PySem.F.slot_list_append PySem.F.type_list_append mt_append (pv 1) (pa_cons (pv 2) pa_nil)))
      (pss_one (ps_expr (pe_bm PySem.F.plainAttrs_list PySem.F.slot_list_append PySem.F.type_list_append mt_append (pv 1) (pa_cons (pv 3) pa_nil))))))
      (pss_one (ps_ret (pv 1))))), ?_⟩
    have al := hA.len
    have fl : ∀ i, (p.take i).flatMap Kqg1.fraction = (p.take i).flatMap fun q => [q.num, (q.den : Int)] := fun i => rfl
    have ln : ∀ l : List Rat, (l.flatMap Kqg1.fraction).length = 2 * l.length := fun l => by
      induction l with
      | nil => rfl
      | cons x l ih => rw [List.flatMap_cons, List.length_append, ih, List.length_cons]; show 2 + _ = _; omega
    refine ⟨_, rfl, a, _, rfl, Il.Ls.len ⟨as, hA⟩, (by show 1 ≤ sizeLine; decide), fun d hd => ?_⟩
    have s1 := upd_new (o := .lst [.int (p.length : Int)]) hd
    refine ⟨_, rfl, a, rfl, ⟨_, SqL.of (s1 _ _ hA.lst)⟩, for_list (K := K) (a := a) (xs := as.map V.ref) (fun i σ H' => Same H H' ∧ (∃ v v' : Option V, σ = [some (.ref a), some (.ref d), v, v']) ∧ LI H' d ((p.length : Int) :: (p.take i).flatMap Kqg1.fraction))
      ⟨s1, ⟨none, none, rfl⟩, upd_same⟩ (fun i σ H' _ e => SqL.of (e.1 _ _ hA.lst)) ?_ ?_⟩
    · rintro i x σ H2 hx ⟨s2, ⟨v, v', rfl⟩, hD⟩
      obtain ⟨b, q, hb, hq, rfl, pb⟩ := hA.ofV hx
      have il := (List.getElem?_eq_some_iff.mp hq).1
      refine ⟨b, _, rfl, SqT.of (s2 _ _ pb), rfl, _, _, rfl, _, _, rfl, rfl, ?_⟩
      refine ⟨_, rfl, .inl ⟨rfl, _, hD.sq⟩, _, rfl, d, _, _, rfl, rfl, hD, ?_, ?_⟩
      · rw [List.length_map, List.length_cons, ln, List.length_take]
        exact small_of (a := 100) (by omega)
      · refine ⟨_, rfl, .inl ⟨rfl, _, SqL.of upd_same⟩, _, rfl, d, _, _, rfl, rfl, upd_same, ?_, ?_⟩
        · rw [List.length_append, List.length_map, List.length_cons, ln, List.length_take]
          exact small_of (a := 100) (by simp; omega)
        · refine ⟨?_, ⟨_, _, rfl⟩, ?_⟩
          · rw [upd_upd]
            exact same_own s2 hd
          · show upd _ d _ d = _
            rw [upd_same, take_more hq, List.flatMap_append]
            simp [Kqg1.fraction]
    · rintro σ H2 ⟨s2, ⟨v, v', rfl⟩, hD⟩
      rw [List.length_map, al, List.take_length] at hD
      exact ⟨_, rfl, k H2 d s2 hD⟩
abbrev sWm : Stmt := topS 44
abbrev NWm : List Str := ["polynomial", "multiple", "numerator", "denominator"]
theorem scWm : FnScope NWm ["polynomial"] (defScope sWm) := ⟨rfl, rfl, rfl, by decide +kernel, rfl, by decide +kernel, by decide +kernel⟩
def spWm : Sp := fun vs H Q _ => ∃ (a : Addr) (p : List Rat), vs = [.ref a] ∧ FrPo H a p ∧ Kv.Sm p ∧ GiveL H Q (Kv.whlI p)
theorem df_wm (F : Fx K mg "whole_multiple" sWm) (T : Nm mg) (D_least_multiple : Df P w K mg base "least_multiple" 2 ["first", "second"] spLm) : Df P w K mg base "whole_multiple" 3 ["polynomial"] spWm := by
  refine df_of F scWm (fun _ _ _ _ _ _ us hl => match us, hl with | [_], _ => rfl) (fun vs H Q E h => ?_) (fun f cdv A outer s H vs Q E hr h => ?_)
  · obtain ⟨a, p, rfl, _⟩ := h
    rfl
  · obtain ⟨a, p, rfl, ⟨as, hA⟩, sp, k⟩ := h
    refine ⟨_, (pss_cons (ps_set (i := 1) scWm.nd rfl (.inr rfl) pe_int)
      (pss_cons (ps_for PassesOwn.never rfl (pi_list (pv 0)) (pg_tup (by rfl) (pgs_cons (pg_name (i := 2) scWm.nd rfl (Or.inl rfl)) (pgs_cons (pg_name (i := 3) scWm.nd rfl (Or.inl rfl)) pgs_nil))) (pss_one (ps_set (i := 1) scWm.nd rfl (.inr rfl) (pd D_least_multiple (hr.mono (by decide)) (pa_cons (pv 1) (pa_cons (pv 3) pa_nil))))))
      (pss_one (ps_ret (pe_lc (own := [("numerator", 2), ("denominator", 3)]) (g := gTup K 2 (gCons (gName 2) (gCons (gName 3) gNil))) (by rfl) scWm.nd (pi_list (pv 0)) (blkOk_by (N := NWm) (sc := defScope sWm) (by decide +kernel)) (fun _ _ _ _ _ => pg_tup (by rfl) (pgs_cons (pg_name (i := 2) scWm.nd rfl (Or.inl rfl)) (pgs_cons (pg_name (i := 3) scWm.nd rfl (Or.inl rfl)) pgs_nil))) (fun _ _ _ _ _ => pts_nil) (fun _ _ _ _ _ => (pe_op op_mulX (pv 2) (pe_op op_fdivS (pv 1) (pv 3))))))))), ?_⟩
    have al := hA.len
    have l7 := sp.1
    have dn := Kv.sm_den sp
    have lb : ∀ i, Kv.lcmF (p.take i) ≤ 2 ^ 700 := fun i => Nat.le_trans (Kv.lcmF_le _ fun q hq => dn q (List.mem_of_mem_take hq)) (Nat.pow_le_pow_right (by decide) (by rw [List.length_take]; omega))
    refine ⟨_, rfl, a, rfl, ⟨_, SqL.of hA.lst⟩, for_list (K := K) (a := a) (xs := as.map V.ref) (fun i σ H' => H' = H ∧ ∃ v v' : Option V, σ = [some (.ref a), some (.int (Kv.lcmF (p.take i) : Nat)), v, v'])
      ⟨rfl, none, none, rfl⟩ (fun i σ H' _ e => by rw [e.1]; exact SqL.of hA.lst) ?_ ?_⟩
    · rintro i x σ H2 hx ⟨rfl, v, v', rfl⟩
      obtain ⟨b, q, hb, hq, rfl, pb⟩ := hA.ofV hx
      refine ⟨b, _, rfl, SqT.of pb, rfl, _, _, rfl, _, _, rfl, rfl, ?_⟩
      refine ⟨_, rfl, _, rfl, _, q.den, rfl, Kv.lcmF_pos _, q.den_pos, Nat.le_trans (lb i) (Nat.pow_le_pow_right (by decide) (by decide)), Nat.le_trans (dn q (List.mem_of_getElem? hq)) (Nat.pow_le_pow_right (by decide) (by decide)), rfl, some (.int q.num), some (.int (q.den : Int)), ?_⟩
      rw [take_more hq, Kv.lcmF_snoc]
      rfl
    · rintro σ H2 ⟨rfl, v, v', rfl⟩
      rw [List.length_map, al, List.take_length]
      refine ⟨_, rfl, a, rfl, ⟨_, SqL.of hA.lst⟩, fun D hD => lc_det (walk_list (xs := as.map V.ref)) (fun j => ((p.take j).map fun q => q.num * ((Kv.lcmF p / q.den : Nat) : Int)).map V.int) (by simp) (fun j hj => by rw [List.length_map, List.length_map, List.length_take]; omega) hD (fun H' s' => SqL.of (s' _ _ hA.lst)) (fun i v H3 H' hi s' hy N Rk _ r => ?_) fun H3 s2 eD => ?_⟩
      · obtain ⟨rfl, hv⟩ := hy
        obtain ⟨b, q, hb, hq, rfl, pb⟩ := hA.ofV hv
        have qm := List.mem_of_getElem? hq
        have lb7 := lb p.length
        rw [List.take_length] at lb7
        have n1 : q.num.natAbs ≤ 2 ^ 100 := Nat.le_trans (sp.2 q qm).1 (by decide)
        have n2 : ((Kv.lcmF p : Int).fdiv (q.den : Int)) = ((Kv.lcmF p / q.den : Nat) : Int) := by
          rw [Int.fdiv_eq_ediv_of_nonneg _ (by omega)]; rfl
        have n3 : ((Kv.lcmF p : Int).fdiv (q.den : Int)).natAbs ≤ 2 ^ 700 := by
          rw [n2, Int.natAbs_natCast]
          exact Nat.le_trans (Nat.div_le_self _ _) lb7
        have d0 : (q.den : Int) ≠ 0 := by have := q.den_pos; omega
        refine ⟨b, _, rfl, SqT.of (s' _ _ pb), rfl, _, _, rfl, _, _, rfl, rfl, rfl, ?_⟩
        refine ⟨_, rfl, _, rfl, _, rfl, _, _, rfl, rfl, divS_of d0 (by rw [Int.natAbs_natCast]; exact dn q qm) (by decide), _, _, rfl, rfl, mulX_of n1 n3 (by decide), r _ _ (Same.refl _) ?_⟩
        rw [take_more hq, List.map_append, List.map_append, n2]
        rfl
      · rw [List.length_map, al, List.take_length] at eD
        exact k H3 D s2 eD
end
end Il
namespace Il
open PySem PySem.Spec PyProof.Rows L2
structure Gm (mg : Str → Option Value) : Prop extends Nm mg where
  SLOT_COUNT : ∃ t, mg "SLOT_COUNT" = some (.int 4 t)
  NO_SUCH_SLOT : ∃ t, mg "NO_SUCH_SLOT" = some (.int 2 t)
  NOT_CREATED : ∃ t, mg "NOT_CREATED" = some (.int 11 t)
  OUT_OF_RANGE : ∃ t, mg "OUT_OF_RANGE" = some (.int 22 t)
  ZERO_POLYNOMIAL : ∃ t, mg "ZERO_POLYNOMIAL" = some (.int 33 t)
  NO_SUCH_ROOT : ∃ t, mg "NO_SUCH_ROOT" = some (.int 34 t)
  TOO_LARGE : ∃ t, mg "TOO_LARGE" = some (.int 75 t)
  MOST_BITS : ∃ t, mg "MOST_BITS" = some (.int 20 t)
  GREATEST_ARGUMENT_NUMERATOR : ∃ t, mg "GREATEST_ARGUMENT_NUMERATOR" = some (.int 1000000 t)
  GREATEST_ARGUMENT_DENOMINATOR : ∃ t, mg "GREATEST_ARGUMENT_DENOMINATOR" = some (.int 1000 t)
  MOST_COEFFICIENTS : ∃ t, mg "MOST_COEFFICIENTS" = some (.int 7 t)
  MOST_ROOTS : ∃ t, mg "MOST_ROOTS" = some (.int 6 t)
  GREATEST_NUMERATOR : ∃ t, mg "GREATEST_NUMERATOR" = some (.int 1000 t)
  GREATEST_DENOMINATOR : ∃ t, mg "GREATEST_DENOMINATOR" = some (.int 1000 t)
  GREATEST_FACTOR : ∃ t, mg "GREATEST_FACTOR" = some (.int 1000 t)
theorem frpo_apart : Apart FrPo := fun H d as o a x hd n ⟨bs, h⟩ => ⟨bs, by rw [upd_ne n]; exact h.lst, h.len, fun i b q h1 h2 => frat_upd (h.at_ i b q h1 h2) hd⟩
structure PoOk (p : List Rat) : Prop where
  tr : Kv.Tr p
  sm : Kv.Sm p
structure StOk (l : List (List Rat)) : Prop where
  len : l.length = 4
  ok : ∀ p ∈ l, PoOk p
theorem StOk.at_ {l : List (List Rat)} (h : StOk l) (i : Nat) : PoOk (Kqg2.polynomialIn l i) := by
  unfold Kqg2.polynomialIn
  rw [List.getD_eq_getElem?_getD]
  cases e : l[i]? with
  | none => exact ⟨.nil, by decide, fun c hc => by simp at hc⟩
  | some p => exact h.ok p (List.mem_of_getElem? e)
abbrev Slots := Ls FrPo
theorem slots_keeps : Keeps Slots := Ls.keeps frpo_keeps
structure InC (K : PySem.W.Frag) (C : Addr) : Prop where
  cl : Cls K C
  polynomials : NoAttr K C "polynomials"
def inF (pl : Addr) : List (Str × V) := [("polynomials", .ref pl)]
def InIs (C : Addr) (H : Hp) (a pl : Addr) : Prop := ∃ dx, H a = some (.ins C dx (inF pl))
def InAt (C : Addr) (H : Hp) (a pl : Addr) : Option (List (List Rat)) → Prop
  | none => InIs C H a pl ∧ H pl = some (.lst [])
  | some l => InIs C H a pl ∧ Slots H pl l ∧ StOk l
theorem InAt.is {C : Addr} {H : Hp} {a pl : Addr} {s : Option (List (List Rat))} (h : InAt C H a pl s) : InIs C H a pl := by
  cases s with
  | none => exact h.1
  | some l => exact h.1
theorem InAt.same {C : Addr} {H H' : Hp} {a pl : Addr} {s : Option (List (List Rat))} (h : InAt C H a pl s) (k : Same H H') : InAt C H' a pl s := by
  cases s with
  | none => obtain ⟨⟨dx, h1⟩, h2⟩ := h; exact ⟨⟨dx, k _ _ h1⟩, k _ _ h2⟩
  | some l => obtain ⟨⟨dx, h1⟩, h2, h3⟩ := h; exact ⟨⟨dx, k _ _ h1⟩, slots_keeps _ _ _ _ k h2, h3⟩
def Els (H : Hp) (pl c : Addr) : Prop := ∃ as : List Addr, H pl = some (.lst (as.map V.ref)) ∧ c ∈ as
def But (a : Addr) (H H' : Hp) : Prop := ∀ b o, H b = some o → b ≠ a → H' b = some o
theorem Same.but {H H' : Hp} (s : Same H H') (a : Addr) : But a H H' := fun b o e _ => s b o e
def SlI (H : Hp) (a : Addr) (sl : List Nat) : Prop := LI H a (sl.map fun (i : Nat) => (i : Int))
section
variable {P : Program} {w : World} {K : PySem.W.Frag} {mg : Str → Option Value} {base : Heap}
abbrev sInI : Stmt := inClass (topS 47) 0
abbrev NInI : List Str := ["self"]
theorem scInI : FnScope NInI ["self"] (defScope sInI) := ⟨rfl, rfl, rfl, by decide +kernel, rfl, by decide +kernel, by decide +kernel⟩
def spInI (C : Addr) : Sp := fun vs H Q _ => ∃ a dx : Addr, vs = [.ref a] ∧ H a = some (.ins C dx []) ∧ ∀ (H' : Hp) (pl : Addr), InAt C H' a pl none → H pl = none → But a H H' → Q .non H'
theorem dk_in {C : Addr} (T : InC K C) (g : mg "Instance" = some (.ref C)) (F : FxI K C "Instance.__init__" sInI) : Dk P w K mg base "Instance" C 1 ["self"] (spInI C) := by
  refine dk_of g F scInI (fun _ _ _ _ _ _ us hl => match us, hl with | [_], _ => rfl) (fun vs H Q E h => ?_) (fun f cdv A outer s H vs Q E hr h => ?_)
  · obtain ⟨a, dx, rfl, _⟩ := h
    rfl
  · obtain ⟨a, dx, rfl, ha, k⟩ := h
    refine ⟨_, (pss_one (ps_fld (pv 0) (pe_lst pa_nil) rfl)), ?_⟩
    refine ⟨Nat.zero_le _, fun pl hpl => ?_⟩
    have s1 := upd_new (o := .lst []) hpl
    have ha1 := s1 _ _ ha
    have ne : pl ≠ a := (ne_of_none ha hpl).symm
    refine ⟨_, rfl, a, C, dx, _, rfl, ha1, T.cl, T.polynomials, (by show 0 < 1000; decide), ?_⟩
    exact k _ pl ⟨⟨dx, upd_same⟩, by rw [upd_ne ne, upd_same]⟩ hpl fun b o e hb => by rw [upd_ne hb]; exact s1 _ _ e
abbrev sInC : Stmt := inClass (topS 47) 1
abbrev NInC : List Str := ["self", "slot"]
theorem scInC : FnScope NInC ["self"] (defScope sInC) := ⟨rfl, rfl, rfl, by decide +kernel, rfl, by decide +kernel, by decide +kernel⟩
def spInC (C : Addr) : Sp := fun vs H Q _ => ∃ (a pl : Addr), vs = [.ref a] ∧ InIs C H a pl ∧ ∀ (H' : Hp) (pl' : Addr), InAt C H' a pl' (some (List.replicate 4 [])) → H pl' = none → But a H H' → (∀ c, Els H' pl' c → H c = none) → Q .non H'
theorem replicate_ok : StOk (List.replicate 4 []) := ⟨rfl, fun p hp => by rw [List.eq_of_mem_replicate hp]; exact ⟨.nil, by decide, fun c hc => by simp at hc⟩⟩
theorem dm_inc {C : Addr} (T : InC K C) (N : Gm mg) (F : FxM K C "create" "Instance.create" sInC) : Dm P w K mg base C "create" 1 ["self"] (spInC C) := by
  refine dm_of T.cl F scInC (fun _ _ _ _ _ _ us hl => match us, hl with | [_], _ => rfl) (fun vs H Q E h => ?_) (fun f cdv A outer s H vs Q E hr h => ?_)
  · obtain ⟨a, pl, rfl, _⟩ := h
    rfl
  · obtain ⟨a, pl, rfl, ⟨dx, ha⟩, k⟩ := h
    refine ⟨_, (pss_one (ps_fld (pv 0) (pe_lc (own := [("slot", 1)]) (g := gName 1) (by rfl) scInC.nd (pi_range1 (by rfl) N.range (pa_cons (pe_gl N.SLOT_COUNT) pa_nil)) (blkOk_by (N := NInC) (sc := defScope sInC) (by decide +kernel)) (fun _ _ _ _ _ => pg_name (i := 1) scInC.nd rfl (Or.inl rfl)) (fun _ _ _ _ _ => pts_nil) (fun _ _ _ _ _ => (pe_lst pa_nil))) rfl)), ?_⟩
    refine ⟨4, rfl, by decide, by decide, fun D hD => lc_newsW (Ra := fun H' c p => FrPo H' c p ∧ H c = none) (fun _ _ _ _ s h => ⟨frpo_keeps _ _ _ _ s h.1, h.2⟩) (fun _ _ _ _ _ _ hd n h => ⟨frpo_apart _ _ _ _ _ _ hd n h.1, h.2⟩) (walk_range (lo := 0) (n := 4)) (fun i z => z = []) hD (by decide) (fun _ _ => trivial) (fun i v H2 H' hi s' hy R r => ?_) fun zs H' lz hz s' hzs => ?_⟩
    · obtain ⟨rfl, rfl⟩ := hy
      refine ⟨rfl, Nat.zero_le _, fun l hl => r [] l _ rfl (upd_new hl) hl ⟨⟨[], upd_same, rfl, fun i b x h => by simp at h⟩, s'.free hl⟩⟩
    · have e : zs = List.replicate 4 [] := by rw [← lz]; exact List.eq_replicate_iff.mpr ⟨rfl, fun z hm => by obtain ⟨i, hi⟩ := List.getElem?_of_mem hm; exact hz i z hi⟩
      rw [e] at hzs
      have ha1 := s' _ _ ha
      obtain ⟨bs, hB⟩ := hzs
      have ne : D ≠ a := (ne_of_none ha hD).symm
      refine ⟨_, rfl, a, C, dx, _, rfl, ha1, T.cl, T.polynomials, (by show 1 < 1000; decide), ?_⟩
      refine k _ D ⟨⟨dx, upd_same⟩, ⟨bs, by rw [upd_ne ne]; exact hB.lst, hB.len, fun i b x h1 h2 => ?_⟩, replicate_ok⟩ hD (fun b o e hb => by rw [upd_ne hb]; exact s' _ _ e) fun c hc => ?_
      rotate_left
      · obtain ⟨bs', e1, hm⟩ := hc
        rw [upd_ne ne] at e1
        have e2 : bs.map V.ref = bs'.map V.ref := by
          have := hB.lst.symm.trans e1
          injection this with this
          injection this
        have e3 : bs = bs' := List.map_inj_right (fun _ _ h => V.ref.inj h) |>.mp e2
        rw [← e3] at hm
        obtain ⟨i, hi⟩ := List.getElem?_of_mem hm
        have il := (List.getElem?_eq_some_iff.mp hi).1
        have lb := hB.len
        exact (hB.at_ i c _ hi (List.getElem?_eq_getElem (by omega))).2
      obtain ⟨cs, hx⟩ := (hB.at_ i b x h1 h2).1
      have e0 : x = [] := List.eq_of_mem_replicate (List.mem_of_getElem? h2)
      subst e0
      refine ⟨cs, ?_, hx.len, fun j c y g1 g2 => by simp at g2⟩
      rw [upd_ne]
      · exact hx.lst
      · rintro rfl
        have e1 := ha1.symm.trans hx.lst
        cases e1
abbrev sInK : Stmt := inClass (topS 47) 2
abbrev NInK : List Str := ["self"]
theorem scInK : FnScope NInK ["self"] (defScope sInK) := ⟨rfl, rfl, rfl, by decide +kernel, rfl, by decide +kernel, by decide +kernel⟩
def spInK (C : Addr) : Sp := fun vs H Q _ => ∃ (a pl : Addr) (s : Option (List (List Rat))), vs = [.ref a] ∧ InAt C H a pl s ∧ Q (.bl s.isSome) H
theorem dm_ink {C : Addr} (T : InC K C) (N : Gm mg) (F : FxM K C "is_created" "Instance.is_created" sInK) : Dm P w K mg base C "is_created" 1 ["self"] (spInK C) := by
  refine dm_of T.cl F scInK (fun _ _ _ _ _ _ us hl => match us, hl with | [_], _ => rfl) (fun vs H Q E h => ?_) (fun f cdv A outer s H vs Q E hr h => ?_)
  · obtain ⟨a, pl, s, rfl, _⟩ := h
    rfl
  · obtain ⟨a, pl, st, rfl, hi, k⟩ := h
    refine ⟨_, (pss_one (ps_ret (pe_cmpR op_gt (pe_callB (call_lenK K) (by rfl) N.len (by decide +kernel) (pa_cons (pe_fldK K (pv 0)) pa_nil)) pe_int (nomark _)))), ?_⟩
    cases st with
    | none =>
      obtain ⟨⟨dx, h1⟩, h2⟩ := hi
      exact ⟨_, rfl, a, C, dx, _, _, rfl, h1, T.cl, T.polynomials, rfl, pl, 0, rfl, ⟨[], .inl (SqL.of h2), rfl⟩, _, _, rfl, rfl, k⟩
    | some l =>
      obtain ⟨⟨dx, h1⟩, h2, h3⟩ := hi
      refine ⟨_, rfl, a, C, dx, _, _, rfl, h1, T.cl, T.polynomials, rfl, pl, _, rfl, Il.Ls.len h2, _, _, rfl, rfl, ?_⟩
      rw [h3.len]
      exact k
abbrev sInL : Stmt := inClass (topS 47) 3
abbrev NInL : List Str := ["self", "slots", "slot"]
theorem scInL : FnScope NInL ["self", "slots"] (defScope sInL) := ⟨rfl, rfl, rfl, by decide +kernel, rfl, by decide +kernel, by decide +kernel⟩
def lacks (sl : List Nat) : Bool := sl.any fun i => decide (4 ≤ i)
def spInL (C : Addr) : Sp := fun vs H Q _ => ∃ (a pl b dx : Addr) (sl : List Nat), vs = [.ref a, .ref b] ∧ H a = some (.ins C dx (inF pl)) ∧ SlI H b sl ∧ sl.length ≤ 10000 ∧ GiveV H Q (.bl (lacks sl))
theorem dm_inl {C : Addr} (T : InC K C) (N : Gm mg) (F : FxM K C "lacks_slot" "Instance.lacks_slot" sInL) : Dm P w K mg base C "lacks_slot" 1 ["self", "slots"] (spInL C) := by
  refine dm_of T.cl F scInL (fun _ _ _ _ _ _ us hl => match us, hl with | [_, _], _ => rfl) (fun vs H Q E h => ?_) (fun f cdv A outer s H vs Q E hr h => ?_)
  · obtain ⟨a, pl, b, dx, sl, rfl, _⟩ := h
    rfl
  · obtain ⟨a, pl, b, dx, sl, rfl, ha, hb, ls, k⟩ := h
    refine ⟨_, (pss_one (ps_ret (pe_callB (cr_any rfl) (by rfl) N.any (by decide +kernel) (pa_cons (pe_lc (own := [("slot", 2)]) (g := gName 2) (by rfl) scInL.nd (pi_list (pv 1)) (blkOk_by (N := NInL) (sc := defScope sInL) (by decide +kernel)) (fun _ _ _ _ _ => pg_name (i := 2) scInL.nd rfl (Or.inl rfl)) (fun _ _ _ _ _ => pts_nil) (fun _ _ _ _ _ => (pe_cmpR op_ge (pv 2) (pe_gl N.SLOT_COUNT) (nomark _)))) pa_nil)))), ?_⟩
    have hb' : LI H b (sl.map fun (i : Nat) => (i : Int)) := hb
    refine ⟨_, rfl, b, rfl, ⟨_, hb'.sq⟩, fun D hD => lc_det (walk_list (xs := (sl.map fun (i : Nat) => (i : Int)).map V.int)) (fun j => ((sl.take j).map fun i => decide (4 ≤ i)).map V.bl) (by simp) (fun j _ => by rw [List.length_map, List.length_map, List.length_take]; omega) hD (fun H' s' => (hb'.same s').sq) (fun i v H2 H' hi s' hy N Rk _ r => ?_) fun H2 s2 eD => ?_⟩
    · obtain ⟨rfl, hv⟩ := hy
      obtain ⟨z, hz, rfl⟩ := li_get hv
      rw [List.getElem?_map] at hz
      cases e : sl[i]? with
      | none => rw [e] at hz; cases hz
      | some m =>
        rw [e] at hz
        obtain rfl : (m : Int) = z := Option.some.inj hz
        refine ⟨rfl, _, rfl, _, _, rfl, rfl, r _ _ (Same.refl _) ?_⟩
        rw [take_more e, List.map_append, List.map_append]
        have : decide (4 ≤ m) = decide ((4 : Int) ≤ (m : Int)) := by
          rw [Bool.eq_iff_iff]
          simp only [decide_eq_true_eq]
          omega
        show _ ++ [V.bl (decide (4 ≤ m))] = _
        rw [this]
    · rw [List.length_map, List.length_map, List.take_length] at eD
      refine ⟨D, _, rfl, SqL.of eD, ?_⟩
      rw [List.any_map]
      exact k H2 s2
structure InSl (C : Addr) (H : Hp) (a : Addr) (l : List (List Rat)) : Prop where
  ex : ∃ pl, InAt C H a pl (some l)
theorem InSl.same {C : Addr} {H H' : Hp} {a : Addr} {l : List (List Rat)} (h : InSl C H a l) (k : Same H H') : InSl C H' a l := by
  obtain ⟨pl, h⟩ := h
  exact ⟨pl, h.same k⟩
theorem InSl.get {C : Addr} {H : Hp} {a : Addr} {l : List (List Rat)} (h : InSl C H a l) {i : Nat} (hi : i < 4) : ∃ (pl dx b : Addr) (as : List Addr), H a = some (.ins C dx (inF pl)) ∧ H pl = some (.lst (as.map V.ref)) ∧ as[i]? = some b ∧ FrPo H b (Kqg2.polynomialIn l i) ∧ PoOk (Kqg2.polynomialIn l i) := by
  obtain ⟨pl, ⟨dx, h1⟩, ⟨as, hA⟩, ok⟩ := h
  have hx : l[i]? = some (Kqg2.polynomialIn l i) := by
    unfold Kqg2.polynomialIn
    rw [List.getD_eq_getElem?_getD, List.getElem?_eq_getElem (by rw [ok.len]; exact hi)]
    rfl
  obtain ⟨b, hb, pb⟩ := hA.get hx
  exact ⟨pl, dx, b, as, h1, hA.lst, hb, pb, ok.at_ i⟩
abbrev sInP : Stmt := inClass (topS 47) 4
abbrev NInP : List Str := ["self", "slot"]
theorem scInP : FnScope NInP ["self", "slot"] (defScope sInP) := ⟨rfl, rfl, rfl, by decide +kernel, rfl, by decide +kernel, by decide +kernel⟩
def spInP (C : Addr) : Sp := fun vs H Q _ => ∃ (a : Addr) (l : List (List Rat)) (i : Nat), vs = [.ref a, .int (i : Int)] ∧ InSl C H a l ∧ i < 4 ∧ ∀ b, FrPo H b (Kqg2.polynomialIn l i) → Q (.ref b) H
theorem dm_inp {C : Addr} (T : InC K C) (F : FxM K C "polynomial_in" "Instance.polynomial_in" sInP) : Dm P w K mg base C "polynomial_in" 1 ["self", "slot"] (spInP C) := by
  refine dm_of T.cl F scInP (fun _ _ _ _ _ _ us hl => match us, hl with | [_, _], _ => rfl) (fun vs H Q E h => ?_) (fun f cdv A outer s H vs Q E hr h => ?_)
  · obtain ⟨a, l, i, rfl, _⟩ := h
    rfl
  · obtain ⟨a, l, i, rfl, hi, i4, k⟩ := h
    refine ⟨_, (pss_one (ps_ret (pe_ix (ix_listK K) (pe_fldK K (pv 0)) (pv 1) (fun _ _ => rfl)))), ?_⟩
    obtain ⟨pl, dx, b, as, h1, h2, hb, pb, _⟩ := hi.get i4
    exact ⟨_, rfl, a, C, dx, _, _, rfl, h1, T.cl, T.polynomials, rfl, _, rfl, pl, _, _, _, rfl, rfl, SqL.of h2, at_of rfl (ref_at hb), k b pb⟩
abbrev sInZ : Stmt := inClass (topS 47) 5
abbrev NInZ : List Str := ["self", "slot"]
theorem scInZ : FnScope NInZ ["self", "slot"] (defScope sInZ) := ⟨rfl, rfl, rfl, by decide +kernel, rfl, by decide +kernel, by decide +kernel⟩
def zeroIn (l : List (List Rat)) (i : Nat) : Bool := decide (Kqg2.polynomialIn l i = [])
def spInZ (C : Addr) : Sp := fun vs H Q _ => ∃ (a : Addr) (l : List (List Rat)) (i : Nat), vs = [.ref a, .int (i : Int)] ∧ InSl C H a l ∧ i < 4 ∧ Q (.bl (zeroIn l i)) H
theorem dm_inz {C : Addr} (T : InC K C) (N : Gm mg) (F : FxM K C "is_zero_in" "Instance.is_zero_in" sInZ) : Dm P w K mg base C "is_zero_in" 1 ["self", "slot"] (spInZ C) := by
  refine dm_of T.cl F scInZ (fun _ _ _ _ _ _ us hl => match us, hl with | [_, _], _ => rfl) (fun vs H Q E h => ?_) (fun f cdv A outer s H vs Q E hr h => ?_)
  · obtain ⟨a, l, i, rfl, _⟩ := h
    rfl
  · obtain ⟨a, l, i, rfl, hi, i4, k⟩ := h
    refine ⟨_, (pss_one (ps_ret (pe_cmpR op_eq (pe_callB (call_lenK K) (by rfl) N.len (by decide +kernel) (pa_cons (pe_ix (ix_listK K) (pe_fldK K (pv 0)) (pv 1) (fun _ _ => rfl)) pa_nil)) pe_int (nomark _)))), ?_⟩
    obtain ⟨pl, dx, b, as, h1, h2, hb, pb, _⟩ := hi.get i4
    refine ⟨_, rfl, a, C, dx, _, _, rfl, h1, T.cl, T.polynomials, rfl, _, rfl, pl, _, _, _, rfl, rfl, SqL.of h2, at_of rfl (ref_at hb), b, _, rfl, Il.Ls.len pb, rfl, ?_⟩
    have e : decide (V.int ((Kqg2.polynomialIn l i).length : Int) = V.int 0) = zeroIn l i := by
      unfold zeroIn
      rw [Bool.eq_iff_iff, decide_eq_true_iff, decide_eq_true_iff]
      constructor
      · intro h
        have := V.int.inj h
        exact List.eq_nil_iff_length_eq_zero.mpr (by omega)
      · intro h
        rw [h]
        rfl
    rw [e]
    exact k
abbrev sInW : Stmt := inClass (topS 47) 6
abbrev NInW : List Str := ["self", "slot"]
theorem scInW : FnScope NInW ["self", "slot"] (defScope sInW) := ⟨rfl, rfl, rfl, by decide +kernel, rfl, by decide +kernel, by decide +kernel⟩
def spInW (C : Addr) : Sp := fun vs H Q _ => ∃ (a : Addr) (l : List (List Rat)) (i : Nat), vs = [.ref a, .int (i : Int)] ∧ InSl C H a l ∧ i < 4 ∧ GiveL H Q (Kv.whlI (Kqg2.polynomialIn l i))
theorem dm_inw {C : Addr} (T : InC K C) (F : FxM K C "whole_in" "Instance.whole_in" sInW) (D_whole_multiple : Df P w K mg base "whole_multiple" 3 ["polynomial"] spWm) : Dm P w K mg base C "whole_in" 4 ["self", "slot"] (spInW C) := by
  refine dm_of T.cl F scInW (fun _ _ _ _ _ _ us hl => match us, hl with | [_, _], _ => rfl) (fun vs H Q E h => ?_) (fun f cdv A outer s H vs Q E hr h => ?_)
  · obtain ⟨a, l, i, rfl, _⟩ := h
    rfl
  · obtain ⟨a, l, i, rfl, hi, i4, k⟩ := h
    refine ⟨_, (pss_one (ps_ret (pd D_whole_multiple (hr.mono (by decide)) (pa_cons (pe_ix (ix_listK K) (pe_fldK K (pv 0)) (pv 1) (fun _ _ => rfl)) pa_nil)))), ?_⟩
    obtain ⟨pl, dx, b, as, h1, h2, hb, pb, ok⟩ := hi.get i4
    exact ⟨_, rfl, a, C, dx, _, _, rfl, h1, T.cl, T.polynomials, rfl, _, rfl, pl, _, _, _, rfl, rfl, SqL.of h2, at_of rfl (ref_at hb), b, _, rfl, pb, ok.sm, k⟩
abbrev sInS : Stmt := inClass (topS 47) 7
abbrev NInS : List Str := ["self", "slot", "polynomial"]
theorem scInS : FnScope NInS ["self", "slot", "polynomial"] (defScope sInS) := ⟨rfl, rfl, rfl, by decide +kernel, rfl, by decide +kernel, by decide +kernel⟩
theorem slots_ne {H : Hp} {pl b : Addr} {l : List (List Rat)} {p : List Rat} (h : Slots H pl l) (ok : StOk l) (k : FrPo H b p) : b ≠ pl := by
  rintro rfl
  obtain ⟨as, hA⟩ := h
  obtain ⟨bs, hB⟩ := k
  have e : as.map V.ref = bs.map V.ref := by
    have := hA.lst.symm.trans hB.lst
    injection this with this
    injection this
  have l4 := ok.len
  have la := hA.len
  have lb := hB.len
  have le := congrArg List.length e
  rw [List.length_map, List.length_map] at le
  obtain ⟨c, hc, pc⟩ := hA.get (i := 0) (x := l[0]'(by omega)) (List.getElem?_eq_getElem _)
  obtain ⟨c', hc', pc'⟩ := hB.get (i := 0) (x := p[0]'(by omega)) (List.getElem?_eq_getElem _)
  have e2 : V.ref c = V.ref c' := by
    have h1 := ref_at hc
    have h2 := ref_at hc'
    rw [e] at h1
    rw [h1] at h2
    exact Option.some.inj h2
  have e3 : c = c' := V.ref.inj e2
  subst e3
  obtain ⟨cs, hcs⟩ := pc
  have := hcs.lst.symm.trans pc'
  cases this
def spInS (C : Addr) : Sp := fun vs H Q _ => ∃ (a pl b : Addr) (l : List (List Rat)) (i : Nat) (p : List Rat), vs = [.ref a, .int (i : Int), .ref b] ∧ InAt C H a pl (some l) ∧ i < 4 ∧ FrPo H b p ∧ PoOk p ∧
  ∀ H' : Hp, InAt C H' a pl (some (l.set i p)) → But pl H H' → FrPo H' b p → Q .non H'
theorem dm_ins {C : Addr} (T : InC K C) (F : FxM K C "store" "Instance.store" sInS) : Dm P w K mg base C "store" 1 ["self", "slot", "polynomial"] (spInS C) := by
  refine dm_of T.cl F scInS (fun _ _ _ _ _ _ us hl => match us, hl with | [_, _, _], _ => rfl) (fun vs H Q E h => ?_) (fun f cdv A outer s H vs Q E hr h => ?_)
  · obtain ⟨a, pl, b, l, i, p, rfl, _⟩ := h
    rfl
  · obtain ⟨a, pl, b, l, i, p, rfl, hi, i4, hb, pok, k⟩ := h
    refine ⟨_, (pss_one (ps_asg (pv 2) (pg_sub (pe_fldK K (pv 0)) (pv 1) set_list))), ?_⟩
    obtain ⟨⟨dx, h1⟩, hS, ok⟩ := hi
    obtain ⟨as, hA⟩ := id hS
    have al := hA.len
    have l4 := ok.len
    have up : ∀ {c : Addr} {x : List Rat}, FrPo H c x → FrPo (upd H pl (.lst ((as.map V.ref).set i (.ref b)))) c x := fun h => frpo_apart _ _ _ _ _ _ hA.lst (slots_ne hS ok h) h
    refine ⟨_, rfl, _, rfl, a, C, dx, _, _, rfl, h1, T.cl, T.polynomials, rfl, _, rfl, pl, _, (i : Int), i, rfl, rfl, hA.lst, ixN_nat (by rw [List.length_map]; omega), ?_⟩
    have na : a ≠ pl := fun e => by rw [e, hA.lst] at h1; cases h1
    refine k _ ⟨⟨dx, by rw [upd_ne na]; exact h1⟩, ⟨as.set i b, by rw [upd_same, List.map_set], by rw [List.length_set, List.length_set, al], fun j c x g1 g2 => ?_⟩, ⟨by rw [List.length_set]; exact l4, fun x hx => ?_⟩⟩ (fun c o e hc => by rw [upd_ne hc]; exact e) (up hb)
    · by_cases c1 : i = j
      · subst c1
        rw [List.getElem?_set_self (by omega)] at g1
        rw [List.getElem?_set_self (by omega)] at g2
        rw [← Option.some.inj g1, ← Option.some.inj g2]
        exact up hb
      · rw [List.getElem?_set_ne c1] at g1 g2
        exact up (hA.at_ j c x g1 g2)
    · rcases List.mem_or_eq_of_mem_set hx with e | e
      · exact ok.ok x e
      · rw [e]; exact pok
abbrev sRd : Stmt := topS 58
abbrev NRd : List Str := ["code"]
theorem scRd : FnScope NRd ["code"] (defScope sRd) := ⟨rfl, rfl, rfl, by decide +kernel, rfl, by decide +kernel, by decide +kernel⟩
def spRd : Sp := fun vs H Q _ => ∃ c : Int, vs = [.int c] ∧ GiveL H Q [-c]
theorem df_rd (F : Fx K mg "refused" sRd) : Df P w K mg base "refused" 1 ["code"] spRd := by
  refine df_of F scRd (fun _ _ _ _ _ _ us hl => match us, hl with | [_], _ => rfl) (fun vs H Q E h => ?_) (fun f cdv A outer s H vs Q E hr h => ?_)
  · obtain ⟨c, rfl, _⟩ := h
    rfl
  · obtain ⟨c, rfl, k⟩ := h
    refine ⟨_, (pss_one (ps_ret (pe_lst (pa_cons (pe_un un_neg (pv 0)) pa_nil)))), ?_⟩
    exact ⟨_, rfl, c, rfl, (by show 1 ≤ sizeLine; decide), fun l hl => k _ l (upd_new hl) upd_same⟩
abbrev sSr : Stmt := topS 59
abbrev NSr : List Str := ["instance", "slots", "slot"]
theorem scSr : FnScope NSr ["instance", "slots"] (defScope sSr) := ⟨rfl, rfl, rfl, by decide +kernel, rfl, by decide +kernel, by decide +kernel⟩
def rfS (l : List (List Rat)) (sl : List Nat) : List Int := if lacks sl = true then [-2] else if (sl.any (zeroIn l)) = true then [-33] else []
def spSr (C : Addr) : Sp := fun vs H Q _ => ∃ (a b : Addr) (l : List (List Rat)) (sl : List Nat), vs = [.ref a, .ref b] ∧ InSl C H a l ∧ SlI H b sl ∧ sl.length ≤ 10000 ∧ GiveL H Q (rfS l sl)
theorem df_sr {C : Addr} (N : Gm mg) (F : Fx K mg "slot_refusal" sSr) (D_lacks_slot : Dm P w K mg base C "lacks_slot" 1 ["self", "slots"] (spInL C)) (D_is_zero_in : Dm P w K mg base C "is_zero_in" 1 ["self", "slot"] (spInZ C)) (D_refused : Df P w K mg base "refused" 1 ["code"] spRd) :
    Df P w K mg base "slot_refusal" 2 ["instance", "slots"] (spSr C) := by
  refine df_of F scSr (fun _ _ _ _ _ _ us hl => match us, hl with | [_, _], _ => rfl) (fun vs H Q E h => ?_) (fun f cdv A outer s H vs Q E hr h => ?_)
  · obtain ⟨a, b, l, sl, rfl, _⟩ := h
    rfl
  · obtain ⟨a, b, l, sl, rfl, hi, hb, ls, k⟩ := h
    refine ⟨_, (pss_cons (ps_if (pt_val (pm D_lacks_slot (hr.mono (by decide)) (pv 0) (pa_cons (pv 1) pa_nil))) (pss_one (ps_ret (pd D_refused (hr.mono (by decide)) (pa_cons (pe_gl N.NO_SUCH_SLOT) pa_nil)))) pss_nil)
      (pss_cons (ps_if (pt_val (pe_callB (cr_any rfl) (by rfl) N.any (by decide +kernel) (pa_cons (pe_lc (own := [("slot", 2)]) (g := gName 2) (by rfl) scSr.nd (pi_list (pv 1)) (blkOk_by (N := NSr) (sc := defScope sSr) (by decide +kernel)) (fun _ _ _ _ _ => pg_name (i := 2) scSr.nd rfl (Or.inl rfl)) (fun _ _ _ _ _ => pts_nil) (fun _ _ _ _ _ => (pm D_is_zero_in (hr.mono (by decide)) (pv 0) (pa_cons (pv 2) pa_nil)))) pa_nil))) (pss_one (ps_ret (pd D_refused (hr.mono (by decide)) (pa_cons (pe_gl N.ZERO_POLYNOMIAL) pa_nil)))) pss_nil)
      (pss_one (ps_ret (pe_lst pa_nil))))), ?_⟩
    obtain ⟨pl, hi0⟩ := id hi
    obtain ⟨dx, h1⟩ := hi0.is
    have hb' : LI H b (sl.map fun (i : Nat) => (i : Int)) := hb
    refine ⟨_, rfl, a, dx, _, rfl, h1, rfl, _, rfl, a, pl, b, dx, sl, rfl, h1, hb, ls, fun H2 s2 => ⟨_, rfl, ?_⟩⟩
    unfold rfS at k
    by_cases c : lacks sl = true
    · rw [if_pos c] at k
      rw [c]
      exact iteT ⟨2, rfl, fun H3 r s3 h3 => k H3 r (s2.trans s3) h3⟩
    · rw [if_neg c] at k
      have c0 : lacks sl = false := by simpa using c
      rw [c0]
      have small : ∀ i ∈ sl, i < 4 := fun i hi => by
        unfold lacks at c0
        have := List.any_eq_false.mp c0 i hi
        simpa using this
      refine iteF ⟨_, rfl, b, rfl, ⟨_, (hb'.same s2).sq⟩, fun D hD => lc_det (walk_list (xs := (sl.map fun (i : Nat) => (i : Int)).map V.int)) (fun j => ((sl.take j).map (zeroIn l)).map V.bl) (by simp) (fun j _ => by rw [List.length_map, List.length_map, List.length_take]; omega) hD (fun H' s' => (hb'.same (s2.trans s')).sq) (fun i v H3 H' hi' s' hy N Rk _ r => ?_) fun H3 s3 eD => ?_⟩
      · obtain ⟨rfl, hv⟩ := hy
        obtain ⟨z, hz, rfl⟩ := li_get hv
        rw [List.getElem?_map] at hz
        cases e : sl[i]? with
        | none => rw [e] at hz; cases hz
        | some m =>
          rw [e] at hz
          obtain rfl : (m : Int) = z := Option.some.inj hz
          have sA := s2.trans s'
          refine ⟨rfl, _, rfl, a, dx, _, rfl, sA _ _ h1, rfl, _, rfl, a, l, m, rfl, hi.same sA, small m (List.mem_of_getElem? e), r _ _ (Same.refl _) ?_⟩
          rw [take_more e, List.map_append, List.map_append]
          rfl
      · rw [List.length_map, List.length_map, List.take_length] at eD
        refine ⟨D, _, rfl, SqL.of eD, _, rfl, ?_⟩
        rw [List.any_map]
        have sA := s2.trans s3
        have ea : sl.any (id ∘ zeroIn l) = sl.any (zeroIn l) := rfl
        rw [ea]
        by_cases d : sl.any (zeroIn l) = true
        · rw [if_pos d] at k
          rw [d]
          exact iteT ⟨33, rfl, fun H4 r s4 h4 => k H4 r (sA.trans s4) h4⟩
        · rw [if_neg d] at k
          have d0 : sl.any (zeroIn l) = false := by simpa using d
          rw [d0]
          exact iteF ⟨Nat.zero_le _, fun r hr' => k _ r (sA.trans (upd_new hr')) upd_same⟩
abbrev sBr : Stmt := topS 60
abbrev NBr : List Str := ["instance", "slots", "bits", "refusal"]
theorem scBr : FnScope NBr ["instance", "slots", "bits"] (defScope sBr) := ⟨rfl, rfl, rfl, by decide +kernel, rfl, by decide +kernel, by decide +kernel⟩
def rfB (l : List (List Rat)) (sl : List Nat) (bits : Nat) : List Int := if rfS l sl = [] ∧ 20 < bits then [-22] else rfS l sl
theorem rfS_len (l : List (List Rat)) (sl : List Nat) : (rfS l sl).length ≤ 1 := by unfold rfS; split; decide; split <;> decide
def spBr (C : Addr) : Sp := fun vs H Q _ => ∃ (a b : Addr) (l : List (List Rat)) (sl : List Nat) (bits : Nat), vs = [.ref a, .ref b, .int (bits : Int)] ∧ InSl C H a l ∧ SlI H b sl ∧ sl.length ≤ 10000 ∧ GiveL H Q (rfB l sl bits)
theorem df_br {C : Addr} (N : Gm mg) (F : Fx K mg "bits_refusal" sBr) (D_slot_refusal : Df P w K mg base "slot_refusal" 2 ["instance", "slots"] (spSr C)) (D_refused : Df P w K mg base "refused" 1 ["code"] spRd) :
    Df P w K mg base "bits_refusal" 3 ["instance", "slots", "bits"] (spBr C) := by
  refine df_of F scBr (fun _ _ _ _ _ _ us hl => match us, hl with | [_, _, _], _ => rfl) (fun vs H Q E h => ?_) (fun f cdv A outer s H vs Q E hr h => ?_)
  · obtain ⟨a, b, l, sl, bits, rfl, _⟩ := h
    rfl
  · obtain ⟨a, b, l, sl, bits, rfl, hi, hb, ls, k⟩ := h
    refine ⟨_, (pss_cons (ps_set (i := 3) scBr.nd rfl (.inl rfl) (pd D_slot_refusal (hr.mono (by decide)) (pa_cons (pv 0) (pa_cons (pv 1) pa_nil))))
      (pss_cons (ps_if (PW.pt (pw_and (pt_cmpR op_eq (pe_callB (call_lenK K) (by rfl) N.len (by decide +kernel) (pa_cons (pv 3) pa_nil)) pe_int (nomark _)) (pw_and1 (pt_cmpR op_gt (pv 2) (pe_gl N.MOST_BITS) (nomark _))))) (pss_one (ps_ret (pd D_refused (hr.mono (by decide)) (pa_cons (pe_gl N.OUT_OF_RANGE) pa_nil)))) pss_nil)
      (pss_one (ps_ret (pv 3))))), ?_⟩
    refine ⟨_, rfl, _, rfl, a, b, l, sl, rfl, hi, hb, ls, fun H2 r s2 hr2 => ?_⟩
    refine ⟨_, rfl, r, _, rfl, hr2.len, rfl, _, rfl, ?_⟩
    unfold rfB at k
    by_cases c : rfS l sl = []
    · have e : decide (V.int ((rfS l sl).length : Int) = V.int 0) = true := by rw [c]; rfl
      rw [e]
      refine iteT ⟨_, rfl, _, _, rfl, rfl, _, rfl, ?_⟩
      by_cases d : 20 < bits
      · rw [if_pos ⟨c, d⟩] at k
        rw [decide_eq_true (show (20 : Int) < (bits : Int) by omega)]
        exact iteT ⟨22, rfl, fun H3 r s3 h3 => k H3 r (s2.trans s3) h3⟩
      · rw [if_neg (fun q => d q.2)] at k
        rw [decide_eq_false (show ¬ (20 : Int) < (bits : Int) by omega)]
        exact iteF ⟨_, rfl, k H2 r s2 hr2⟩
    · rw [if_neg (fun q => c q.1)] at k
      have e : decide (V.int ((rfS l sl).length : Int) = V.int 0) = false := by
        refine decide_eq_false fun q => c ?_
        have := V.int.inj q
        exact List.eq_nil_iff_length_eq_zero.mpr (by omega)
      rw [e]
      exact iteF (iteF ⟨_, rfl, k H2 r s2 hr2⟩)
abbrev sAr : Stmt := topS 61
abbrev NAr : List Str := ["instance", "slots", "numerator", "denominator", "refusal"]
theorem scAr : FnScope NAr ["instance", "slots", "numerator", "denominator"] (defScope sAr) := ⟨rfl, rfl, rfl, by decide +kernel, rfl, by decide +kernel, by decide +kernel⟩
def rfA (l : List (List Rat)) (sl : List Nat) (n : Int) (d : Nat) : List Int := if rfS l sl = [] then (if Kqg1.isArgument n d = false then [-22] else []) else rfS l sl
def spAr (C : Addr) : Sp := fun vs H Q _ => ∃ (a b : Addr) (l : List (List Rat)) (sl : List Nat) (n : Int) (d : Nat), vs = [.ref a, .ref b, .int n, .int (d : Int)] ∧ InSl C H a l ∧ SlI H b sl ∧ sl.length ≤ 10000 ∧ GiveL H Q (rfA l sl n d)
theorem df_ar {C : Addr} (N : Gm mg) (F : Fx K mg "argument_refusal" sAr) (D_slot_refusal : Df P w K mg base "slot_refusal" 2 ["instance", "slots"] (spSr C)) (D_refused : Df P w K mg base "refused" 1 ["code"] spRd) :
    Df P w K mg base "argument_refusal" 3 ["instance", "slots", "numerator", "denominator"] (spAr C) := by
  refine df_of F scAr (fun _ _ _ _ _ _ us hl => match us, hl with | [_, _, _, _], _ => rfl) (fun vs H Q E h => ?_) (fun f cdv A outer s H vs Q E hr h => ?_)
  · obtain ⟨a, b, l, sl, n, d, rfl, _⟩ := h
    rfl
  · obtain ⟨a, b, l, sl, n, d, rfl, hi, hb, ls, k⟩ := h
    refine ⟨_, (pss_cons (ps_set (i := 4) scAr.nd rfl (.inl rfl) (pd D_slot_refusal (hr.mono (by decide)) (pa_cons (pv 0) (pa_cons (pv 1) pa_nil))))
      (pss_cons (ps_if (pt_cmpR op_gt (pe_callB (call_lenK K) (by rfl) N.len (by decide +kernel) (pa_cons (pv 4) pa_nil)) pe_int (nomark _)) (pss_one (ps_ret (pv 4))) pss_nil)
      (pss_cons (ps_if (pt_cmpR op_gt (pe_callB call_abs (by rfl) N.abs (by decide +kernel) (pa_cons (pv 2) pa_nil)) (pe_gl N.GREATEST_ARGUMENT_NUMERATOR) (nomark _)) (pss_one (ps_ret (pd D_refused (hr.mono (by decide)) (pa_cons (pe_gl N.OUT_OF_RANGE) pa_nil)))) pss_nil)
      (pss_cons (ps_if (PW.pt (pw_or (pt_cmpR op_lt (pv 3) pe_int (nomark _)) (pw_or1 (pt_cmpR op_gt (pv 3) (pe_gl N.GREATEST_ARGUMENT_DENOMINATOR) (nomark _))))) (pss_one (ps_ret (pd D_refused (hr.mono (by decide)) (pa_cons (pe_gl N.OUT_OF_RANGE) pa_nil)))) pss_nil)
      (pss_one (ps_ret (pe_lst pa_nil))))))), ?_⟩
    refine ⟨_, rfl, _, rfl, a, b, l, sl, rfl, hi, hb, ls, fun H2 r s2 hr2 => ?_⟩
    refine ⟨_, rfl, r, _, rfl, hr2.len, _, _, rfl, rfl, _, rfl, ?_⟩
    unfold rfA at k
    by_cases c : rfS l sl = []
    · rw [if_pos c] at k
      rw [c]
      refine iteF ⟨_, rfl, n, rfl, _, _, rfl, rfl, _, rfl, ?_⟩
      rw [abs_of]
      have no : Kqg1.isArgument n d = false → GiveL H Q [-22] := fun e => by rw [if_pos e] at k; exact k
      have ia : Kqg1.isArgument n d = (decide (n.natAbs ≤ 1000000) && decide (1 ≤ d) && decide (d ≤ 1000)) := rfl
      by_cases e1 : n.natAbs ≤ 1000000
      · rw [decide_eq_false (show ¬ (1000000 : Int) < (n.natAbs : Int) by omega)]
        refine iteF ⟨_, rfl, _, _, rfl, rfl, _, rfl, ?_⟩
        by_cases e2 : 1 ≤ d
        · rw [decide_eq_false (show ¬ (d : Int) < 1 by omega)]
          refine iteF ⟨_, rfl, _, _, rfl, rfl, _, rfl, ?_⟩
          by_cases e3 : d ≤ 1000
          · rw [decide_eq_false (show ¬ (1000 : Int) < (d : Int) by omega)]
            have e : Kqg1.isArgument n d = true := by rw [ia, decide_eq_true e1, decide_eq_true e2, decide_eq_true e3]; rfl
            rw [if_neg (by rw [e]; decide)] at k
            exact iteF ⟨Nat.zero_le _, fun q hq => k _ q (s2.trans (upd_new hq)) upd_same⟩
          · rw [decide_eq_true (show (1000 : Int) < (d : Int) by omega)]
            have e := no (by rw [ia, decide_eq_false e3, Bool.and_false])
            exact iteT ⟨22, rfl, fun H3 q s3 h3 => e H3 q (s2.trans s3) h3⟩
        · rw [decide_eq_true (show (d : Int) < 1 by omega)]
          have e := no (by rw [ia, decide_eq_false e2, Bool.and_false, Bool.false_and])
          exact iteT (iteT ⟨22, rfl, fun H3 q s3 h3 => e H3 q (s2.trans s3) h3⟩)
      · rw [decide_eq_true (show (1000000 : Int) < (n.natAbs : Int) by omega)]
        have e := no (by rw [ia, decide_eq_false e1, Bool.false_and, Bool.false_and])
        exact iteT ⟨22, rfl, fun H3 q s3 h3 => e H3 q (s2.trans s3) h3⟩
    · rw [if_neg c] at k
      have pos := List.length_pos_iff.mpr c
      rw [decide_eq_true (show (0 : Int) < ((rfS l sl).length : Int) by omega)]
      exact iteT ⟨_, rfl, k H2 r s2 hr2⟩
end
end Il
namespace Il
open PySem PySem.Spec PyProof.Rows L2
def ans (l : List (List Rat)) (r : Kqg2.Request) : List Int := Kqg2Neutral.fields (Kqg2.step (some l) r).2
abbrev pIn (l : List (List Rat)) (i : Nat) : List Rat := Kqg2.polynomialIn l i
theorem rfS_one (l : List (List Rat)) (i : Nat) : rfS l [i] = if 4 ≤ i then [-2] else if pIn l i = [] then [-33] else [] := by
  unfold rfS lacks zeroIn
  simp only [List.any_cons, List.any_nil, Bool.or_false, decide_eq_true_eq]
theorem rfS_two (l : List (List Rat)) (i j : Nat) : rfS l [i, j] = if 4 ≤ i ∨ 4 ≤ j then [-2] else if pIn l i = [] ∨ pIn l j = [] then [-33] else [] := by
  unfold rfS lacks zeroIn
  simp only [List.any_cons, List.any_nil, Bool.or_false, Bool.or_eq_true, decide_eq_true_eq]
theorem rfS_two_ok {l : List (List Rat)} {i j : Nat} (h : rfS l [i, j] = []) : i < 4 ∧ j < 4 ∧ pIn l i ≠ [] ∧ pIn l j ≠ [] := by
  rw [rfS_two] at h
  by_cases c : 4 ≤ i ∨ 4 ≤ j
  · rw [if_pos c] at h; cases h
  · rw [if_neg c] at h
    by_cases d : pIn l i = [] ∨ pIn l j = []
    · rw [if_pos d] at h; cases h
    · exact ⟨by omega, by omega, fun e => d (.inl e), fun e => d (.inr e)⟩
theorem rfS_one_ok {l : List (List Rat)} {i : Nat} (h : rfS l [i] = []) : i < 4 ∧ pIn l i ≠ [] := by
  rw [rfS_one] at h
  by_cases c : 4 ≤ i
  · rw [if_pos c] at h; cases h
  · rw [if_neg c] at h
    by_cases d : pIn l i = []
    · rw [if_pos d] at h; cases h
    · exact ⟨by omega, d⟩
theorem two_ans (l : List (List Rat)) (i j : Nat) (k : List Rat → List Rat → Kqg2.Result) :
    Kqg2Neutral.fields (Kqg2.ofTwo (some l) l i j k).2 = if rfS l [i, j] = [] then Kqg2Neutral.fields (k (pIn l i) (pIn l j)) else rfS l [i, j] := by
  rw [rfS_two]
  unfold Kqg2.ofTwo Kqg2.noSlot Kqg2.slotCount
  by_cases c : 4 ≤ i ∨ 4 ≤ j
  · have e : (decide (4 ≤ i) || decide (4 ≤ j) || decide (4 ≤ 0)) = true := by
      rcases c with c | c
      · rw [decide_eq_true c]; rfl
      · rw [decide_eq_true c, Bool.or_true]; rfl
    rw [if_pos c]
    dsimp only
    rw [if_pos e, if_neg (by decide)]
    rfl
  · have e : (decide (4 ≤ i) || decide (4 ≤ j) || decide (4 ≤ 0)) = false := by
      rw [decide_eq_false (fun z => c (.inl z)), decide_eq_false (fun z => c (.inr z))]; rfl
    rw [if_neg c]
    dsimp only
    rw [e, if_neg (by decide)]
    by_cases d : pIn l i = [] ∨ pIn l j = []
    · rw [if_pos d, if_pos d, if_neg (by decide)]
      rfl
    · rw [if_neg d, if_neg d, if_pos rfl]
theorem rfS_pos {l : List (List Rat)} {sl : List Nat} : (rfS l sl = [] ∧ decide ((0 : Int) < ((rfS l sl).length : Int)) = false) ∨ (rfS l sl ≠ [] ∧ decide ((0 : Int) < ((rfS l sl).length : Int)) = true) := by
  by_cases c : rfS l sl = []
  · exact .inl ⟨c, by rw [c]; rfl⟩
  · have pos := List.length_pos_iff.mpr c
    exact .inr ⟨c, decide_eq_true (by omega)⟩
theorem InSl.is {C : Addr} {H : Hp} {a : Addr} {l : List (List Rat)} (h : InSl C H a l) : ∃ pl dx, H a = some (.ins C dx (inF pl)) ∧ StOk l := by
  obtain ⟨pl, ⟨dx, h1⟩, _, ok⟩ := h
  exact ⟨pl, dx, h1, ok⟩
theorem two_of {H : Hp} {x y : Addr} {l : List (List Rat)} {i j : Nat} (ok : StOk l) (ni : pIn l i ≠ []) (nj : pIn l j ≠ []) (hx : LI H x (Kv.whlI (pIn l i))) (hy : LI H y (Kv.whlI (pIn l j))) : Two H x y (pIn l i) (pIn l j) := by
  have a := ok.at_ i
  have b := ok.at_ j
  exact ⟨⟨_, _, hx, hy, (whole_pol a.tr ni a.sm).1, (whole_pol b.tr nj b.sm).1⟩, a.sm, b.sm⟩
section
variable {P : Program} {w : World} {K : PySem.W.Frag} {mg : Str → Option Value} {base : Heap}
abbrev sTa : Stmt := topS 63
abbrev NTa : List Str := ["holds"]
theorem scTa : FnScope NTa ["holds"] (defScope sTa) := ⟨rfl, rfl, rfl, by decide +kernel, rfl, by decide +kernel, by decide +kernel⟩
def spTa : Sp := fun vs H Q _ => ∃ b : Bool, vs = [.bl b] ∧ GiveL H Q [if b then 1 else 0]
theorem df_ta (F : Fx K mg "truth_answer" sTa) : Df P w K mg base "truth_answer" 1 ["holds"] spTa := by
  refine df_of F scTa (fun _ _ _ _ _ _ us hl => match us, hl with | [_], _ => rfl) (fun vs H Q E h => ?_) (fun f cdv A outer s H vs Q E hr h => ?_)
  · obtain ⟨b, rfl, _⟩ := h
    rfl
  · obtain ⟨b, rfl, k⟩ := h
    refine ⟨_, (pss_one (ps_ret (pe_ifExp (pt_val (pv 0)) (pe_lst (pa_cons pe_int pa_nil)) (pe_lst (pa_cons pe_int pa_nil))))), ?_⟩
    refine ⟨_, rfl, b, rfl, ?_⟩
    cases b with
    | true => exact iteT ⟨(by show 1 ≤ sizeLine; decide), fun r hr' => k _ r (upd_new hr') upd_same⟩
    | false => exact iteF ⟨(by show 1 ≤ sizeLine; decide), fun r hr' => k _ r (upd_new hr') upd_same⟩
abbrev sQr : Stmt := topS 64
abbrev NQr : List Str := ["instance", "slot", "refusal"]
theorem scQr : FnScope NQr ["instance", "slot"] (defScope sQr) := ⟨rfl, rfl, rfl, by decide +kernel, rfl, by decide +kernel, by decide +kernel⟩
def spQr (C : Addr) : Sp := fun vs H Q _ => ∃ (a : Addr) (l : List (List Rat)) (i : Nat), vs = [.ref a, .int (i : Int)] ∧ InSl C H a l ∧ GiveL H Q (ans l (.isRealRooted i))
theorem df_qr {C : Addr} (T : Gm mg) (F : Fx K mg "is_real_rooted" sQr) (D_slot_refusal : Df P w K mg base "slot_refusal" 2 ["instance", "slots"] (spSr C)) (D_truth_answer : Df P w K mg base "truth_answer" 1 ["holds"] spTa)
    (D_real_rooted : Df P w K mg base "real_rooted" 41 ["polynomial"] spRr) (D_whole_in : Dm P w K mg base C "whole_in" 4 ["self", "slot"] (spInW C)) : Df P w K mg base "is_real_rooted" 42 ["instance", "slot"] (spQr C) := by
  refine df_of F scQr (fun _ _ _ _ _ _ us hl => match us, hl with | [_, _], _ => rfl) (fun vs H Q E h => ?_) (fun f cdv A outer s H vs Q E hr h => ?_)
  · obtain ⟨a, l, i, rfl, _⟩ := h
    rfl
  · obtain ⟨a, l, i, rfl, hi, k⟩ := h
    refine ⟨_, (pss_cons (ps_set (i := 2) scQr.nd rfl (.inl rfl) (pd D_slot_refusal (hr.mono (by decide)) (pa_cons (pv 0) (pa_cons (pe_lst (pa_cons (pv 1) pa_nil)) pa_nil))))
      (pss_cons (ps_if (pt_cmpR op_gt (pe_callB (call_lenK K) (by rfl) T.len (by decide +kernel) (pa_cons (pv 2) pa_nil)) pe_int (nomark _)) (pss_one (ps_ret (pv 2))) pss_nil)
      (pss_one (ps_ret (pd D_truth_answer (hr.mono (by decide)) (pa_cons (pd D_real_rooted (hr.mono (by decide)) (pa_cons (pm D_whole_in (hr.mono (by decide)) (pv 0) (pa_cons (pv 1) pa_nil)) pa_nil)) pa_nil)))))), ?_⟩
    refine ⟨_, rfl, _, rfl, (by show 1 ≤ sizeLine; decide), fun sa hsa => ?_⟩
    have s1 := upd_new (o := .lst [V.int (i : Int)]) hsa
    refine ⟨a, sa, l, [i], rfl, hi.same s1, upd_same, by show 1 ≤ 10000; decide, fun H2 r s2 hr2 => ?_⟩
    have sA := s1.trans s2
    refine ⟨_, rfl, r, _, rfl, hr2.len, _, _, rfl, rfl, _, rfl, ?_⟩
    have e : ans l (.isRealRooted i) = if rfS l [i] = [] then [if Kqg1.isRealRooted (pIn l i) then 1 else 0] else rfS l [i] := by
      rw [rfS_one]
      unfold ans Kqg2.step Kqg2.slotCount Kqg2.flag
      dsimp only
      by_cases c : 4 ≤ i
      · rw [if_pos c, if_pos c, if_neg (by decide)]; rfl
      · rw [if_neg c, if_neg c]
        by_cases d : pIn l i = []
        · rw [if_pos d, if_pos d, if_neg (by decide)]; rfl
        · rw [if_neg d, if_neg d, if_pos rfl]; rfl
    rw [e] at k
    rcases rfS_pos (l := l) (sl := [i]) with ⟨c, d⟩ | ⟨c, d⟩
    · rw [d]
      rw [if_pos c] at k
      obtain ⟨i4, ni⟩ := rfS_one_ok c
      have hi2 := hi.same sA
      obtain ⟨pl, dx, h1, ok⟩ := hi2.is
      refine iteF ⟨_, rfl, a, dx, _, rfl, h1, rfl, _, rfl, a, l, i, rfl, hi2, i4, fun H3 x s3 hx => ?_⟩
      have po := ok.at_ i
      refine ⟨x, _, _, rfl, hx, (whole_pol po.tr ni po.sm).1, fun H4 s4 => ⟨_, rfl, fun H5 y s5 hy => ?_⟩⟩
      exact k H5 y (sA.trans (s3.trans (s4.trans s5))) hy
    · rw [d]
      rw [if_neg c] at k
      exact iteT ⟨_, rfl, k H2 r sA hr2⟩
abbrev sQi : Stmt := topS 66
abbrev NQi : List Str := ["instance", "first", "second", "refusal"]
theorem scQi : FnScope NQi ["instance", "first", "second"] (defScope sQi) := ⟨rfl, rfl, rfl, by decide +kernel, rfl, by decide +kernel, by decide +kernel⟩
def spTwo (C : Addr) (f : Nat → Nat → Kqg2.Request) : Sp := fun vs H Q _ => ∃ (a : Addr) (l : List (List Rat)) (i j : Nat), vs = [.ref a, .int (i : Int), .int (j : Int)] ∧ InSl C H a l ∧ GiveL H Q (ans l (f i j))
theorem df_qi {C : Addr} (T : Gm mg) (F : Fx K mg "interlaces" sQi) (D_slot_refusal : Df P w K mg base "slot_refusal" 2 ["instance", "slots"] (spSr C)) (D_truth_answer : Df P w K mg base "truth_answer" 1 ["holds"] spTa)
    (D_second_interlaces_first : Df P w K mg base "second_interlaces_first" 43 ["first", "second"] spSi) (D_whole_in : Dm P w K mg base C "whole_in" 4 ["self", "slot"] (spInW C)) : Df P w K mg base "interlaces" 44 ["instance", "first", "second"] (spTwo C .interlaces) := by
  refine df_of F scQi (fun _ _ _ _ _ _ us hl => match us, hl with | [_, _, _], _ => rfl) (fun vs H Q E h => ?_) (fun f cdv A outer s H vs Q E hr h => ?_)
  · obtain ⟨a, l, i, j, rfl, _⟩ := h
    rfl
  · obtain ⟨a, l, i, j, rfl, hi, k⟩ := h
    refine ⟨_, (pss_cons (ps_set (i := 3) scQi.nd rfl (.inl rfl) (pd D_slot_refusal (hr.mono (by decide)) (pa_cons (pv 0) (pa_cons (pe_lst (pa_cons (pv 1) (pa_cons (pv 2) pa_nil))) pa_nil))))
      (pss_cons (ps_if (pt_cmpR op_gt (pe_callB (call_lenK K) (by rfl) T.len (by decide +kernel) (pa_cons (pv 3) pa_nil)) pe_int (nomark _)) (pss_one (ps_ret (pv 3))) pss_nil)
      (pss_one (ps_ret (pd D_truth_answer (hr.mono (by decide)) (pa_cons (pd D_second_interlaces_first (hr.mono (by decide)) (pa_cons (pm D_whole_in (hr.mono (by decide)) (pv 0) (pa_cons (pv 1) pa_nil)) (pa_cons (pm D_whole_in (hr.mono (by decide)) (pv 0) (pa_cons (pv 2) pa_nil)) pa_nil))) pa_nil)))))), ?_⟩
    refine ⟨_, rfl, _, rfl, _, rfl, (by show 2 ≤ sizeLine; decide), fun sa hsa => ?_⟩
    have s1 := upd_new (o := .lst [V.int (i : Int), V.int (j : Int)]) hsa
    refine ⟨a, sa, l, [i, j], rfl, hi.same s1, upd_same, by show 2 ≤ 10000; decide, fun H2 r s2 hr2 => ?_⟩
    have sA := s1.trans s2
    refine ⟨_, rfl, r, _, rfl, hr2.len, _, _, rfl, rfl, _, rfl, ?_⟩
    have e : ans l (.interlaces i j) = if rfS l [i, j] = [] then [if Kqg2.interlaces (pIn l i) (pIn l j) then 1 else 0] else rfS l [i, j] := two_ans l i j _
    rw [e] at k
    rcases rfS_pos (l := l) (sl := [i, j]) with ⟨c, d⟩ | ⟨c, d⟩
    · rw [d]
      rw [if_pos c] at k
      obtain ⟨i4, j4, ni, nj⟩ := rfS_two_ok c
      have hi2 := hi.same sA
      obtain ⟨pl, dx, h1, ok⟩ := hi2.is
      refine iteF ⟨_, rfl, a, dx, _, rfl, h1, rfl, _, rfl, a, l, i, rfl, hi2, i4, fun H3 x s3 hx => ?_⟩
      refine ⟨_, rfl, a, dx, _, rfl, s3 _ _ h1, rfl, _, rfl, a, l, j, rfl, hi2.same s3, j4, fun H4 y s4 hy => ?_⟩
      refine ⟨x, y, _, _, rfl, two_of ok ni nj (hx.same s4) hy, fun H5 s5 => ⟨_, rfl, fun H6 z s6 hz => ?_⟩⟩
      exact k H6 z (sA.trans (s3.trans (s4.trans (s5.trans s6)))) hz
    · rw [d]
      rw [if_neg c] at k
      exact iteT ⟨_, rfl, k H2 r sA hr2⟩
abbrev sQh : Stmt := topS 67
abbrev NQh : List Str := ["instance", "first", "second", "refusal"]
theorem scQh : FnScope NQh ["instance", "first", "second"] (defScope sQh) := ⟨rfl, rfl, rfl, by decide +kernel, rfl, by decide +kernel, by decide +kernel⟩
theorem df_qh {C : Addr} (T : Gm mg) (F : Fx K mg "have_common_interlacing" sQh) (D_slot_refusal : Df P w K mg base "slot_refusal" 2 ["instance", "slots"] (spSr C)) (D_truth_answer : Df P w K mg base "truth_answer" 1 ["holds"] spTa)
    (D_commonly_interlaced : Df P w K mg base "commonly_interlaced" 43 ["first", "second"] spCo) (D_whole_in : Dm P w K mg base C "whole_in" 4 ["self", "slot"] (spInW C)) : Df P w K mg base "have_common_interlacing" 44 ["instance", "first", "second"] (spTwo C .haveCommonInterlacing) := by
  refine df_of F scQh (fun _ _ _ _ _ _ us hl => match us, hl with | [_, _, _], _ => rfl) (fun vs H Q E h => ?_) (fun f cdv A outer s H vs Q E hr h => ?_)
  · obtain ⟨a, l, i, j, rfl, _⟩ := h
    rfl
  · obtain ⟨a, l, i, j, rfl, hi, k⟩ := h
    refine ⟨_, (pss_cons (ps_set (i := 3) scQh.nd rfl (.inl rfl) (pd D_slot_refusal (hr.mono (by decide)) (pa_cons (pv 0) (pa_cons (pe_lst (pa_cons (pv 1) (pa_cons (pv 2) pa_nil))) pa_nil))))
      (pss_cons (ps_if (pt_cmpR op_gt (pe_callB (call_lenK K) (by rfl) T.len (by decide +kernel) (pa_cons (pv 3) pa_nil)) pe_int (nomark _)) (pss_one (ps_ret (pv 3))) pss_nil)
      (pss_one (ps_ret (pd D_truth_answer (hr.mono (by decide)) (pa_cons (pd D_commonly_interlaced (hr.mono (by decide)) (pa_cons (pm D_whole_in (hr.mono (by decide)) (pv 0) (pa_cons (pv 1) pa_nil)) (pa_cons (pm D_whole_in (hr.mono (by decide)) (pv 0) (pa_cons (pv 2) pa_nil)) pa_nil))) pa_nil)))))), ?_⟩
    refine ⟨_, rfl, _, rfl, _, rfl, (by show 2 ≤ sizeLine; decide), fun sa hsa => ?_⟩
    have s1 := upd_new (o := .lst [V.int (i : Int), V.int (j : Int)]) hsa
    refine ⟨a, sa, l, [i, j], rfl, hi.same s1, upd_same, by show 2 ≤ 10000; decide, fun H2 r s2 hr2 => ?_⟩
    have sA := s1.trans s2
    refine ⟨_, rfl, r, _, rfl, hr2.len, _, _, rfl, rfl, _, rfl, ?_⟩
    have e : ans l (.haveCommonInterlacing i j) = if rfS l [i, j] = [] then [if Kqg2.haveCommonInterlacing (pIn l i) (pIn l j) then 1 else 0] else rfS l [i, j] := two_ans l i j _
    rw [e] at k
    rcases rfS_pos (l := l) (sl := [i, j]) with ⟨c, d⟩ | ⟨c, d⟩
    · rw [d]
      rw [if_pos c] at k
      obtain ⟨i4, j4, ni, nj⟩ := rfS_two_ok c
      have hi2 := hi.same sA
      obtain ⟨pl, dx, h1, ok⟩ := hi2.is
      refine iteF ⟨_, rfl, a, dx, _, rfl, h1, rfl, _, rfl, a, l, i, rfl, hi2, i4, fun H3 x s3 hx => ?_⟩
      refine ⟨_, rfl, a, dx, _, rfl, s3 _ _ h1, rfl, _, rfl, a, l, j, rfl, hi2.same s3, j4, fun H4 y s4 hy => ?_⟩
      refine ⟨x, y, _, _, rfl, two_of ok ni nj (hx.same s4) hy, fun H5 s5 => ⟨_, rfl, fun H6 z s6 hz => ?_⟩⟩
      exact k H6 z (sA.trans (s3.trans (s4.trans (s5.trans s6)))) hz
    · rw [d]
      rw [if_neg c] at k
      exact iteT ⟨_, rfl, k H2 r sA hr2⟩
abbrev sQp : Stmt := topS 69
abbrev NQp : List Str := ["instance", "first", "second", "refusal"]
theorem scQp : FnScope NQp ["instance", "first", "second"] (defScope sQp) := ⟨rfl, rfl, rfl, by decide +kernel, rfl, by decide +kernel, by decide +kernel⟩
theorem df_qp {C : Addr} (T : Gm mg) (F : Fx K mg "are_proportional" sQp) (D_slot_refusal : Df P w K mg base "slot_refusal" 2 ["instance", "slots"] (spSr C)) (D_truth_answer : Df P w K mg base "truth_answer" 1 ["holds"] spTa)
    (D_proportional : Df P w K mg base "proportional" 2 ["first", "second"] spPr) (D_whole_in : Dm P w K mg base C "whole_in" 4 ["self", "slot"] (spInW C)) : Df P w K mg base "are_proportional" 5 ["instance", "first", "second"] (spTwo C .areProportional) := by
  refine df_of F scQp (fun _ _ _ _ _ _ us hl => match us, hl with | [_, _, _], _ => rfl) (fun vs H Q E h => ?_) (fun f cdv A outer s H vs Q E hr h => ?_)
  · obtain ⟨a, l, i, j, rfl, _⟩ := h
    rfl
  · obtain ⟨a, l, i, j, rfl, hi, k⟩ := h
    refine ⟨_, (pss_cons (ps_set (i := 3) scQp.nd rfl (.inl rfl) (pd D_slot_refusal (hr.mono (by decide)) (pa_cons (pv 0) (pa_cons (pe_lst (pa_cons (pv 1) (pa_cons (pv 2) pa_nil))) pa_nil))))
      (pss_cons (ps_if (pt_cmpR op_gt (pe_callB (call_lenK K) (by rfl) T.len (by decide +kernel) (pa_cons (pv 3) pa_nil)) pe_int (nomark _)) (pss_one (ps_ret (pv 3))) pss_nil)
      (pss_one (ps_ret (pd D_truth_answer (hr.mono (by decide)) (pa_cons (pd D_proportional (hr.mono (by decide)) (pa_cons (pm D_whole_in (hr.mono (by decide)) (pv 0) (pa_cons (pv 1) pa_nil)) (pa_cons (pm D_whole_in (hr.mono (by decide)) (pv 0) (pa_cons (pv 2) pa_nil)) pa_nil))) pa_nil)))))), ?_⟩
    refine ⟨_, rfl, _, rfl, _, rfl, (by show 2 ≤ sizeLine; decide), fun sa hsa => ?_⟩
    have s1 := upd_new (o := .lst [V.int (i : Int), V.int (j : Int)]) hsa
    refine ⟨a, sa, l, [i, j], rfl, hi.same s1, upd_same, by show 2 ≤ 10000; decide, fun H2 r s2 hr2 => ?_⟩
    have sA := s1.trans s2
    refine ⟨_, rfl, r, _, rfl, hr2.len, _, _, rfl, rfl, _, rfl, ?_⟩
    have e : ans l (.areProportional i j) = if rfS l [i, j] = [] then [if Kqg1.monic (pIn l i) == Kqg1.monic (pIn l j) then 1 else 0] else rfS l [i, j] := two_ans l i j _
    rw [e] at k
    rcases rfS_pos (l := l) (sl := [i, j]) with ⟨c, d⟩ | ⟨c, d⟩
    · rw [d]
      rw [if_pos c] at k
      obtain ⟨i4, j4, ni, nj⟩ := rfS_two_ok c
      have hi2 := hi.same sA
      obtain ⟨pl, dx, h1, ok⟩ := hi2.is
      refine iteF ⟨_, rfl, a, dx, _, rfl, h1, rfl, _, rfl, a, l, i, rfl, hi2, i4, fun H3 x s3 hx => ?_⟩
      refine ⟨_, rfl, a, dx, _, rfl, s3 _ _ h1, rfl, _, rfl, a, l, j, rfl, hi2.same s3, j4, fun H4 y s4 hy => ?_⟩
      refine ⟨x, y, _, _, rfl, two_of ok ni nj (hx.same s4) hy, fun H5 s5 => ⟨_, rfl, fun H6 z s6 hz => ?_⟩⟩
      exact k H6 z (sA.trans (s3.trans (s4.trans (s5.trans s6)))) hz
    · rw [d]
      rw [if_neg c] at k
      exact iteT ⟨_, rfl, k H2 r sA hr2⟩
end
end Il
namespace Kv
theorem joint_nonzero {p q : List Rat} (hp : Tr p) (np : p ≠ []) (sp : Sm p) (hq : Tr q) (nq : q ≠ []) (sq : Sm q) {x : Nat × Nat} (hx : x ∈ Kqg2.jointMultiplicities p q) : ¬ (x.1 = 0 ∧ x.2 = 0) := by
  obtain ⟨n, c, J⟩ := joint_places hp np sp hq nq sq
  rw [J.eq hp np sp hq nq sq] at hx
  obtain ⟨k, hk, rfl⟩ := List.mem_map.mp hx
  have some := joint_some hp np hq nq J (List.mem_range.mp hk)
  dsimp only
  omega
end Kv
namespace Il
open PySem PySem.Spec PyProof.Rows L2
theorem rfA_pos {l : List (List Rat)} {sl : List Nat} {n : Int} {d : Nat} : (rfA l sl n d = [] ∧ decide ((0 : Int) < ((rfA l sl n d).length : Int)) = false) ∨ (rfA l sl n d ≠ [] ∧ decide ((0 : Int) < ((rfA l sl n d).length : Int)) = true) := by
  by_cases c : rfA l sl n d = []
  · exact .inl ⟨c, by rw [c]; rfl⟩
  · have pos := List.length_pos_iff.mpr c
    exact .inr ⟨c, decide_eq_true (by omega)⟩
theorem rfA_ok {l : List (List Rat)} {sl : List Nat} {n : Int} {d : Nat} (h : rfA l sl n d = []) : rfS l sl = [] ∧ Kqg1.isArgument n d = true := by
  unfold rfA at h
  by_cases c : rfS l sl = []
  · rw [if_pos c] at h
    refine ⟨c, ?_⟩
    cases e : Kqg1.isArgument n d with
    | true => rfl
    | false => rw [e, if_pos rfl] at h; cases h
  · rw [if_neg c] at h; exact absurd h c
theorem rfA_of {l : List (List Rat)} {sl : List Nat} {n : Int} {d : Nat} (h : rfS l sl ≠ []) : rfA l sl n d = rfS l sl := by unfold rfA; rw [if_neg h]
theorem arg_plc {n : Int} {d : Nat} (h : Kqg1.isArgument n d = true) : Plc n (d : Int) := by
  unfold Kqg1.isArgument at h
  simp only [Bool.and_eq_true, decide_eq_true_eq] at h
  obtain ⟨⟨h1, h2⟩, h3⟩ := h
  have a : n.natAbs ≤ 2 ^ 20 := by omega
  have b : ((d : Int)).natAbs ≤ 2 ^ 20 := by omega
  exact ⟨by omega, Kv.pow_up a (by decide), Kv.pow_up b (by decide)⟩
theorem above_eq {p : List Rat} (t : Kv.Tr p) (np : p ≠ []) (n : Int) (d : Nat) : Kv.tot (Kqg1.layerChains p) - Kv.cu (Kqg1.layerChains p) ((n : Rat) / ((d : Int) : Rat)) = ((Kqg2.rootsAbove p n d : Nat) : Int) := by
  have := Kv.count_above (Kv.fam_layers t np).1 ((n : Rat) / (d : Rat))
  rw [Rat.intCast_natCast, ← this]
  rfl
section
variable {P : Program} {w : World} {K : PySem.W.Frag} {mg : Str → Option Value} {base : Heap}
abbrev sQj : Stmt := topS 65
abbrev NQj : List Str := ["instance", "first", "second", "refusal", "pairs", "numbers", "first_multiplicity", "second_multiplicity"]
theorem scQj : FnScope NQj ["instance", "first", "second"] (defScope sQj) := ⟨rfl, rfl, rfl, by decide +kernel, rfl, by decide +kernel, by decide +kernel⟩
def prN (l : List (Nat × Nat)) : List Int := l.flatMap fun x => [(x.1 : Int), (x.2 : Int)]
theorem prN_len (l : List (Nat × Nat)) : (prN l).length = 2 * l.length := by
  unfold prN
  induction l with
  | nil => rfl
  | cons x l ih =>
    rw [List.flatMap_cons, List.length_append, ih]
    show 2 + 2 * l.length = 2 * (l.length + 1)
    omega
theorem df_qj {C : Addr} (T : Gm mg) (F : Fx K mg "joint_multiplicities" sQj) (D_slot_refusal : Df P w K mg base "slot_refusal" 2 ["instance", "slots"] (spSr C))
    (D_joint_pairs : Df P w K mg base "joint_pairs" 41 ["first", "second"] spJp) (D_whole_in : Dm P w K mg base C "whole_in" 4 ["self", "slot"] (spInW C)) : Df P w K mg base "joint_multiplicities" 42 ["instance", "first", "second"] (spTwo C .jointMultiplicities) := by
  refine df_of F scQj (fun _ _ _ _ _ _ us hl => match us, hl with | [_, _, _], _ => rfl) (fun vs H Q E h => ?_) (fun f cdv A outer s H vs Q E hr h => ?_)
  · obtain ⟨a, l, i, j, rfl, _⟩ := h
    rfl
  · obtain ⟨a, l, i, j, rfl, hi, k⟩ := h
    refine ⟨_, (pss_cons (ps_set (i := 3) scQj.nd rfl (.inl rfl) (pd D_slot_refusal (hr.mono (by decide)) (pa_cons (pv 0) (pa_cons (pe_lst (pa_cons (pv 1) (pa_cons (pv 2) pa_nil))) pa_nil))))
      (pss_cons (ps_if (pt_cmpR op_gt (pe_callB (call_lenK K) (by rfl) T.len (by decide +kernel) (pa_cons (pv 3) pa_nil)) pe_int (nomark _)) (pss_one (ps_ret (pv 3))) pss_nil)
      (pss_cons (ps_set (i := 4) scQj.nd rfl (.inl rfl) (pd D_joint_pairs (hr.mono (by decide)) (pa_cons (pm D_whole_in (hr.mono (by decide)) (pv 0) (pa_cons (pv 1) pa_nil)) (pa_cons (pm D_whole_in (hr.mono (by decide)) (pv 0) (pa_cons (pv 2) pa_nil)) pa_nil))))
      (pss_cons (ps_set (i := 5) scQj.nd rfl (.inl rfl) (pe_lst (pa_cons (pe_callB (call_lenK K) (by rfl) T.len (by decide +kernel) (pa_cons (pv 4) pa_nil)) pa_nil)))
      (pss_cons (ps_for PassesOwn.never rfl (pi_list (pv 4)) (pg_tup (by rfl) (pgs_cons (pg_name (i := 6) scQj.nd rfl (Or.inl rfl)) (pgs_cons (pg_name (i := 7) scQj.nd rfl (Or.inl rfl)) pgs_nil))) (pss_cons (ps_expr (pe_bm PySem.F.plainAttrs_list PySem.F.slot_list_append PySem.F.type_list_append mt_append (pv 5) (pa_cons (pv 6) pa_nil)))
      (pss_one (ps_expr (pe_bm PySem.F.plainAttrs_list PySem.F.slot_list_append PySem.F.type_list_append mt_append (pv 5) (pa_cons (pv 7) pa_nil))))))
      (pss_one (ps_ret (pv 5)))))))), ?_⟩
    refine ⟨_, rfl, _, rfl, _, rfl, (by show 2 ≤ sizeLine; decide), fun sa hsa => ?_⟩
    have s1 := upd_new (o := .lst [V.int (i : Int), V.int (j : Int)]) hsa
    refine ⟨a, sa, l, [i, j], rfl, hi.same s1, upd_same, by show 2 ≤ 10000; decide, fun H2 r s2 hr2 => ?_⟩
    have sA := s1.trans s2
    refine ⟨_, rfl, r, _, rfl, hr2.len, _, _, rfl, rfl, _, rfl, ?_⟩
    have e : ans l (.jointMultiplicities i j) = if rfS l [i, j] = [] then ((Kqg2.jointMultiplicities (pIn l i) (pIn l j)).length : Int) :: prN (Kqg2.jointMultiplicities (pIn l i) (pIn l j)) else rfS l [i, j] := by
      have st : ans l (.jointMultiplicities i j) = Kqg2Neutral.fields (Kqg2.ofTwo (some l) l i j fun p q => .values ((Kqg2.jointMultiplicities p q).length : Int) (prN (Kqg2.jointMultiplicities p q))).2 := rfl
      rw [st, two_ans]
      rfl
    rw [e] at k
    rcases rfS_pos (l := l) (sl := [i, j]) with ⟨c, d⟩ | ⟨c, d⟩
    · rw [d]
      rw [if_pos c] at k
      obtain ⟨i4, j4, ni, nj⟩ := rfS_two_ok c
      have hi2 := hi.same sA
      obtain ⟨pl, dx, h1, ok⟩ := hi2.is
      refine iteF ⟨_, rfl, a, dx, _, rfl, h1, rfl, _, rfl, a, l, i, rfl, hi2, i4, fun H3 x s3 hx => ?_⟩
      refine ⟨_, rfl, a, dx, _, rfl, s3 _ _ h1, rfl, _, rfl, a, l, j, rfl, hi2.same s3, j4, fun H4 y s4 hy => ?_⟩
      obtain ⟨⟨p, q, hp, hq, G1, G2⟩, sp, sq⟩ := two_of ok ni nj (hx.same s4) hy
      refine ⟨x, y, p, q, _, _, rfl, hp, hq, G1, G2, sp, sq, fun ll H5 z s5 n5 ⟨as, hA⟩ => ?_⟩
      have sB := sA.trans (s3.trans (s4.trans s5))
      have al := hA.len
      generalize Kqg2.jointMultiplicities (pIn l i) (pIn l j) = prs at *
      refine ⟨_, rfl, z, _, rfl, Il.Ls.len ⟨as, hA⟩, (by show 1 ≤ sizeLine; decide), fun nd hnd => ?_⟩
      have s6 := upd_new (o := .lst [V.int (prs.length : Int)]) hnd
      have ndH : H nd = Option.none := sB.free hnd
      refine ⟨_, rfl, z, rfl, ⟨_, SqL.of (s6 _ _ hA.lst)⟩, for_list (K := K) (a := z) (xs := as.map V.ref) (fun m σ H' => Same H5 H' ∧ (∃ v v' : Option V, σ = [some (.ref a), some (.int (i : Int)), some (.int (j : Int)), some (.ref r), some (.ref z), some (.ref nd), v, v']) ∧ LI H' nd ((prs.length : Int) :: prN (prs.take m)))
        ⟨s6, ⟨none, none, rfl⟩, upd_same⟩ (fun m σ H' _ e => SqL.of (e.1 _ _ hA.lst)) ?_ ?_⟩
      · rintro m x' σ H6 hx' ⟨s7, ⟨v, v', rfl⟩, hD⟩
        obtain ⟨b, q, hb, hq', rfl, pb⟩ := hA.ofV hx'
        have il := (List.getElem?_eq_some_iff.mp hq').1
        refine ⟨b, _, rfl, SqT.of (s7 _ _ pb), rfl, _, _, rfl, _, _, rfl, rfl, ?_⟩
        refine ⟨_, rfl, .inl ⟨rfl, _, hD.sq⟩, _, rfl, nd, _, _, rfl, rfl, hD, ?_, ?_⟩
        · rw [List.length_map, List.length_cons, prN_len, List.length_take]
          exact small_of (a := 100) (by omega)
        · refine ⟨_, rfl, .inl ⟨rfl, _, SqL.of upd_same⟩, _, rfl, nd, _, _, rfl, rfl, upd_same, ?_, ?_⟩
          · rw [List.length_append, List.length_map, List.length_cons, prN_len, List.length_take]
            exact small_of (a := 100) (by simp; omega)
          · refine ⟨?_, ⟨_, _, rfl⟩, ?_⟩
            · rw [upd_upd]
              exact same_own s7 hnd
            · show upd _ nd _ nd = _
              unfold prN
              rw [upd_same, take_more hq', List.flatMap_append]
              simp
      · rintro σ H6 ⟨s7, ⟨v, v', rfl⟩, hD⟩
        rw [List.length_map, al, List.take_length] at hD
        exact ⟨_, rfl, k H6 nd (sB.trans s7) hD⟩
    · rw [d]
      rw [if_neg c] at k
      exact iteT ⟨_, rfl, k H2 r sA hr2⟩
abbrev sQc : Stmt := topS 70
abbrev NQc : List Str := ["instance", "slot", "numerator", "denominator", "refusal"]
theorem scQc : FnScope NQc ["instance", "slot", "numerator", "denominator"] (defScope sQc) := ⟨rfl, rfl, rfl, by decide +kernel, rfl, by decide +kernel, by decide +kernel⟩
def spQc (C : Addr) : Sp := fun vs H Q _ => ∃ (a : Addr) (l : List (List Rat)) (i : Nat) (n : Int) (d : Nat), vs = [.ref a, .int (i : Int), .int n, .int (d : Int)] ∧ InSl C H a l ∧ GiveL H Q (ans l (.countRootsAbove i n d))
theorem df_qc {C Cr : Addr} (T : Gm mg) (F : Fx K mg "count_roots_above" sQc) (D_argument_refusal : Df P w K mg base "argument_refusal" 3 ["instance", "slots", "numerator", "denominator"] (spAr C))
    (D_CountedRoots : Dk P w K mg base "CountedRoots" Cr 39 ["self", "polynomial"] (spCrI Cr)) (D_count_above : Dm P w K mg base Cr "count_above" 4 ["self", "numerator", "denominator"] (spCa Cr)) (D_whole_in : Dm P w K mg base C "whole_in" 4 ["self", "slot"] (spInW C)) :
    Df P w K mg base "count_roots_above" 41 ["instance", "slot", "numerator", "denominator"] (spQc C) := by
  refine df_of F scQc (fun _ _ _ _ _ _ us hl => match us, hl with | [_, _, _, _], _ => rfl) (fun vs H Q E h => ?_) (fun f cdv A outer s H vs Q E hr h => ?_)
  · obtain ⟨a, l, i, n, d, rfl, _⟩ := h
    rfl
  · obtain ⟨a, l, i, n, d, rfl, hi, k⟩ := h
    refine ⟨_, (pss_cons (ps_set (i := 4) scQc.nd rfl (.inl rfl) (pd D_argument_refusal (hr.mono (by decide)) (pa_cons (pv 0) (pa_cons (pe_lst (pa_cons (pv 1) pa_nil)) (pa_cons (pv 2) (pa_cons (pv 3) pa_nil))))))
      (pss_cons (ps_if (pt_cmpR op_gt (pe_callB (call_lenK K) (by rfl) T.len (by decide +kernel) (pa_cons (pv 4) pa_nil)) pe_int (nomark _)) (pss_one (ps_ret (pv 4))) pss_nil)
      (pss_one (ps_ret (pe_lst (pa_cons (pm D_count_above (hr.mono (by decide)) (pmk D_CountedRoots (hr.mono (by decide)) (pa_cons (pm D_whole_in (hr.mono (by decide)) (pv 0) (pa_cons (pv 1) pa_nil)) pa_nil)) (pa_cons (pv 2) (pa_cons (pv 3) pa_nil))) pa_nil)))))), ?_⟩
    refine ⟨_, rfl, _, rfl, (by show 1 ≤ sizeLine; decide), fun sa hsa => ?_⟩
    have s1 := upd_new (o := .lst [V.int (i : Int)]) hsa
    refine ⟨_, rfl, _, rfl, a, sa, l, [i], n, d, rfl, hi.same s1, upd_same, by show 1 ≤ 10000; decide, fun H2 r s2 hr2 => ?_⟩
    have sA := s1.trans s2
    refine ⟨_, rfl, r, _, rfl, hr2.len, _, _, rfl, rfl, _, rfl, ?_⟩
    have e : ans l (.countRootsAbove i n d) = if rfA l [i] n d = [] then [((Kqg2.rootsAbove (pIn l i) n d : Nat) : Int)] else rfA l [i] n d := by
      have st : ans l (.countRootsAbove i n d) = Kqg2Neutral.fields (if 4 ≤ i then .value (-2) else if pIn l i = [] then .value (-33) else if Kqg1.isArgument n d = false then .value (-22) else .value (Kqg2.rootsAbove (pIn l i) n d)) := rfl
      rw [st]
      by_cases c : 4 ≤ i
      · have r : rfS l [i] = [-2] := by rw [rfS_one, if_pos c]
        have r' : rfA l [i] n d = [-2] := (rfA_of (by rw [r]; exact List.cons_ne_nil _ _)).trans r
        rw [r', if_pos c, if_neg (List.cons_ne_nil _ _)]; rfl
      · by_cases d' : pIn l i = []
        · have r : rfS l [i] = [-33] := by rw [rfS_one, if_neg c, if_pos d']
          have r' : rfA l [i] n d = [-33] := (rfA_of (by rw [r]; exact List.cons_ne_nil _ _)).trans r
          rw [r', if_neg c, if_pos d', if_neg (List.cons_ne_nil _ _)]; rfl
        · have r : rfS l [i] = [] := by rw [rfS_one, if_neg c, if_neg d']
          rw [if_neg c, if_neg d']
          by_cases g : Kqg1.isArgument n d = false
          · have r' : rfA l [i] n d = [-22] := by unfold rfA; rw [if_pos r, if_pos g]
            rw [r', if_pos g, if_neg (List.cons_ne_nil _ _)]; rfl
          · have r' : rfA l [i] n d = [] := by unfold rfA; rw [if_pos r, if_neg g]
            rw [r', if_neg g, if_pos rfl]; rfl
    rw [e] at k
    rcases rfA_pos (l := l) (sl := [i]) (n := n) (d := d) with ⟨c, g⟩ | ⟨c, g⟩
    · rw [g]
      rw [if_pos c] at k
      obtain ⟨c1, c2⟩ := rfA_ok c
      obtain ⟨i4, ni⟩ := rfS_one_ok c1
      have hi2 := hi.same sA
      obtain ⟨pl, dx, h1, ok⟩ := hi2.is
      have po := ok.at_ i
      refine iteF ⟨_, rfl, a, dx, _, rfl, h1, rfl, _, rfl, a, l, i, rfl, hi2, i4, fun H3 x s3 hx => ?_⟩
      refine fun y dy hy hdy ne => mk_counted hx (whole_pol po.tr ni po.sm).1 hy hdy ne fun H4 s4 hc => ?_
      obtain ⟨dc, ch, Ls, b, hc1, _⟩ := id hc
      refine ⟨y, dc, _, rfl, hc1, rfl, _, rfl, _, rfl, ?_⟩
      refine ca_of (E := E0) (p0 := pIn l i) hc (arg_plc c2) fun H5 s5 => ⟨(by show 1 ≤ sizeLine; decide), fun u hu => ?_⟩
      rw [above_eq po.tr ni]
      exact k _ u (sA.trans (s3.trans (s4.trans (s5.trans (upd_new hu))))) upd_same
    · rw [g]
      rw [if_neg c] at k
      exact iteT ⟨_, rfl, k H2 r sA hr2⟩
abbrev sQl : Stmt := topS 71
abbrev NQl : List Str := ["instance", "first", "second", "numerator", "denominator", "refusal", "first_count", "second_count"]
theorem scQl : FnScope NQl ["instance", "first", "second", "numerator", "denominator"] (defScope sQl) := ⟨rfl, rfl, rfl, by decide +kernel, rfl, by decide +kernel, by decide +kernel⟩
def spQl (C : Addr) : Sp := fun vs H Q _ => ∃ (a : Addr) (l : List (List Rat)) (i j : Nat) (n : Int) (d : Nat), vs = [.ref a, .int (i : Int), .int (j : Int), .int n, .int (d : Int)] ∧ InSl C H a l ∧ GiveL H Q (ans l (.leadAbove i j n d))
theorem df_ql {C Cr : Addr} (T : Gm mg) (F : Fx K mg "lead_above" sQl) (D_argument_refusal : Df P w K mg base "argument_refusal" 3 ["instance", "slots", "numerator", "denominator"] (spAr C))
    (D_CountedRoots : Dk P w K mg base "CountedRoots" Cr 39 ["self", "polynomial"] (spCrI Cr)) (D_count_above : Dm P w K mg base Cr "count_above" 4 ["self", "numerator", "denominator"] (spCa Cr)) (D_whole_in : Dm P w K mg base C "whole_in" 4 ["self", "slot"] (spInW C)) :
    Df P w K mg base "lead_above" 41 ["instance", "first", "second", "numerator", "denominator"] (spQl C) := by
  refine df_of F scQl (fun _ _ _ _ _ _ us hl => match us, hl with | [_, _, _, _, _], _ => rfl) (fun vs H Q E h => ?_) (fun f cdv A outer s H vs Q E hr h => ?_)
  · obtain ⟨a, l, i, j, n, d, rfl, _⟩ := h
    rfl
  · obtain ⟨a, l, i, j, n, d, rfl, hi, k⟩ := h
    refine ⟨_, (pss_cons (ps_set (i := 5) scQl.nd rfl (.inl rfl) (pd D_argument_refusal (hr.mono (by decide)) (pa_cons (pv 0) (pa_cons (pe_lst (pa_cons (pv 1) (pa_cons (pv 2) pa_nil))) (pa_cons (pv 3) (pa_cons (pv 4) pa_nil))))))
      (pss_cons (ps_if (pt_cmpR op_gt (pe_callB (call_lenK K) (by rfl) T.len (by decide +kernel) (pa_cons (pv 5) pa_nil)) pe_int (nomark _)) (pss_one (ps_ret (pv 5))) pss_nil)
      (pss_cons (ps_set (i := 6) scQl.nd rfl (.inl rfl) (pm D_count_above (hr.mono (by decide)) (pmk D_CountedRoots (hr.mono (by decide)) (pa_cons (pm D_whole_in (hr.mono (by decide)) (pv 0) (pa_cons (pv 1) pa_nil)) pa_nil)) (pa_cons (pv 3) (pa_cons (pv 4) pa_nil))))
      (pss_cons (ps_set (i := 7) scQl.nd rfl (.inl rfl) (pm D_count_above (hr.mono (by decide)) (pmk D_CountedRoots (hr.mono (by decide)) (pa_cons (pm D_whole_in (hr.mono (by decide)) (pv 0) (pa_cons (pv 2) pa_nil)) pa_nil)) (pa_cons (pv 3) (pa_cons (pv 4) pa_nil))))
      (pss_one (ps_ret (pe_lst (pa_cons pe_int (pa_cons (pe_op op_sub (pv 6) (pv 7)) pa_nil))))))))), ?_⟩
    refine ⟨_, rfl, _, rfl, _, rfl, (by show 2 ≤ sizeLine; decide), fun sa hsa => ?_⟩
    have s1 := upd_new (o := .lst [V.int (i : Int), V.int (j : Int)]) hsa
    refine ⟨_, rfl, _, rfl, a, sa, l, [i, j], n, d, rfl, hi.same s1, upd_same, by show 2 ≤ 10000; decide, fun H2 r s2 hr2 => ?_⟩
    have sA := s1.trans s2
    refine ⟨_, rfl, r, _, rfl, hr2.len, _, _, rfl, rfl, _, rfl, ?_⟩
    have e : ans l (.leadAbove i j n d) = if rfA l [i, j] n d = [] then [0, ((Kqg2.rootsAbove (pIn l i) n d : Nat) : Int) - ((Kqg2.rootsAbove (pIn l j) n d : Nat) : Int)] else rfA l [i, j] n d := by
      have := two_ans l i j fun p q => if Kqg1.isArgument n d = false then .value (-22) else .values 0 [(Kqg2.rootsAbove p n d : Int) - (Kqg2.rootsAbove q n d : Int)]
      refine Eq.trans this ?_
      by_cases c : rfS l [i, j] = []
      · rw [if_pos c]
        by_cases g : Kqg1.isArgument n d = false
        · have r' : rfA l [i, j] n d = [-22] := by unfold rfA; rw [if_pos c, if_pos g]
          rw [r', if_pos g, if_neg (List.cons_ne_nil _ _)]; rfl
        · have r' : rfA l [i, j] n d = [] := by unfold rfA; rw [if_pos c, if_neg g]
          rw [r', if_neg g, if_pos rfl]; rfl
      · have r' := rfA_of (n := n) (d := d) c
        rw [r', if_neg c, if_neg c]
    rw [e] at k
    rcases rfA_pos (l := l) (sl := [i, j]) (n := n) (d := d) with ⟨c, g⟩ | ⟨c, g⟩
    · rw [g]
      rw [if_pos c] at k
      obtain ⟨c1, c2⟩ := rfA_ok c
      obtain ⟨i4, j4, ni, nj⟩ := rfS_two_ok c1
      have hi2 := hi.same sA
      obtain ⟨pl, dx, h1, ok⟩ := hi2.is
      have po := ok.at_ i
      have qo := ok.at_ j
      refine iteF ⟨_, rfl, a, dx, _, rfl, h1, rfl, _, rfl, a, l, i, rfl, hi2, i4, fun H3 x s3 hx => ?_⟩
      refine fun y dy hy hdy ne => mk_counted hx (whole_pol po.tr ni po.sm).1 hy hdy ne fun H4 s4 hc => ?_
      obtain ⟨dc, ch, Ls, b, hc1, _⟩ := id hc
      refine ⟨y, dc, _, rfl, hc1, rfl, _, rfl, _, rfl, ?_⟩
      refine ca_of (E := E0) (p0 := pIn l i) hc (arg_plc c2) fun H5 s5 => ?_
      rw [above_eq po.tr ni]
      have sB := s3.trans (s4.trans s5)
      refine ⟨_, rfl, a, dx, _, rfl, sB _ _ h1, rfl, _, rfl, a, l, j, rfl, hi2.same sB, j4, fun H6 x' s6 hx' => ?_⟩
      refine fun y' dy' hy' hdy' ne' => mk_counted hx' (whole_pol qo.tr nj qo.sm).1 hy' hdy' ne' fun H7 s7 hc' => ?_
      obtain ⟨dc', ch', Ls', b', hc1', _⟩ := id hc'
      refine ⟨y', dc', _, rfl, hc1', rfl, _, rfl, _, rfl, ?_⟩
      refine ca_of (E := E0) (p0 := pIn l j) hc' (arg_plc c2) fun H8 s8 => ?_
      rw [above_eq qo.tr nj]
      refine ⟨_, rfl, _, rfl, _, _, rfl, rfl, (by show 2 ≤ sizeLine; decide), fun u hu => ?_⟩
      exact k _ u (sA.trans (sB.trans (s6.trans (s7.trans (s8.trans (upd_new hu)))))) upd_same
    · rw [g]
      rw [if_neg c] at k
      exact iteT ⟨_, rfl, k H2 r sA hr2⟩
abbrev sQg : Stmt := topS 72
abbrev NQg : List Str := ["instance", "first", "second", "refusal", "pairs", "greatest"]
theorem scQg : FnScope NQg ["instance", "first", "second"] (defScope sQg) := ⟨rfl, rfl, rfl, by decide +kernel, rfl, by decide +kernel, by decide +kernel⟩
def grt (prs : List (Nat × Nat)) : List Int := match prs.getLast? with
  | none => [-34]
  | some x => [if x.1 = 0 then 2 else if x.2 = 0 then 1 else 0]
def grtR (prs : List (Nat × Nat)) : Kqg2.Result := match prs.getLast? with
  | none => .value (-34)
  | some x => .value (if x.1 = 0 then 2 else if x.2 = 0 then 1 else 0)
theorem grt_eq (prs : List (Nat × Nat)) : Kqg2Neutral.fields (grtR prs) = grt prs := by
  unfold grt grtR
  cases prs.getLast? with
  | none => rfl
  | some x => rfl
theorem step_cmp (l : List (List Rat)) (i j : Nat) : Kqg2.step (some l) (.compareGreatestRoots i j) = Kqg2.ofTwo (some l) l i j fun p q => grtR (Kqg2.jointMultiplicities p q) := by
  unfold Kqg2.step
  dsimp only
  refine congrArg (Kqg2.ofTwo (some l) l i j) (funext fun p => funext fun q => ?_)
  generalize Kqg2.jointMultiplicities p q = prs
  unfold grtR
  cases prs.getLast? with
  | none => rfl
  | some x => rfl
theorem df_qg {C : Addr} (T : Gm mg) (F : Fx K mg "compare_greatest_roots" sQg) (D_slot_refusal : Df P w K mg base "slot_refusal" 2 ["instance", "slots"] (spSr C)) (D_refused : Df P w K mg base "refused" 1 ["code"] spRd)
    (D_joint_pairs : Df P w K mg base "joint_pairs" 41 ["first", "second"] spJp) (D_whole_in : Dm P w K mg base C "whole_in" 4 ["self", "slot"] (spInW C)) : Df P w K mg base "compare_greatest_roots" 42 ["instance", "first", "second"] (spTwo C .compareGreatestRoots) := by
  refine df_of F scQg (fun _ _ _ _ _ _ us hl => match us, hl with | [_, _, _], _ => rfl) (fun vs H Q E h => ?_) (fun f cdv A outer s H vs Q E hr h => ?_)
  · obtain ⟨a, l, i, j, rfl, _⟩ := h
    rfl
  · obtain ⟨a, l, i, j, rfl, hi, k⟩ := h
    refine ⟨_, (pss_cons (ps_set (i := 3) scQg.nd rfl (.inl rfl) (pd D_slot_refusal (hr.mono (by decide)) (pa_cons (pv 0) (pa_cons (pe_lst (pa_cons (pv 1) (pa_cons (pv 2) pa_nil))) pa_nil))))
      (pss_cons (ps_if (pt_cmpR op_gt (pe_callB (call_lenK K) (by rfl) T.len (by decide +kernel) (pa_cons (pv 3) pa_nil)) pe_int (nomark _)) (pss_one (ps_ret (pv 3))) pss_nil)
      (pss_cons (ps_set (i := 4) scQg.nd rfl (.inl rfl) (pd D_joint_pairs (hr.mono (by decide)) (pa_cons (pm D_whole_in (hr.mono (by decide)) (pv 0) (pa_cons (pv 1) pa_nil)) (pa_cons (pm D_whole_in (hr.mono (by decide)) (pv 0) (pa_cons (pv 2) pa_nil)) pa_nil))))
      (pss_cons (ps_if (pt_cmpR op_eq (pe_callB (call_lenK K) (by rfl) T.len (by decide +kernel) (pa_cons (pv 4) pa_nil)) pe_int (nomark _)) (pss_one (ps_ret (pd D_refused (hr.mono (by decide)) (pa_cons (pe_gl T.NO_SUCH_ROOT) pa_nil)))) pss_nil)
      (pss_cons (ps_set (i := 5) scQg.nd rfl (.inl rfl) (pe_ix (ix_listK K) (pv 4) (pe_un un_neg pe_int) (fun _ _ => rfl)))
      (pss_cons (ps_if (pt_cmpR op_eq (pe_ix (ix_tupK K) (pv 5) pe_int (fun _ _ => rfl)) pe_int (nomark _)) (pss_one (ps_ret (pe_lst (pa_cons pe_int pa_nil)))) pss_nil)
      (pss_cons (ps_if (pt_cmpR op_eq (pe_ix (ix_tupK K) (pv 5) pe_int (fun _ _ => rfl)) pe_int (nomark _)) (pss_one (ps_ret (pe_lst (pa_cons pe_int pa_nil)))) pss_nil)
      (pss_one (ps_ret (pe_lst (pa_cons pe_int pa_nil))))))))))), ?_⟩
    refine ⟨_, rfl, _, rfl, _, rfl, (by show 2 ≤ sizeLine; decide), fun sa hsa => ?_⟩
    have s1 := upd_new (o := .lst [V.int (i : Int), V.int (j : Int)]) hsa
    refine ⟨a, sa, l, [i, j], rfl, hi.same s1, upd_same, by show 2 ≤ 10000; decide, fun H2 r s2 hr2 => ?_⟩
    have sA := s1.trans s2
    refine ⟨_, rfl, r, _, rfl, hr2.len, _, _, rfl, rfl, _, rfl, ?_⟩
    have e : ans l (.compareGreatestRoots i j) = if rfS l [i, j] = [] then grt (Kqg2.jointMultiplicities (pIn l i) (pIn l j)) else rfS l [i, j] := by
      unfold ans
      rw [step_cmp, two_ans, grt_eq]
    rw [e] at k
    rcases rfS_pos (l := l) (sl := [i, j]) with ⟨c, d⟩ | ⟨c, d⟩
    · rw [d]
      rw [if_pos c] at k
      obtain ⟨i4, j4, ni, nj⟩ := rfS_two_ok c
      have hi2 := hi.same sA
      obtain ⟨pl, dx, h1, ok⟩ := hi2.is
      refine iteF ⟨_, rfl, a, dx, _, rfl, h1, rfl, _, rfl, a, l, i, rfl, hi2, i4, fun H3 x s3 hx => ?_⟩
      refine ⟨_, rfl, a, dx, _, rfl, s3 _ _ h1, rfl, _, rfl, a, l, j, rfl, hi2.same s3, j4, fun H4 y s4 hy => ?_⟩
      obtain ⟨⟨p, q, hp, hq, G1, G2⟩, sp, sq⟩ := two_of ok ni nj (hx.same s4) hy
      refine ⟨x, y, p, q, _, _, rfl, hp, hq, G1, G2, sp, sq, fun ll H5 z s5 n5 ⟨as, hA⟩ => ?_⟩
      have sB := sA.trans (s3.trans (s4.trans s5))
      have al := hA.len
      have nz : ∀ x ∈ Kqg2.jointMultiplicities (pIn l i) (pIn l j), ¬ (x.1 = 0 ∧ x.2 = 0) := fun x hx => Kv.joint_nonzero G1.t0 G1.n0 sp G2.t0 G2.n0 sq hx
      generalize Kqg2.jointMultiplicities (pIn l i) (pIn l j) = prs at *
      refine ⟨_, rfl, z, _, rfl, Il.Ls.len ⟨as, hA⟩, rfl, _, rfl, ?_⟩
      cases el : prs.getLast? with
      | none =>
        have e0 : prs = [] := List.getLast?_eq_none_iff.mp el
        have g0 : grt prs = [-34] := by unfold grt; rw [el]
        rw [g0] at k
        have ed : decide (V.int (prs.length : Int) = V.int 0) = true := by rw [e0]; rfl
        rw [ed]
        exact iteT ⟨34, rfl, fun H6 u s6 hu => k H6 u (sB.trans s6) hu⟩
      | some g =>
        have ne : prs ≠ [] := fun z => by rw [z] at el; cases el
        have pos := List.length_pos_iff.mpr ne
        have ed : decide (V.int (prs.length : Int) = V.int 0) = false := decide_eq_false fun q => by have := V.int.inj q; omega
        rw [ed]
        have hg : prs[prs.length - 1]? = some g := by rw [← List.getLast?_eq_getElem?]; exact el
        have ng := nz g (List.mem_of_getElem? hg)
        obtain ⟨b, hb, pb⟩ := hA.get hg
        have hl : atI (as.map V.ref) (-1) = some (V.ref b) := atI_last (by rw [List.length_map, al]; exact ref_at hb)
        have gg : grt prs = [if g.1 = 0 then 2 else if g.2 = 0 then 1 else 0] := by unfold grt; rw [el]
        rw [gg] at k
        refine iteF ⟨_, rfl, 1, rfl, z, _, _, _, rfl, rfl, SqL.of hA.lst, hl, ?_⟩
        refine ⟨_, rfl, b, _, 1, _, rfl, rfl, SqT.of pb, rfl, rfl, _, rfl, ?_⟩
        have fin : ∀ v : Int, (if g.1 = 0 then 2 else if g.2 = 0 then 1 else 0 : Int) = v → ∀ u, H5 u = Option.none → Q (.ref u) (upd H5 u (.lst [.int v])) := fun v hv u hu => by
          rw [hv] at k
          exact k _ u (sB.trans (upd_new hu)) upd_same
        by_cases c2 : g.2 = 0
        · have ed : decide (V.int (g.2 : Int) = V.int 0) = true := by rw [c2]; rfl
          rw [ed]
          have n1 : g.1 ≠ 0 := fun q => ng ⟨q, c2⟩
          exact iteT ⟨(by show 1 ≤ sizeLine; decide), fin 1 (by rw [if_neg n1, if_pos c2])⟩
        · have ed : decide (V.int (g.2 : Int) = V.int 0) = false := decide_eq_false fun q => by have := V.int.inj q; omega
          rw [ed]
          refine iteF ⟨_, rfl, b, _, 0, _, rfl, rfl, SqT.of pb, rfl, rfl, _, rfl, ?_⟩
          by_cases c1 : g.1 = 0
          · have ed : decide (V.int (g.1 : Int) = V.int 0) = true := by rw [c1]; rfl
            rw [ed]
            exact iteT ⟨(by show 1 ≤ sizeLine; decide), fin 2 (by rw [if_pos c1])⟩
          · have ed : decide (V.int (g.1 : Int) = V.int 0) = false := decide_eq_false fun q => by have := V.int.inj q; omega
            rw [ed]
            exact iteF ⟨(by show 1 ≤ sizeLine; decide), fin 0 (by rw [if_neg c1, if_neg c2])⟩
    · rw [d]
      rw [if_neg c] at k
      exact iteT ⟨_, rfl, k H2 r sA hr2⟩
abbrev sQa : Stmt := topS 68
abbrev NQa : List Str := ["instance", "filled", "first", "second", "slot"]
theorem scQa : FnScope NQa ["instance"] (defScope sQa) := ⟨rfl, rfl, rfl, by decide +kernel, rfl, by decide +kernel, by decide +kernel⟩
def fil (l : List (List Rat)) : List Nat := (List.range 4).filter fun i => pIn l i != []
def inn (i : Nat) (sl : List Nat) : List (Nat × Nat) := (sl.filter fun j => decide (i < j)).map fun j => (i, j)
def badP (l : List (List Rat)) (x : Nat × Nat) : Bool := !(Kqg2.haveCommonInterlacing (pIn l x.1) (pIn l x.2))
def fnd (l : List (List Rat)) (ps : List (Nat × Nat)) : List Int := match ps.find? (badP l) with
  | none => [1]
  | some x => [0, (x.1 : Int), (x.2 : Int)]
theorem all_ans (l : List (List Rat)) : ans l .allHaveCommonInterlacing = fnd l ((fil l).flatMap fun i => inn i (fil l)) := by
  have st : ans l .allHaveCommonInterlacing = Kqg2Neutral.fields (match ((fil l).flatMap fun i => inn i (fil l)).find? (badP l) with
    | none => .values 1 []
    | some x => .values 0 [(x.1 : Int), (x.2 : Int)]) := rfl
  rw [st]
  unfold fnd
  cases ((fil l).flatMap fun i => inn i (fil l)).find? (badP l) with
  | none => rfl
  | some x => rfl
theorem fil_step (l : List (List Rat)) (n : Nat) : (List.range (n + 1)).filter (fun i => pIn l i != []) = (List.range n).filter (fun i => pIn l i != []) ++ (if zeroIn l n then [] else [n]) := by
  rw [List.range_succ, List.filter_append, List.filter_cons, List.filter_nil]
  unfold zeroIn
  by_cases c : pIn l n = []
  · have : (pIn l n != []) = false := by rw [c]; rfl
    rw [this, decide_eq_true c]; rfl
  · have : (pIn l n != []) = true := by simpa using c
    rw [this, decide_eq_false c]; rfl
theorem fil_mem {l : List (List Rat)} {i : Nat} (h : i ∈ fil l) : i < 4 ∧ pIn l i ≠ [] := by
  unfold fil at h
  have := List.mem_filter.mp h
  exact ⟨List.mem_range.mp this.1, by simpa using this.2⟩
theorem inn_take {i j : Nat} {sl : List Nat} {m : Nat} (h : sl[m]? = some j) : inn i (sl.take (m + 1)) = inn i (sl.take m) ++ (if i < j then [(i, j)] else []) := by
  unfold inn
  rw [take_more h, List.filter_append, List.map_append, List.filter_cons, List.filter_nil]
  by_cases c : i < j
  · rw [if_pos c, decide_eq_true c]; rfl
  · rw [if_neg c, decide_eq_false c]; rfl
theorem inn_split {i j : Nat} {sl : List Nat} {m : Nat} (h : sl[m]? = some j) (c : i < j) : ∃ r, inn i sl = inn i (sl.take m) ++ (i, j) :: r := by
  refine ⟨inn i (sl.drop (m + 1)), ?_⟩
  have e : sl = sl.take (m + 1) ++ sl.drop (m + 1) := (List.take_append_drop _ _).symm
  have e2 : inn i sl = inn i (sl.take (m + 1)) ++ inn i (sl.drop (m + 1)) := by
    conv => lhs; rw [e]
    unfold inn
    rw [List.filter_append, List.map_append]
  rw [e2, inn_take h, if_pos c, List.append_assoc]
  rfl
theorem flat_split {sl : List Nat} {f : Nat → List (Nat × Nat)} {m i : Nat} (h : sl[m]? = some i) : sl.flatMap f = (sl.take m).flatMap f ++ (f i ++ (sl.drop (m + 1)).flatMap f) := by
  have e : sl = sl.take (m + 1) ++ sl.drop (m + 1) := (List.take_append_drop _ _).symm
  rw [take_more h, List.append_assoc] at e
  have e2 : sl.flatMap f = (sl.take m ++ ([i] ++ sl.drop (m + 1))).flatMap f := congrArg (fun x => x.flatMap f) e
  rw [e2, List.flatMap_append, List.flatMap_append, List.flatMap_cons, List.flatMap_nil, List.append_nil]
def spQa (C : Addr) : Sp := fun vs H Q _ => ∃ (a : Addr) (l : List (List Rat)), vs = [.ref a] ∧ InSl C H a l ∧ GiveL H Q (ans l .allHaveCommonInterlacing)
theorem df_qa {C : Addr} (T : Gm mg) (F : Fx K mg "all_have_common_interlacing" sQa) (D_is_zero_in : Dm P w K mg base C "is_zero_in" 1 ["self", "slot"] (spInZ C)) (D_commonly_interlaced : Df P w K mg base "commonly_interlaced" 43 ["first", "second"] spCo)
    (D_whole_in : Dm P w K mg base C "whole_in" 4 ["self", "slot"] (spInW C)) : Df P w K mg base "all_have_common_interlacing" 44 ["instance"] (spQa C) := by
  refine df_of F scQa (fun _ _ _ _ _ _ us hl => match us, hl with | [_], _ => rfl) (fun vs H Q E h => ?_) (fun f cdv A outer s H vs Q E hr h => ?_)
  · obtain ⟨a, l, rfl, _⟩ := h
    rfl
  · obtain ⟨a, l, rfl, hi, k⟩ := h
    refine ⟨_, (pss_cons (ps_setLc (i := 1) (own := [("slot", 4)]) (g := gName 4) (by rfl) scQa.nd rfl rfl (sw_true rfl rfl rfl (by decide +kernel)) (pi_range1 (by rfl) T.range (pa_cons (pe_gl T.SLOT_COUNT) pa_nil)) (blkOk_by (N := NQa) (sc := defScope sQa) (by decide +kernel)) (fun _ _ _ _ _ => pg_name (i := 4) scQa.nd rfl (Or.inl rfl)) (fun _ _ _ _ _ => (pts_one (pt_not (pt_val (pm D_is_zero_in (hr.mono (by decide)) (pv 0) (pa_cons (pv 4) pa_nil)))))) (fun _ _ _ _ _ => (pv 4)))
      (pss_cons (ps_for PassesOwn.never rfl (pi_list (pv 1)) (pg_name (i := 2) scQa.nd rfl (.inl rfl)) (pss_one (ps_for PassesOwn.never rfl (pi_list (pv 1)) (pg_name (i := 3) scQa.nd rfl (.inl rfl)) (pss_one (ps_if (PW.pt (pw_and (pt_cmpR op_lt (pv 2) (pv 3) (nomark _)) (pw_and1 (pt_not (pt_val (pd D_commonly_interlaced (hr.mono (by decide)) (pa_cons (pm D_whole_in (hr.mono (by decide)) (pv 0) (pa_cons (pv 2) pa_nil)) (pa_cons (pm D_whole_in (hr.mono (by decide)) (pv 0) (pa_cons (pv 3) pa_nil)) pa_nil)))))))) (pss_one (ps_ret (pe_lst (pa_cons pe_int (pa_cons (pv 2) (pa_cons (pv 3) pa_nil)))))) pss_nil)))))
      (pss_one (ps_ret (pe_lst (pa_cons pe_int pa_nil)))))), ?_⟩
    rw [all_ans] at k
    have flen : ∀ n, ((List.range n).filter fun i => pIn l i != []).length ≤ n := fun n => Nat.le_trans (List.length_filter_le _ _) (by simp)
    obtain ⟨pl, dx, h1, ok⟩ := hi.is
    refine ⟨4, rfl, by decide, by decide, fun D hD => lc_det (walk_range (lo := 0) (n := 4)) (fun n => ((List.range n).filter fun i => pIn l i != []).map fun i => V.int (i : Nat)) rfl (fun n hn => by rw [List.length_map]; have := flen n; omega) hD (fun _ _ => trivial) (fun n v H2 H' hn s' hy N Rk no r => ?_) fun H2 s2 eD => ?_⟩
    · obtain ⟨rfl, rfl⟩ := hy
      have e0 : V.int (0 + ((n : Nat) : Int)) = V.int (n : Nat) := congrArg V.int (by omega)
      show gName 4 (V.int (0 + ((n : Nat) : Int))) _ _ _
      rw [e0]
      have st := fil_step l n
      refine ⟨rfl, _, rfl, a, dx, _, rfl, s' _ _ h1, rfl, _, rfl, a, l, n, rfl, hi.same s', hn, _, rfl, ?_⟩
      cases c : zeroIn l n with
      | true =>
        rw [c] at st
        refine iteF (no _ (Same.refl _) ?_)
        rw [st, if_pos rfl, List.append_nil]
      | false =>
        rw [c] at st
        refine iteT ⟨_, rfl, r _ _ (Same.refl _) ?_⟩
        rw [st, if_neg (by decide), List.map_append]
        rfl
    · have ef : (List.range 4).filter (fun i => pIn l i != []) = fil l := rfl
      rw [ef] at eD
      have eD2 : LI H2 D ((fil l).map fun (i : Nat) => (i : Int)) := by
        show H2 D = _
        rw [eD, List.map_map]
        rfl
      have hi2 := hi.same s2
      have hit : ∀ (m n i j : Nat), (fil l)[m]? = some i → (fil l)[n]? = some j → i < j → (((fil l).take m).flatMap fun i => inn i (fil l)).find? (badP l) = none → (inn i ((fil l).take n)).find? (badP l) = none → badP l (i, j) = true →
          fnd l ((fil l).flatMap fun i => inn i (fil l)) = [0, (i : Int), (j : Int)] := fun m n i j hm hn hij f1 f2 f3 => by
        obtain ⟨r, er⟩ := inn_split hn hij
        rw [flat_split (f := fun i => inn i (fil l)) hm, er, List.append_assoc]
        unfold fnd
        rw [List.find?_append, f1, Option.none_or, List.find?_append, f2, Option.none_or, List.cons_append, List.find?_cons, f3]
      have done : (((fil l).take (fil l).length).flatMap fun i => inn i (fil l)).find? (badP l) = none → fnd l ((fil l).flatMap fun i => inn i (fil l)) = [1] := fun h => by
        rw [List.take_length] at h
        unfold fnd
        rw [h]
      have ln : ((fil l).map fun (i : Nat) => (i : Int)).length = (fil l).length := List.length_map _
      refine ⟨_, rfl, D, rfl, ⟨_, eD2.sq⟩, for_list (K := K) (a := D) (xs := ((fil l).map fun (i : Nat) => (i : Int)).map V.int) (fun m σ H' => Same H2 H' ∧ (∃ v v' : Option V, σ = [some (.ref a), some (.ref D), v, v', none]) ∧ (((fil l).take m).flatMap fun i => inn i (fil l)).find? (badP l) = none)
        ⟨Same.refl _, ⟨none, none, rfl⟩, by rw [List.take_zero]; rfl⟩ (fun m σ H' _ e => (eD2.same e.1).sq) ?_ ?_⟩
      · rintro m x σ H3 hx ⟨s3, ⟨v, v', rfl⟩, f1⟩
        obtain ⟨z, hz, rfl⟩ := li_get hx
        rw [List.getElem?_map] at hz
        cases hm : (fil l)[m]? with
        | none => rw [hm] at hz; cases hz
        | some i =>
          rw [hm] at hz
          obtain rfl : (i : Int) = z := Option.some.inj hz
          refine ⟨_, rfl, D, rfl, ⟨_, (eD2.same s3).sq⟩, for_list (K := K) (a := D) (xs := ((fil l).map fun (i : Nat) => (i : Int)).map V.int) (fun n σ H' => Same H2 H' ∧ (∃ v' : Option V, σ = [some (.ref a), some (.ref D), some (.int (i : Int)), v', none]) ∧ (inn i ((fil l).take n)).find? (badP l) = none)
            ⟨s3, ⟨v', rfl⟩, by rw [List.take_zero]; rfl⟩ (fun n σ H' _ e => (eD2.same e.1).sq) ?_ ?_⟩
          · rintro n x σ H4 hx' ⟨s4, ⟨v', rfl⟩, f2⟩
            obtain ⟨z, hz', rfl⟩ := li_get hx'
            rw [List.getElem?_map] at hz'
            cases hn : (fil l)[n]? with
            | none => rw [hn] at hz'; cases hz'
            | some j =>
              rw [hn] at hz'
              obtain rfl : (j : Int) = z := Option.some.inj hz'
              have tk := inn_take (i := i) hn
              refine ⟨_, rfl, _, rfl, _, _, rfl, rfl, _, rfl, ?_⟩
              by_cases c : i < j
              · rw [if_pos c] at tk
                rw [decide_eq_true (show (i : Int) < (j : Int) by omega)]
                obtain ⟨i4, ni⟩ := fil_mem (List.mem_of_getElem? hm)
                obtain ⟨j4, nj⟩ := fil_mem (List.mem_of_getElem? hn)
                have hi4 := hi2.same s4
                have h14 := (s2.trans s4) _ _ h1
                refine iteT ⟨_, rfl, a, dx, _, rfl, h14, rfl, _, rfl, a, l, i, rfl, hi4, i4, fun H5 x s5 hx => ?_⟩
                refine ⟨_, rfl, a, dx, _, rfl, s5 _ _ h14, rfl, _, rfl, a, l, j, rfl, hi4.same s5, j4, fun H6 y s6 hy => ?_⟩
                refine ⟨x, y, _, _, rfl, two_of ok ni nj (hx.same s6) hy, fun H7 s7 => ⟨_, rfl, ?_⟩⟩
                have sB := s4.trans (s5.trans (s6.trans s7))
                cases g : Kqg2.haveCommonInterlacing (pIn l i) (pIn l j) with
                | true =>
                  refine iteF ⟨sB, ⟨_, rfl⟩, ?_⟩
                  rw [tk, List.find?_append, f2, Option.none_or, List.find?_cons]
                  have : badP l (i, j) = false := by unfold badP; rw [g]; rfl
                  rw [this]
                  rfl
                | false =>
                  have bd : badP l (i, j) = true := by unfold badP; rw [g]; rfl
                  rw [hit m n i j hm hn c f1 f2 bd] at k
                  exact iteT ⟨_, rfl, _, rfl, (by show 3 ≤ sizeLine; decide), fun u hu => k _ u (s2.trans (sB.trans (upd_new hu))) upd_same⟩
              · rw [if_neg c, List.append_nil] at tk
                rw [decide_eq_false (show ¬ (i : Int) < (j : Int) by omega)]
                refine iteF (iteF ⟨s4, ⟨_, rfl⟩, ?_⟩)
                rw [tk]
                exact f2
          · rintro σ H4 ⟨s4, ⟨v', rfl⟩, f2⟩
            rw [List.length_map, ln, List.take_length] at f2
            refine ⟨s4, ⟨_, _, rfl⟩, ?_⟩
            rw [take_more hm, List.flatMap_append, List.find?_append, f1, Option.none_or, List.flatMap_cons, List.flatMap_nil, List.append_nil]
            exact f2
      · rintro σ H3 ⟨s3, ⟨v, v', rfl⟩, f1⟩
        rw [List.length_map, ln] at f1
        rw [done f1] at k
        exact ⟨(by show 1 ≤ sizeLine; decide), fun u hu => k _ u (s2.trans (s3.trans (upd_new hu))) upd_same⟩
end
end Il
namespace Kv
theorem fold_min (l : List (Int × Int)) : ∀ a : Int, (l.foldl (fun b x => min b (x.2 - x.1)) a ≤ a ∧ ∀ x ∈ l, l.foldl (fun b x => min b (x.2 - x.1)) a ≤ x.2 - x.1) ∧ (l.foldl (fun b x => min b (x.2 - x.1)) a = a ∨ ∃ x ∈ l, l.foldl (fun b x => min b (x.2 - x.1)) a = x.2 - x.1) := by
  induction l with
  | nil => intro a; exact ⟨⟨Int.le_refl _, fun x h => by simp at h⟩, .inl rfl⟩
  | cons y l ih =>
    intro a
    obtain ⟨⟨h1, h2⟩, h3⟩ := ih (min a (y.2 - y.1))
    rw [List.foldl_cons]
    refine ⟨⟨by omega, fun x hx => ?_⟩, ?_⟩
    · rcases List.mem_cons.mp hx with e | e
      · rw [e]; omega
      · exact h2 x e
    · rcases h3 with e | ⟨x, hx, e⟩
      · by_cases c : a ≤ y.2 - y.1
        · left; rw [e]; omega
        · right; exact ⟨y, List.mem_cons_self, by rw [e]; omega⟩
      · right; exact ⟨x, List.mem_cons_of_mem _ hx, e⟩
def dif (fl : List Int) : List Int := (List.zip fl (fl.drop 1)).map fun x => x.2 - x.1
theorem dif_len (fl : List Int) : (dif fl).length = fl.length - 1 := by
  unfold dif
  rw [List.length_map, List.length_zip, List.length_drop]
  omega
theorem dif_at {fl : List Int} {i : Nat} {a b : Int} (h1 : fl[i]? = some a) (h2 : fl[i + 1]? = some b) : (dif fl)[i]? = some (b - a) := by
  unfold dif
  have h3 : (fl.drop 1)[i]? = some b := by rw [List.getElem?_drop, Nat.add_comm]; exact h2
  have hz : (List.zip fl (fl.drop 1))[i]? = some (a, b) := List.getElem?_zip_eq_some.mpr ⟨h1, h3⟩
  rw [List.getElem?_map, hz]
  rfl
theorem dif_min {fl : List Int} (h : 2 ≤ fl.length) {m : Int} (hm : m ∈ dif fl) (hle : ∀ y ∈ dif fl, m ≤ y) : (List.zip fl (fl.drop 1)).foldl (fun best x => min best (x.2 - x.1)) (fl.getD 1 0 - fl.getD 0 0) = m := by
  obtain ⟨⟨h1, h2⟩, h3⟩ := fold_min (List.zip fl (fl.drop 1)) (fl.getD 1 0 - fl.getD 0 0)
  have h0 : fl.getD 1 0 - fl.getD 0 0 ∈ dif fl := by
    have e0 : fl[0]? = some (fl.getD 0 0) := by rw [List.getD_eq_getElem?_getD, List.getElem?_eq_getElem (by omega)]; rfl
    have e1 : fl[0 + 1]? = some (fl.getD 1 0) := by rw [List.getD_eq_getElem?_getD, List.getElem?_eq_getElem (by omega)]; rfl
    exact List.mem_of_getElem? (dif_at e0 e1)
  have u := hle _ h0
  have up : (List.zip fl (fl.drop 1)).foldl (fun best x => min best (x.2 - x.1)) (fl.getD 1 0 - fl.getD 0 0) ≤ m := by
    obtain ⟨x, hx, rfl⟩ := List.mem_map.mp hm
    exact h2 x hx
  have dn : m ≤ (List.zip fl (fl.drop 1)).foldl (fun best x => min best (x.2 - x.1)) (fl.getD 1 0 - fl.getD 0 0) := by
    rcases h3 with e | ⟨x, hx, e⟩
    · rw [e]; exact u
    · rw [e]; exact hle _ (List.mem_map.mpr ⟨x, hx, rfl⟩)
  omega
end Kv
namespace Il
open PySem PySem.Spec PyProof.Rows L2
theorem rfB_pos {l : List (List Rat)} {sl : List Nat} {b : Nat} : (rfB l sl b = [] ∧ decide ((0 : Int) < ((rfB l sl b).length : Int)) = false) ∨ (rfB l sl b ≠ [] ∧ decide ((0 : Int) < ((rfB l sl b).length : Int)) = true) := by
  by_cases c : rfB l sl b = []
  · exact .inl ⟨c, by rw [c]; rfl⟩
  · have pos := List.length_pos_iff.mpr c
    exact .inr ⟨c, decide_eq_true (by omega)⟩
theorem rfB_ok {l : List (List Rat)} {sl : List Nat} {b : Nat} (h : rfB l sl b = []) : rfS l sl = [] ∧ b ≤ 20 := by
  unfold rfB at h
  by_cases c : rfS l sl = [] ∧ 20 < b
  · rw [if_pos c] at h; cases h
  · rw [if_neg c] at h
    exact ⟨h, Classical.byContradiction fun d => c ⟨h, by omega⟩⟩
theorem rfB_bad {l : List (List Rat)} {sl : List Nat} {b : Nat} (h : rfS l sl ≠ []) : rfB l sl b = rfS l sl := by unfold rfB; rw [if_neg (fun c => h c.1)]
theorem rfB_big {l : List (List Rat)} {sl : List Nat} {b : Nat} (h : rfS l sl = []) (d : 20 < b) : rfB l sl b = [-22] := by unfold rfB; rw [if_pos ⟨h, d⟩]
theorem rfB_good {l : List (List Rat)} {sl : List Nat} {b : Nat} (h : rfS l sl = []) (d : ¬ 20 < b) : rfB l sl b = [] := by unfold rfB; rw [if_neg (fun c => d c.2)]; exact h
theorem two_bits {l : List (List Rat)} {i j bits : Nat} {k : List Rat → List Rat → Kqg2.Result} {x : List Int} (h : ∀ p q, p = pIn l i → q = pIn l j → ¬ 20 < bits → Kqg2Neutral.fields (k p q) = x) (h2 : ∀ p q, 20 < bits → Kqg2Neutral.fields (k p q) = [-22]) :
    Kqg2Neutral.fields (Kqg2.ofTwo (some l) l i j k).2 = if rfB l [i, j] bits = [] then x else rfB l [i, j] bits := by
  rw [two_ans]
  by_cases c : rfS l [i, j] = []
  · rw [if_pos c]
    by_cases d : 20 < bits
    · rw [rfB_big c d, if_neg (List.cons_ne_nil _ _)]
      exact h2 _ _ d
    · rw [rfB_good c d, if_pos rfl]
      exact h _ _ rfl rfl d
  · rw [if_neg c, rfB_bad c, if_neg c]
def fllN (prs : List (Nat × Nat)) (J : List Rat) (bits : Nat) : List Int := match Kv.gll prs with
  | none => [-34]
  | some k => [0, Kqg1.rootFloor J (Kqg1.countRoots J .minusInfinity .plusInfinity - 1 - k) bits]
def fllR (prs : List (Nat × Nat)) (J : List Rat) (bits : Nat) : Kqg2.Result := if 20 < bits then .value (-22) else match Kv.gll prs with
  | none => .value (-34)
  | some k => .values 0 [Kqg1.rootFloor J (Kqg1.countRoots J .minusInfinity .plusInfinity - 1 - k) bits]
theorem step_fll (l : List (List Rat)) (i j bits : Nat) : Kqg2.step (some l) (.firstLargeLead i j bits) = Kqg2.ofTwo (some l) l i j fun p q => fllR (Kqg2.jointMultiplicities p q) (Kv.JP p q) bits := by
  unfold Kqg2.step
  dsimp only
  refine congrArg (Kqg2.ofTwo (some l) l i j) (funext fun p => funext fun q => ?_)
  unfold Kv.JP
  generalize Kqg2.jointMultiplicities p q = prs
  generalize Kqg2.jointPolynomial p q = J
  unfold fllR Kv.gll
  have e : (fun d : Int => decide (d < -1) || decide (1 < d)) = Kv.bigD := rfl
  rw [e]
  cases (Kqg2.leads prs).findIdx? Kv.bigD with
  | none => rfl
  | some k => rfl
theorem fllR_eq (prs : List (Nat × Nat)) (J : List Rat) (bits : Nat) : (¬ 20 < bits → Kqg2Neutral.fields (fllR prs J bits) = fllN prs J bits) ∧ (20 < bits → Kqg2Neutral.fields (fllR prs J bits) = [-22]) := by
  unfold fllR fllN
  refine ⟨fun h => ?_, fun h => by rw [if_pos h]; rfl⟩
  rw [if_neg h]
  cases Kv.gll prs with
  | none => rfl
  | some k => rfl
theorem ans_fll (l : List (List Rat)) (i j bits : Nat) : ans l (.firstLargeLead i j bits) = if rfB l [i, j] bits = [] then fllN (Kqg2.jointMultiplicities (pIn l i) (pIn l j)) (Kv.JP (pIn l i) (pIn l j)) bits else rfB l [i, j] bits := by
  unfold ans
  rw [step_fll]
  refine two_bits (fun p q hp hq h => ?_) fun p q h => (fllR_eq _ _ _).2 h
  rw [hp, hq]
  exact (fllR_eq _ _ _).1 h
section
variable {P : Program} {w : World} {K : PySem.W.Frag} {mg : Str → Option Value} {base : Heap}
abbrev sPf : Stmt := topS 78
abbrev NPf : List Str := ["instance", "first", "second", "bits", "refusal", "left", "right", "pairs", "place"]
theorem scPf : FnScope NPf ["instance", "first", "second", "bits"] (defScope sPf) := ⟨rfl, rfl, rfl, by decide +kernel, rfl, by decide +kernel, by decide +kernel⟩
def spPf (C : Addr) : Sp := fun vs H Q _ => ∃ (a : Addr) (l : List (List Rat)) (i j bits : Nat), vs = [.ref a, .int (i : Int), .int (j : Int), .int (bits : Int)] ∧ InSl C H a l ∧ GiveL H Q (ans l (.firstLargeLead i j bits))
theorem df_pf {C : Addr} (T : Gm mg) (F : Fx K mg "first_large_lead" sPf) (D_bits_refusal : Df P w K mg base "bits_refusal" 3 ["instance", "slots", "bits"] (spBr C)) (D_refused : Df P w K mg base "refused" 1 ["code"] spRd)
    (D_joint_pairs : Df P w K mg base "joint_pairs" 41 ["first", "second"] spJp) (D_greatest_large_lead : Df P w K mg base "greatest_large_lead" 2 ["pairs"] spGl) (D_joint_root_floor : Df P w K mg base "joint_root_floor" 41 ["first", "second", "pairs", "place", "bits"] spJf)
    (D_whole_in : Dm P w K mg base C "whole_in" 4 ["self", "slot"] (spInW C)) : Df P w K mg base "first_large_lead" 42 ["instance", "first", "second", "bits"] (spPf C) := by
  refine df_of F scPf (fun _ _ _ _ _ _ us hl => match us, hl with | [_, _, _, _], _ => rfl) (fun vs H Q E h => ?_) (fun f cdv A outer s H vs Q E hr h => ?_)
  · obtain ⟨a, l, i, j, bits, rfl, _⟩ := h
    rfl
  · obtain ⟨a, l, i, j, bits, rfl, hi, k⟩ := h
    refine ⟨_, (pss_cons (ps_set (i := 4) scPf.nd rfl (.inl rfl) (pd D_bits_refusal (hr.mono (by decide)) (pa_cons (pv 0) (pa_cons (pe_lst (pa_cons (pv 1) (pa_cons (pv 2) pa_nil))) (pa_cons (pv 3) pa_nil)))))
      (pss_cons (ps_if (pt_cmpR op_gt (pe_callB (call_lenK K) (by rfl) T.len (by decide +kernel) (pa_cons (pv 4) pa_nil)) pe_int (nomark _)) (pss_one (ps_ret (pv 4))) pss_nil)
      (pss_cons (ps_set (i := 5) scPf.nd rfl (.inl rfl) (pm D_whole_in (hr.mono (by decide)) (pv 0) (pa_cons (pv 1) pa_nil)))
      (pss_cons (ps_set (i := 6) scPf.nd rfl (.inl rfl) (pm D_whole_in (hr.mono (by decide)) (pv 0) (pa_cons (pv 2) pa_nil)))
      (pss_cons (ps_set (i := 7) scPf.nd rfl (.inl rfl) (pd D_joint_pairs (hr.mono (by decide)) (pa_cons (pv 5) (pa_cons (pv 6) pa_nil))))
      (pss_cons (ps_set (i := 8) scPf.nd rfl (.inl rfl) (pd D_greatest_large_lead (hr.mono (by decide)) (pa_cons (pv 7) pa_nil)))
      (pss_cons (ps_if (pt_cmpR op_isN (pv 8) pe_non (nomark _)) (pss_one (ps_ret (pd D_refused (hr.mono (by decide)) (pa_cons (pe_gl T.NO_SUCH_ROOT) pa_nil)))) pss_nil)
      (pss_one (ps_ret (pe_lst (pa_cons pe_int (pa_cons (pd D_joint_root_floor (hr.mono (by decide)) (pa_cons (pv 5) (pa_cons (pv 6) (pa_cons (pv 7) (pa_cons (pv 8) (pa_cons (pv 3) pa_nil)))))) pa_nil)))))))))))), ?_⟩
    refine ⟨_, rfl, _, rfl, _, rfl, (by show 2 ≤ sizeLine; decide), fun sa hsa => ?_⟩
    have s1 := upd_new (o := .lst [V.int (i : Int), V.int (j : Int)]) hsa
    refine ⟨_, rfl, a, sa, l, [i, j], bits, rfl, hi.same s1, upd_same, by show 2 ≤ 10000; decide, fun H2 r s2 hr2 => ?_⟩
    have sA := s1.trans s2
    refine ⟨_, rfl, r, _, rfl, hr2.len, _, _, rfl, rfl, _, rfl, ?_⟩
    rw [ans_fll] at k
    rcases rfB_pos (l := l) (sl := [i, j]) (b := bits) with ⟨c, d⟩ | ⟨c, d⟩
    · rw [d]
      rw [if_pos c] at k
      obtain ⟨c1, b20⟩ := rfB_ok c
      obtain ⟨i4, j4, ni, nj⟩ := rfS_two_ok c1
      have hi2 := hi.same sA
      obtain ⟨pl, dx, h1, ok⟩ := hi2.is
      refine iteF ⟨_, rfl, a, dx, _, rfl, h1, rfl, _, rfl, a, l, i, rfl, hi2, i4, fun H3 x s3 hx => ?_⟩
      refine ⟨_, rfl, a, dx, _, rfl, s3 _ _ h1, rfl, _, rfl, a, l, j, rfl, hi2.same s3, j4, fun H4 y s4 hy => ?_⟩
      have two := two_of ok ni nj (hx.same s4) hy
      obtain ⟨⟨p, q, hp, hq, G1, G2⟩, sp, sq⟩ := id two
      refine ⟨_, rfl, _, rfl, x, y, p, q, _, _, rfl, hp, hq, G1, G2, sp, sq, fun ll H5 z s5 n5 hz => ?_⟩
      refine ⟨_, rfl, z, _, rfl, hz, ll, fun H6 s6 => ?_⟩
      have sB := sA.trans (s3.trans (s4.trans (s5.trans s6)))
      refine ⟨_, rfl, rfl, _, rfl, ?_⟩
      have jf : ∀ {t : Nat}, t < (Kqg2.jointMultiplicities (pIn l i) (pIn l j)).length → (Kqg2.jointMultiplicities (pIn l i) (pIn l j)).length = Kqg1.countRoots (Kv.JP (pIn l i) (pIn l j)) .minusInfinity .plusInfinity := fun {t} ht =>
        (Kv.joint_floor G1.t0 G1.n0 sp G2.t0 G2.n0 sq (List.getElem?_eq_getElem ht) bits).2.2
      have hz6 := Il.Ls.same PrAt.keeps hz s6
      have two6 := two.same (s5.trans s6)
      unfold fllN at k
      unfold placeV
      cases eg : Kv.gll (Kqg2.jointMultiplicities (pIn l i) (pIn l j)) with
      | none =>
        rw [eg] at k
        exact iteT ⟨34, rfl, fun H7 u s7 hu => k H7 u (sB.trans s7) hu⟩
      | some t =>
        rw [eg] at k
        have tl : t < (Kqg2.jointMultiplicities (pIn l i) (pIn l j)).length := by
          unfold Kv.gll at eg
          obtain ⟨h, _⟩ := List.findIdx?_eq_some_iff_getElem.mp eg
          rw [Kv.leads_asc, List.length_reverse, Kv.asc_len] at h
          exact h
        have el := jf tl
        refine iteF ⟨_, rfl, _, rfl, _, rfl, _, rfl, _, rfl, x, y, z, _, _, (Kqg2.jointMultiplicities (pIn l i) (pIn l j)).length - 1 - t, bits, rfl, two6, hz6, by omega, ll, b20, fun H7 s7 => ⟨(by show 2 ≤ sizeLine; decide), fun u hu => ?_⟩⟩
        refine k _ u (sB.trans (s7.trans (upd_new hu))) ?_
        show upd H7 u _ u = _
        rw [upd_same, el]
        rfl
    · rw [d]
      rw [if_neg c] at k
      exact iteT ⟨_, rfl, k H2 r sA hr2⟩
abbrev sPg : Stmt := topS 79
abbrev NPg : List Str := ["instance", "slot", "bits", "refusal", "floors", "place"]
theorem scPg : FnScope NPg ["instance", "slot", "bits"] (defScope sPg) := ⟨rfl, rfl, rfl, by decide +kernel, rfl, by decide +kernel, by decide +kernel⟩
def gapF (fl : List Int) : List Int := if fl.length < 2 then [-34] else [0, (List.zip fl (fl.drop 1)).foldl (fun best x => min best (x.2 - x.1)) (fl.getD 1 0 - fl.getD 0 0)]
theorem ans_gap (l : List (List Rat)) (i bits : Nat) : ans l (.minRootGap i bits) = if rfB l [i] bits = [] then gapF (flo (pIn l i) bits) else rfB l [i] bits := by
  have st : ans l (.minRootGap i bits) = Kqg2Neutral.fields (if 4 ≤ i then .value (-2) else if pIn l i = [] then .value (-33) else if 20 < bits then .value (-22) else
      if Kqg1.countRoots (Kqg1.squarefree (pIn l i)) .minusInfinity .plusInfinity < 2 then .value (-34) else .values 0 [(List.zip (flo (pIn l i) bits) ((flo (pIn l i) bits).drop 1)).foldl (fun best x => min best (x.2 - x.1)) ((flo (pIn l i) bits).getD 1 0 - (flo (pIn l i) bits).getD 0 0)]) := by
    unfold ans Kqg2.step flo
    rfl
  rw [st]
  have ln : (flo (pIn l i) bits).length = Kqg1.countRoots (Kqg1.squarefree (pIn l i)) .minusInfinity .plusInfinity := by unfold flo; rw [List.length_map, List.length_range]
  rw [← ln]
  unfold gapF
  generalize flo (pIn l i) bits = fl
  by_cases c : 4 ≤ i
  · have r : rfS l [i] = [-2] := by rw [rfS_one, if_pos c]
    have r' : rfB l [i] bits = [-2] := (rfB_bad (by rw [r]; exact List.cons_ne_nil _ _)).trans r
    rw [r', if_pos c, if_neg (List.cons_ne_nil _ _)]; rfl
  · by_cases d' : pIn l i = []
    · have r : rfS l [i] = [-33] := by rw [rfS_one, if_neg c, if_pos d']
      have r' : rfB l [i] bits = [-33] := (rfB_bad (by rw [r]; exact List.cons_ne_nil _ _)).trans r
      rw [r', if_neg c, if_pos d', if_neg (List.cons_ne_nil _ _)]; rfl
    · have r : rfS l [i] = [] := by rw [rfS_one, if_neg c, if_neg d']
      rw [if_neg c, if_neg d']
      by_cases g : 20 < bits
      · rw [rfB_big r g, if_pos g, if_neg (List.cons_ne_nil _ _)]; rfl
      · rw [rfB_good r g, if_neg g, if_pos rfl]
        by_cases h : fl.length < 2
        · rw [if_pos h, if_pos h]; rfl
        · rw [if_neg h, if_neg h]; rfl
def spPg (C : Addr) : Sp := fun vs H Q _ => ∃ (a : Addr) (l : List (List Rat)) (i bits : Nat), vs = [.ref a, .int (i : Int), .int (bits : Int)] ∧ InSl C H a l ∧ GiveL H Q (ans l (.minRootGap i bits))
theorem df_pg {C : Addr} (T : Gm mg) (F : Fx K mg "min_root_gap" sPg) (D_bits_refusal : Df P w K mg base "bits_refusal" 3 ["instance", "slots", "bits"] (spBr C)) (D_refused : Df P w K mg base "refused" 1 ["code"] spRd)
    (D_distinct_root_floors : Df P w K mg base "distinct_root_floors" 41 ["polynomial", "bits"] spDf) (D_whole_in : Dm P w K mg base C "whole_in" 4 ["self", "slot"] (spInW C)) : Df P w K mg base "min_root_gap" 42 ["instance", "slot", "bits"] (spPg C) := by
  refine df_of F scPg (fun _ _ _ _ _ _ us hl => match us, hl with | [_, _, _], _ => rfl) (fun vs H Q E h => ?_) (fun f cdv A outer s H vs Q E hr h => ?_)
  · obtain ⟨a, l, i, bits, rfl, _⟩ := h
    rfl
  · obtain ⟨a, l, i, bits, rfl, hi, k⟩ := h
    refine ⟨_, (pss_cons (ps_set (i := 3) scPg.nd rfl (.inl rfl) (pd D_bits_refusal (hr.mono (by decide)) (pa_cons (pv 0) (pa_cons (pe_lst (pa_cons (pv 1) pa_nil)) (pa_cons (pv 2) pa_nil)))))
      (pss_cons (ps_if (pt_cmpR op_gt (pe_callB (call_lenK K) (by rfl) T.len (by decide +kernel) (pa_cons (pv 3) pa_nil)) pe_int (nomark _)) (pss_one (ps_ret (pv 3))) pss_nil)
      (pss_cons (ps_set (i := 4) scPg.nd rfl (.inr rfl) (pd D_distinct_root_floors (hr.mono (by decide)) (pa_cons (pm D_whole_in (hr.mono (by decide)) (pv 0) (pa_cons (pv 1) pa_nil)) (pa_cons (pv 2) pa_nil))))
      (pss_cons (ps_if (pt_cmpR op_lt (pe_callB (call_lenK K) (by rfl) T.len (by decide +kernel) (pa_cons (pv 4) pa_nil)) pe_int (nomark _)) (pss_one (ps_ret (pd D_refused (hr.mono (by decide)) (pa_cons (pe_gl T.NO_SUCH_ROOT) pa_nil)))) pss_nil)
      (pss_one (ps_ret (pe_lst (pa_cons pe_int (pa_cons (pe_callB (cr_min rfl) (by rfl) T.min (by decide +kernel) (pa_cons (pe_lc (own := [("place", 5)]) (g := gName 5) (by rfl) scPg.nd (pi_range2 (by rfl) T.range (pa_cons pe_int (pa_cons (pe_callB (call_lenK K) (by rfl) T.len (by decide +kernel) (pa_cons (pv 4) pa_nil)) pa_nil))) (blkOk_by (N := NPg) (sc := defScope sPg) (by decide +kernel)) (fun _ _ _ _ _ => pg_name (i := 5) scPg.nd rfl (Or.inl rfl)) (fun _ _ _ _ _ => pts_nil) (fun _ _ _ _ _ => (pe_op op_sub (pe_ix (ix_listK K) (pv 4) (pv 5) (fun _ _ => rfl)) (pe_ix (ix_listK K) (pv 4) (pe_op op_sub (pv 5) pe_int) (fun _ _ => rfl))))) pa_nil)) pa_nil))))))))), ?_⟩
    refine ⟨_, rfl, _, rfl, (by show 1 ≤ sizeLine; decide), fun sa hsa => ?_⟩
    have s1 := upd_new (o := .lst [V.int (i : Int)]) hsa
    refine ⟨_, rfl, a, sa, l, [i], bits, rfl, hi.same s1, upd_same, by show 1 ≤ 10000; decide, fun H2 r s2 hr2 => ?_⟩
    have sA := s1.trans s2
    refine ⟨_, rfl, r, _, rfl, hr2.len, _, _, rfl, rfl, _, rfl, ?_⟩
    rw [ans_gap] at k
    rcases rfB_pos (l := l) (sl := [i]) (b := bits) with ⟨c, d⟩ | ⟨c, d⟩
    · rw [d]
      rw [if_pos c] at k
      obtain ⟨c1, b20⟩ := rfB_ok c
      obtain ⟨i4, ni⟩ := rfS_one_ok c1
      have hi2 := hi.same sA
      obtain ⟨pl, dx, h1, ok⟩ := hi2.is
      have po := ok.at_ i
      obtain ⟨wp, wh⟩ := whole_pol po.tr ni po.sm
      refine iteF ⟨_, rfl, a, dx, _, rfl, h1, rfl, _, rfl, a, l, i, rfl, hi2, i4, fun H3 x s3 hx => ?_⟩
      refine ⟨_, rfl, x, _, _, bits, rfl, hx, wp, wh, b20, fun ll H4 y s4 hy => ?_⟩
      generalize flo (pIn l i) bits = fl at *
      have sB := sA.trans (s3.trans s4)
      refine ⟨_, rfl, y, _, rfl, hy.len, _, _, rfl, rfl, _, rfl, ?_⟩
      unfold gapF at k
      by_cases c2 : fl.length < 2
      · rw [if_pos c2] at k
        rw [decide_eq_true (show (fl.length : Int) < 2 by omega)]
        exact iteT ⟨34, rfl, fun H5 u s5 hu => k H5 u (sB.trans s5) hu⟩
      · rw [if_neg c2] at k
        rw [decide_eq_false (show ¬ (fl.length : Int) < 2 by omega)]
        refine iteF ⟨_, rfl, y, _, rfl, hy.len, _, _, rfl, ⟨by decide, by decide, by omega, by omega⟩, fun D hD => lc_det (walk_range (lo := 1) (n := ((fl.length : Int) - 1).toNat)) (fun m => ((Kv.dif fl).take m).map V.int) (by simp) (fun m _ => by rw [List.length_map, List.length_take, Kv.dif_len]; omega) hD (fun _ _ => trivial) (fun m v H5 H' hm s' hy' N Rk _ rr => ?_) fun H5 s5 eD => ?_⟩
        · obtain ⟨rfl, rfl⟩ := hy'
          have m1 : m + 1 < fl.length := by omega
          have e1 : fl[m]? = some (fl[m]'(by omega)) := List.getElem?_eq_getElem _
          have e2 : fl[m + 1]? = some (fl[m + 1]'m1) := List.getElem?_eq_getElem _
          generalize fl[m]'(by omega) = u at e1
          generalize fl[m + 1]'m1 = v at e2
          have hd := Kv.dif_at e1 e2
          have hy5 := hy.same s'
          refine ⟨rfl, _, rfl, _, rfl, y, _, _, _, rfl, rfl, hy5.sq, at_of (j := m + 1) (by omega) (li_at e2), _, rfl, _, rfl, _, _, rfl, rfl, y, _, _, _, rfl, rfl, hy5.sq, at_of (j := m) (by omega) (li_at e1), _, _, rfl, rfl, rr _ _ (Same.refl _) ?_⟩
          rw [take_more hd, List.map_append]
          rfl
        · have e9 : (Kv.dif fl).take ((fl.length : Int) - 1).toNat = Kv.dif fl := List.take_of_length_le (by rw [Kv.dif_len]; omega)
          rw [e9] at eD
          refine ⟨D, _, rfl, SqL.of eD, by rw [Kv.dif_len]; omega, fun m hm hle => ⟨(by show 2 ≤ sizeLine; decide), fun u hu => ?_⟩⟩
          rw [Kv.dif_min (by omega) hm hle] at k
          exact k _ u (sB.trans (s5.trans (upd_new hu))) upd_same
    · rw [d]
      rw [if_neg c] at k
      exact iteT ⟨_, rfl, k H2 r sA hr2⟩
abbrev sPi : Stmt := topS 80
abbrev NPi : List Str := ["instance", "first", "second", "k", "bits", "refusal", "left", "right", "both", "low", "high", "roots"]
theorem scPi : FnScope NPi ["instance", "first", "second", "k", "bits"] (defScope sPi) := ⟨rfl, rfl, rfl, by decide +kernel, rfl, by decide +kernel, by decide +kernel⟩
def itvN (p q : List Rat) (k bits : Nat) : List Int := if Kqg2.haveCommonInterlacing p q = false then [-34] else if Kqg1.degree p ≤ k + 1 then [-2] else
  [0, max (Kqg1.rootFloor p k bits) (Kqg1.rootFloor q k bits), min (Kqg1.rootFloor p (k + 1) bits) (Kqg1.rootFloor q (k + 1) bits)]
theorem ans_itv (l : List (List Rat)) (i j k bits : Nat) : ans l (.interlacingInterval i j k bits) = if rfB l [i, j] bits = [] then itvN (pIn l i) (pIn l j) k bits else rfB l [i, j] bits := by
  have st : Kqg2.step (some l) (.interlacingInterval i j k bits) = Kqg2.ofTwo (some l) l i j fun p q => if 20 < bits then .value (-22) else if Kqg2.haveCommonInterlacing p q = false then .value (-34) else if Kqg1.degree p ≤ k + 1 then .value (-2)
      else .values 0 [max (Kqg1.rootFloor p k bits) (Kqg1.rootFloor q k bits), min (Kqg1.rootFloor p (k + 1) bits) (Kqg1.rootFloor q (k + 1) bits)] := by
    unfold Kqg2.step
    dsimp only
  unfold ans
  rw [st]
  refine two_bits (fun p q hp hq h => ?_) fun p q h => by rw [if_pos h]; rfl
  rw [hp, hq, if_neg h]
  unfold itvN
  by_cases c : Kqg2.haveCommonInterlacing (pIn l i) (pIn l j) = false
  · rw [if_pos c, if_pos c]; rfl
  · rw [if_neg c, if_neg c]
    by_cases d : Kqg1.degree (pIn l i) ≤ k + 1
    · rw [if_pos d, if_pos d]; rfl
    · rw [if_neg d, if_neg d]; rfl
def spPi (C : Addr) : Sp := fun vs H Q _ => ∃ (a : Addr) (l : List (List Rat)) (i j k bits : Nat), vs = [.ref a, .int (i : Int), .int (j : Int), .int (k : Int), .int (bits : Int)] ∧ InSl C H a l ∧ GiveL H Q (ans l (.interlacingInterval i j k bits))
theorem com_tot {p q : List Rat} (tp : Kv.Tr p) (np : p ≠ []) (tq : Kv.Tr q) (nq : q ≠ []) (h : Kqg2.haveCommonInterlacing p q = true) : Kv.tot (Kqg1.layerChains p) = (Kqg1.degree p : Nat) ∧ Kv.tot (Kqg1.layerChains q) = (Kqg1.degree p : Nat) := by
  unfold Kqg2.haveCommonInterlacing at h
  simp only [Bool.and_eq_true] at h
  obtain ⟨⟨⟨h1, h2⟩, h3⟩, _⟩ := h
  have a := Kv.count_all (Kv.fam_layers tp np).1
  have b := Kv.count_all (Kv.fam_layers tq nq).1
  unfold Kqg1.isRealRooted Kqg1.countRoots at h1 h2
  simp only [Bool.and_eq_true, beq_iff_eq] at h1 h2 h3
  have e1 := h1.2
  have e2 := h2.2
  omega
theorem df_pi {C Cr : Addr} (T : Gm mg) (F : Fx K mg "interlacing_interval" sPi) (D_bits_refusal : Df P w K mg base "bits_refusal" 3 ["instance", "slots", "bits"] (spBr C)) (D_refused : Df P w K mg base "refused" 1 ["code"] spRd)
    (D_commonly_interlaced : Df P w K mg base "commonly_interlaced" 43 ["first", "second"] spCo) (D_degree_of : Df P w K mg base "degree_of" 1 ["polynomial"] spDg) (D_CountedRoots : Dk P w K mg base "CountedRoots" Cr 39 ["self", "polynomial"] (spCrI Cr))
    (D_root_floor : Df P w K mg base "root_floor" 6 ["roots", "index", "bits"] (spRf Cr)) (D_whole_in : Dm P w K mg base C "whole_in" 4 ["self", "slot"] (spInW C)) : Df P w K mg base "interlacing_interval" 44 ["instance", "first", "second", "k", "bits"] (spPi C) := by
  refine df_of F scPi (fun _ _ _ _ _ _ us hl => match us, hl with | [_, _, _, _, _], _ => rfl) (fun vs H Q E h => ?_) (fun f cdv A outer s H vs Q E hr h => ?_)
  · obtain ⟨a, l, i, j, k, bits, rfl, _⟩ := h
    rfl
  · obtain ⟨a, l, i, j, k, bits, rfl, hi, kk⟩ := h
    refine ⟨_, (pss_cons (ps_set (i := 5) scPi.nd rfl (.inl rfl) (pd D_bits_refusal (hr.mono (by decide)) (pa_cons (pv 0) (pa_cons (pe_lst (pa_cons (pv 1) (pa_cons (pv 2) pa_nil))) (pa_cons (pv 4) pa_nil)))))
      (pss_cons (ps_if (pt_cmpR op_gt (pe_callB (call_lenK K) (by rfl) T.len (by decide +kernel) (pa_cons (pv 5) pa_nil)) pe_int (nomark _)) (pss_one (ps_ret (pv 5))) pss_nil)
      (pss_cons (ps_set (i := 6) scPi.nd rfl (.inl rfl) (pm D_whole_in (hr.mono (by decide)) (pv 0) (pa_cons (pv 1) pa_nil)))
      (pss_cons (ps_set (i := 7) scPi.nd rfl (.inl rfl) (pm D_whole_in (hr.mono (by decide)) (pv 0) (pa_cons (pv 2) pa_nil)))
      (pss_cons (ps_if (pt_not (pt_val (pd D_commonly_interlaced (hr.mono (by decide)) (pa_cons (pv 6) (pa_cons (pv 7) pa_nil))))) (pss_one (ps_ret (pd D_refused (hr.mono (by decide)) (pa_cons (pe_gl T.NO_SUCH_ROOT) pa_nil)))) pss_nil)
      (pss_cons (ps_if (pt_cmpR op_le (pd D_degree_of (hr.mono (by decide)) (pa_cons (pv 6) pa_nil)) (pe_op op_add (pv 3) pe_int) (nomark _)) (pss_one (ps_ret (pd D_refused (hr.mono (by decide)) (pa_cons (pe_gl T.NO_SUCH_SLOT) pa_nil)))) pss_nil)
      (pss_cons (ps_set (i := 8) scPi.nd rfl (.inl rfl) (pe_lst (pa_cons (pmk D_CountedRoots (hr.mono (by decide)) (pa_cons (pv 6) pa_nil)) (pa_cons (pmk D_CountedRoots (hr.mono (by decide)) (pa_cons (pv 7) pa_nil)) pa_nil))))
      (pss_cons (ps_set (i := 9) scPi.nd rfl (.inl rfl) (pe_callB (cr_max rfl) (by rfl) T.max (by decide +kernel) (pa_cons (pe_lc (own := [("roots", 11)]) (g := gName 11) (by rfl) scPi.nd (pi_list (pv 8)) (blkOk_by (N := NPi) (sc := defScope sPi) (by decide +kernel)) (fun _ _ _ _ _ => pg_name (i := 11) scPi.nd rfl (Or.inl rfl)) (fun _ _ _ _ _ => pts_nil) (fun _ _ _ _ _ => (pd D_root_floor (hr.mono (by decide)) (pa_cons (pv 11) (pa_cons (pv 3) (pa_cons (pv 4) pa_nil)))))) pa_nil)))
      (pss_cons (ps_set (i := 10) scPi.nd rfl (.inl rfl) (pe_callB (cr_min rfl) (by rfl) T.min (by decide +kernel) (pa_cons (pe_lc (own := [("roots", 11)]) (g := gName 11) (by rfl) scPi.nd (pi_list (pv 8)) (blkOk_by (N := NPi) (sc := defScope sPi) (by decide +kernel)) (fun _ _ _ _ _ => pg_name (i := 11) scPi.nd rfl (Or.inl rfl)) (fun _ _ _ _ _ => pts_nil) (fun _ _ _ _ _ => (pd D_root_floor (hr.mono (by decide)) (pa_cons (pv 11) (pa_cons (pe_op op_add (pv 3) pe_int) (pa_cons (pv 4) pa_nil)))))) pa_nil)))
      (pss_one (ps_ret (pe_lst (pa_cons pe_int (pa_cons (pv 9) (pa_cons (pv 10) pa_nil))))))))))))))), ?_⟩
    refine ⟨_, rfl, _, rfl, _, rfl, (by show 2 ≤ sizeLine; decide), fun sa hsa => ?_⟩
    have s1 := upd_new (o := .lst [V.int (i : Int), V.int (j : Int)]) hsa
    refine ⟨_, rfl, a, sa, l, [i, j], bits, rfl, hi.same s1, upd_same, by show 2 ≤ 10000; decide, fun H2 r s2 hr2 => ?_⟩
    have sA := s1.trans s2
    refine ⟨_, rfl, r, _, rfl, hr2.len, _, _, rfl, rfl, _, rfl, ?_⟩
    rw [ans_itv] at kk
    rcases rfB_pos (l := l) (sl := [i, j]) (b := bits) with ⟨c, d⟩ | ⟨c, d⟩
    · rw [d]
      rw [if_pos c] at kk
      obtain ⟨c1, b20⟩ := rfB_ok c
      obtain ⟨i4, j4, ni, nj⟩ := rfS_two_ok c1
      have hi2 := hi.same sA
      obtain ⟨pl, dx, h1, ok⟩ := hi2.is
      refine iteF ⟨_, rfl, a, dx, _, rfl, h1, rfl, _, rfl, a, l, i, rfl, hi2, i4, fun H3 x s3 hx => ?_⟩
      refine ⟨_, rfl, a, dx, _, rfl, s3 _ _ h1, rfl, _, rfl, a, l, j, rfl, hi2.same s3, j4, fun H4 y s4 hy => ?_⟩
      have two := two_of ok ni nj (hx.same s4) hy
      obtain ⟨⟨p, q, hp, hq, G1, G2⟩, sp, sq⟩ := id two
      refine ⟨_, rfl, _, rfl, x, y, _, _, rfl, two, fun H5 s5 => ⟨_, rfl, ?_⟩⟩
      have sB := sA.trans (s3.trans (s4.trans s5))
      unfold itvN at kk
      cases g : Kqg2.haveCommonInterlacing (pIn l i) (pIn l j) with
      | false =>
        rw [if_pos g] at kk
        exact iteT ⟨34, rfl, fun H6 u s6 hu => kk H6 u (sB.trans s6) hu⟩
      | true =>
        rw [if_neg (by rw [g]; decide)] at kk
        obtain ⟨t1, t2⟩ := com_tot G1.t0 G1.n0 G2.t0 G2.n0 g
        have hp5 := hp.same s5
        have hq5 := hq.same s5
        refine iteF ⟨_, rfl, x, p, rfl, hp5, _, rfl, _, _, rfl, rfl, _, _, rfl, rfl, _, rfl, ?_⟩
        rw [G1.deg]
        by_cases c2 : Kqg1.degree (pIn l i) ≤ k + 1
        · rw [if_pos c2] at kk
          rw [decide_eq_true (show ((Kqg1.degree (pIn l i) : Nat) : Int) ≤ (k : Int) + 1 by omega)]
          exact iteT ⟨2, rfl, fun H6 u s6 hu => kk H6 u (sB.trans s6) hu⟩
        · rw [if_neg c2] at kk
          rw [decide_eq_false (show ¬ ((Kqg1.degree (pIn l i) : Nat) : Int) ≤ (k : Int) + 1 by omega)]
          refine iteF ⟨_, rfl, fun u du hu hdu nu => mk_counted hp5 G1 hu hdu nu fun H6 s6 hcu => ?_⟩
          refine ⟨_, rfl, fun v dv hv hdv nv => mk_counted (hq5.same s6) G2 hv hdv nv fun H7 s7 hcv => ?_⟩
          refine ⟨(by show 2 ≤ sizeLine; decide), fun b hb => ?_⟩
          have s8 := upd_new (o := .lst [V.ref u, V.ref v]) hb
          have hcu8 := CrAt.keeps _ _ _ _ (s7.trans s8) hcu
          have hcv8 := CrAt.keeps _ _ _ _ s8 hcv
          have hb8 : (upd H7 b (.lst [V.ref u, V.ref v])) b = some (.lst [V.ref u, V.ref v]) := upd_same
          have sC := sB.trans (s6.trans (s7.trans s8))
          generalize upd H7 b (.lst [V.ref u, V.ref v]) = H8 at s8 hcu8 hcv8 hb8 sC
          have two : ∀ (idx : Nat), idx < Kqg1.degree (pIn l i) → ∀ (H9 : Hp), Same H8 H9 → ∀ (m : Nat) (z : V) (H' : Hp), m < [V.ref u, V.ref v].length → YAt [V.ref u, V.ref v] m H9 z H' → ∃ (w : Addr) (r0 : List Rat), z = V.ref w ∧ H' = H9 ∧ CrAt Cr H' w r0 ∧ (idx : Int) < Kv.tot (Kqg1.layerChains r0) ∧
              ([Kqg1.rootFloor (pIn l i) idx bits, Kqg1.rootFloor (pIn l j) idx bits] : List Int)[m]? = some (Kqg1.rootFloor r0 idx bits) := fun idx hidx H9 s9 m z H' hm hz => by
            obtain ⟨rfl, hz⟩ := hz
            match m, hz with
            | 0, hz => exact ⟨u, _, (Option.some.inj hz).symm, rfl, CrAt.keeps _ _ _ _ s9 hcu8, by rw [t1]; omega, rfl⟩
            | 1, hz => exact ⟨v, _, (Option.some.inj hz).symm, rfl, CrAt.keeps _ _ _ _ s9 hcv8, by rw [t2]; omega, rfl⟩
          refine ⟨_, rfl, b, rfl, ⟨_, SqL.of hb8⟩, fun D hD => lc_det (walk_list (xs := [V.ref u, V.ref v])) (fun m => (([Kqg1.rootFloor (pIn l i) k bits, Kqg1.rootFloor (pIn l j) k bits] : List Int).take m).map V.int) (by simp) (fun m _ => by rw [List.length_map, List.length_take]; simp; omega) hD (fun H' s' => SqL.of (s' _ _ hb8)) (fun m z H9 H' hm s' hz N Rk _ rr => ?_) fun H9 s9 eD => ?_⟩
          · obtain ⟨w0, r0, rfl, rfl, hc, hlt, hx'⟩ := two k (by omega) H9 s' m z H' hm hz
            exact ⟨rfl, _, rfl, _, rfl, _, rfl, w0, r0, k, bits, rfl, hc, hlt, b20, fun H10 s10 => rr _ _ s10 (by rw [take_more hx', List.map_append]; rfl)⟩
          · have eD : H9 D = some (.lst ([Kqg1.rootFloor (pIn l i) k bits, Kqg1.rootFloor (pIn l j) k bits].map V.int)) := eD
            refine ⟨D, _, rfl, SqL.of eD, by simp, fun mx hmx hle => ?_⟩
            have emx : mx = max (Kqg1.rootFloor (pIn l i) k bits) (Kqg1.rootFloor (pIn l j) k bits) := by
              have a1 := hle (Kqg1.rootFloor (pIn l i) k bits) (by simp)
              have a2 := hle (Kqg1.rootFloor (pIn l j) k bits) (by simp)
              have a3 : mx = Kqg1.rootFloor (pIn l i) k bits ∨ mx = Kqg1.rootFloor (pIn l j) k bits := by simpa using hmx
              omega
            have hb9 := s9 _ _ hb8
            refine ⟨_, rfl, b, rfl, ⟨_, SqL.of hb9⟩, fun D' hD' => lc_det (walk_list (xs := [V.ref u, V.ref v])) (fun m => (([Kqg1.rootFloor (pIn l i) (k + 1) bits, Kqg1.rootFloor (pIn l j) (k + 1) bits] : List Int).take m).map V.int) (by simp) (fun m _ => by rw [List.length_map, List.length_take]; simp; omega) hD' (fun H' s' => SqL.of (s' _ _ hb9)) (fun m z H10 H' hm s' hz N Rk _ rr => ?_) fun H10 s10 eD' => ?_⟩
            · obtain ⟨w0, r0, rfl, rfl, hc, hlt, hx'⟩ := two (k + 1) (by omega) H10 (s9.trans s') m z H' hm hz
              have ek : (fun i j : Int => V.int (i + j)) (k : Int) 1 = V.int ((k + 1 : Nat) : Int) := rfl
              refine ⟨rfl, _, rfl, _, rfl, _, _, rfl, rfl, ?_⟩
              rw [ek]
              exact ⟨_, rfl, w0, r0, k + 1, bits, rfl, hc, hlt, b20, fun H11 s11 => rr _ _ s11 (by rw [take_more hx', List.map_append]; rfl)⟩
            · have eD' : H10 D' = some (.lst ([Kqg1.rootFloor (pIn l i) (k + 1) bits, Kqg1.rootFloor (pIn l j) (k + 1) bits].map V.int)) := eD'
              refine ⟨D', _, rfl, SqL.of eD', by simp, fun mn hmn hge => ?_⟩
              have emn : mn = min (Kqg1.rootFloor (pIn l i) (k + 1) bits) (Kqg1.rootFloor (pIn l j) (k + 1) bits) := by
                have a1 := hge (Kqg1.rootFloor (pIn l i) (k + 1) bits) (by simp)
                have a2 := hge (Kqg1.rootFloor (pIn l j) (k + 1) bits) (by simp)
                have a3 : mn = Kqg1.rootFloor (pIn l i) (k + 1) bits ∨ mn = Kqg1.rootFloor (pIn l j) (k + 1) bits := by simpa using hmn
                omega
              refine ⟨_, rfl, _, rfl, (by show 3 ≤ sizeLine; decide), fun o ho => ?_⟩
              rw [← emx, ← emn] at kk
              exact kk _ o (sC.trans (s9.trans (s10.trans (upd_new ho)))) upd_same
    · rw [d]
      rw [if_neg c] at kk
      exact iteT ⟨_, rfl, kk H2 r sA hr2⟩
end
end Il
namespace Kv
theorem trim_len_le (p : List Rat) : (Kqg1.trim p).length ≤ p.length := by
  unfold Kqg1.trim
  rw [List.length_reverse]
  have := (List.dropWhile_sublist (fun c : Rat => c == 0) (l := p.reverse)).length_le
  rw [List.length_reverse] at this
  exact this
theorem trim_mem {p : List Rat} {x : Rat} (h : x ∈ Kqg1.trim p) : x ∈ p := by
  unfold Kqg1.trim at h
  have h := List.mem_reverse.mp h
  have h := (List.dropWhile_sublist (fun c : Rat => c == 0) (l := p.reverse)).subset h
  exact List.mem_reverse.mp h
theorem frac_le {n d : Int} (h : 0 < d) : ((n : Rat) / (d : Rat)).num.natAbs ≤ n.natAbs ∧ ((n : Rat) / (d : Rat)).den ≤ d.natAbs := by
  obtain ⟨e1, e2, g⟩ := frac_low (n := n) h
  rw [e1]
  refine ⟨?_, ?_⟩
  · rw [Int.natAbs_ediv_of_dvd (Int.gcd_dvd_left ..), Int.natAbs_natCast]
    exact Nat.div_le_self _ _
  · have : (((n : Rat) / (d : Rat)).den : Int) ≤ d := by
      rw [e2]
      exact Int.ediv_le_self _ (by omega)
    omega
end Kv
namespace Il
open PySem PySem.Spec PyProof.Rows L2
theorem small_pook {p : List Rat} (t : Kv.Tr p) (l : p.length ≤ 7) (h : p.all okC = true) : PoOk p := by
  refine ⟨t, l, fun c hc => ?_⟩
  have := List.all_eq_true.mp h c hc
  unfold okC at this
  simp only [Bool.and_eq_true, decide_eq_true_eq] at this
  exact this
theorem pook_small {p : List Rat} (h : PoOk p) : Kqg2.isSmall p = true := by
  unfold Kqg2.isSmall
  rw [decide_eq_true (show p.length ≤ Kqg2.maxDegree + 1 from h.sm.1), Bool.true_and, List.all_eq_true]
  intro c hc
  obtain ⟨a, b⟩ := h.sm.2 c hc
  rw [decide_eq_true (show c.num.natAbs ≤ Kqg1.maxCoefficient from a), decide_eq_true (show c.den ≤ Kqg1.maxCoefficient from b)]
  rfl
theorem small_iff {p : List Rat} (l : p.length ≤ 7) : Kqg2.isSmall p = p.all okC := by
  unfold Kqg2.isSmall
  rw [decide_eq_true (show p.length ≤ Kqg2.maxDegree + 1 from l), Bool.true_and]
  rfl
theorem over_pook {c : List Int} {d : Int} (d0 : 0 < d) (l : c.length ≤ 7) (dl : d.natAbs ≤ 10 ^ 30) (h : ∀ x ∈ c, x.natAbs ≤ 10 ^ 30) : PoOk (Kqg1.trim (c.map fun (x : Int) => ((x : Rat) / (d : Rat)))) := by
  refine ⟨Kv.tr_trim _, Nat.le_trans (Kv.trim_len_le _) (by rw [List.length_map]; exact l), fun q hq => ?_⟩
  obtain ⟨x, hx, rfl⟩ := List.mem_map.mp (Kv.trim_mem hq)
  obtain ⟨a, b⟩ := Kv.frac_le (n := x) d0
  have := h x hx
  exact ⟨by omega, by omega⟩
def Fr2 (a pl : Addr) (H H' : Hp) : Prop := ∀ b o, H b = some o → b ≠ a → b ≠ pl → H' b = some o
theorem Fr2.of {a pl : Addr} {H H' : Hp} (s : Same H H') : Fr2 a pl H H' := fun b o e _ _ => s b o e
def GiveS (C : Addr) (H : Hp) (a pl : Addr) (Q : VK) (s : Option (List (List Rat))) (out : List Int) : Prop :=
  ∀ (H' : Hp) (pl' r : Addr), InAt C H' a pl' s → (pl' = pl ∨ H pl' = Option.none) → Fr2 a pl H H' → LI H' r out → Q (.ref r) H'
theorem GiveS.still {C : Addr} {H : Hp} {a pl : Addr} {Q : VK} {s : Option (List (List Rat))} {out : List Int} (h : InAt C H a pl s) (k : GiveS C H a pl Q s out) : GiveL H Q out :=
  fun H' r s' hr => k H' pl r (h.same s') (.inl rfl) (.of s') hr
theorem GiveS.later {C : Addr} {H H2 : Hp} {a pl : Addr} {Q : VK} {s : Option (List (List Rat))} {out : List Int} (k : GiveS C H a pl Q s out) (s2 : Same H H2) : GiveS C H2 a pl Q s out :=
  fun H' pl' r h1 h2 h3 h4 => k H' pl' r h1 (h2.elim .inl fun e => .inr (s2.free e)) (fun b o e n1 n2 => h3 b o (s2 _ _ e) n1 n2) h4
theorem InAt.sl {C : Addr} {H : Hp} {a pl : Addr} {l : List (List Rat)} (h : InAt C H a pl (some l)) : InSl C H a l := ⟨pl, h⟩
section
variable {P : Program} {w : World} {K : PySem.W.Frag} {mg : Str → Option Value} {base : Heap}
abbrev sSc' : Stmt := topS 87
abbrev NSc' : List Str := ["instance"]
theorem scSc' : FnScope NSc' ["instance"] (defScope sSc') := ⟨rfl, rfl, rfl, by decide +kernel, rfl, by decide +kernel, by decide +kernel⟩
def spCr (C : Addr) : Sp := fun vs H Q _ => ∃ (a pl : Addr) (s : Option (List (List Rat))), vs = [.ref a] ∧ InAt C H a pl s ∧ ∀ (H' : Hp) (pl' r : Addr), InAt C H' a pl' (some (List.replicate 4 [])) → H pl' = none → Fr2 a pl H H' → LI H' r [0] → (∀ c, Els H' pl' c → H c = none) → Q (.ref r) H'
theorem df_create {C : Addr} (F : Fx K mg "create" sSc') (D_create : Dm P w K mg base C "create" 1 ["self"] (spInC C)) : Df P w K mg base "create" 2 ["instance"] (spCr C) := by
  refine df_of F scSc' (fun _ _ _ _ _ _ us hl => match us, hl with | [_], _ => rfl) (fun vs H Q E h => ?_) (fun f cdv A outer s H vs Q E hr h => ?_)
  · obtain ⟨a, pl, s, rfl, _⟩ := h
    rfl
  · obtain ⟨a, pl, st, rfl, hi, k⟩ := h
    refine ⟨_, (pss_cons (ps_expr (pm0 D_create (hr.mono (by decide)) (pv 0)))
      (pss_one (ps_ret (pe_lst (pa_cons pe_int pa_nil))))), ?_⟩
    obtain ⟨dx, h1⟩ := hi.is
    refine ⟨_, rfl, a, dx, _, rfl, h1, rfl, a, pl, rfl, hi.is, fun H2 pl' h2 n2 b2 e2 => ⟨(by show 1 ≤ sizeLine; decide), fun r hr' => ?_⟩⟩
    have s3 := upd_new (o := .lst [V.int 0]) hr'
    obtain ⟨as, hA⟩ := h2.2.1
    refine k _ pl' r (h2.same s3) n2 (fun b o e n _ => s3 _ _ (b2 b o e n)) upd_same fun c hc => e2 c ?_
    obtain ⟨bs, e1, hm⟩ := hc
    have e4 : as.map V.ref = bs.map V.ref := by
      have := (s3 _ _ hA.lst).symm.trans e1
      injection this with this
      injection this
    exact ⟨bs, by rw [← e4]; exact hA.lst, hm⟩
abbrev sSt : Stmt := topS 88
abbrev NSt : List Str := ["instance", "slot", "polynomial"]
theorem scSt : FnScope NSt ["instance", "slot", "polynomial"] (defScope sSt) := ⟨rfl, rfl, rfl, by decide +kernel, rfl, by decide +kernel, by decide +kernel⟩
def shown (p : List Rat) : List Int := (p.length : Int) :: p.flatMap Kqg1.fraction
def spSt (C : Addr) : Sp := fun vs H Q _ => ∃ (a pl b : Addr) (l : List (List Rat)) (i : Nat) (p : List Rat), vs = [.ref a, .int (i : Int), .ref b] ∧ InAt C H a pl (some l) ∧ i < 4 ∧ FrPo H b p ∧ PoOk p ∧ GiveS C H a pl Q (some (l.set i p)) (shown p)
theorem df_st {C : Addr} (F : Fx K mg "stored" sSt) (D_store : Dm P w K mg base C "store" 1 ["self", "slot", "polynomial"] (spInS C)) (D_as_numbers : Df P w K mg base "as_numbers" 1 ["polynomial"] spAn) : Df P w K mg base "stored" 2 ["instance", "slot", "polynomial"] (spSt C) := by
  refine df_of F scSt (fun _ _ _ _ _ _ us hl => match us, hl with | [_, _, _], _ => rfl) (fun vs H Q E h => ?_) (fun f cdv A outer s H vs Q E hr h => ?_)
  · obtain ⟨a, pl, b, l, i, p, rfl, _⟩ := h
    rfl
  · obtain ⟨a, pl, b, l, i, p, rfl, hi, i4, hb, po, k⟩ := h
    refine ⟨_, (pss_cons (ps_expr (pm D_store (hr.mono (by decide)) (pv 0) (pa_cons (pv 1) (pa_cons (pv 2) pa_nil))))
      (pss_one (ps_ret (pd D_as_numbers (hr.mono (by decide)) (pa_cons (pv 2) pa_nil))))), ?_⟩
    obtain ⟨dx, h1⟩ := hi.is
    refine ⟨_, rfl, a, dx, _, rfl, h1, rfl, _, rfl, _, rfl, a, pl, b, l, i, p, rfl, hi, i4, hb, po, fun H2 h2 b2 hb2 => ?_⟩
    refine ⟨_, rfl, b, p, rfl, hb2, po.sm.1, fun H3 r s3 hr3 => ?_⟩
    exact k H3 pl r (h2.same s3) (.inl rfl) (fun c o e _ n => s3 _ _ (b2 c o e n)) hr3
abbrev sOo : Stmt := topS 89
abbrev NOo : List Str := ["denominator", "numerators", "most", "numerator"]
theorem scOo : FnScope NOo ["denominator", "numerators", "most"] (defScope sOo) := ⟨rfl, rfl, rfl, by decide +kernel, rfl, by decide +kernel, by decide +kernel⟩
def spOo : Sp := fun vs H Q _ => ∃ (b : Addr) (d m : Nat) (c : List Int), vs = [.int (d : Int), .ref b, .int (m : Int)] ∧ LI H b c ∧ c.length ≤ 10000 ∧ GiveV H Q (.bl (!(Kqg2.isNumberList m d c)))
theorem df_oo (N : Gm mg) (F : Fx K mg "out_of_range" sOo) : Df P w K mg base "out_of_range" 1 ["denominator", "numerators", "most"] spOo := by
  refine df_of F scOo (fun _ _ _ _ _ _ us hl => match us, hl with | [_, _, _], _ => rfl) (fun vs H Q E h => ?_) (fun f cdv A outer s H vs Q E hr h => ?_)
  · obtain ⟨b, d, m, c, rfl, _⟩ := h
    rfl
  · obtain ⟨b, d, m, c, rfl, hc, lc, k⟩ := h
    refine ⟨_, (pss_cons (ps_if (pt_cmpR op_gt (pe_callB (call_lenK K) (by rfl) N.len (by decide +kernel) (pa_cons (pv 1) pa_nil)) (pv 2) (nomark _)) (pss_one (ps_ret pe_bl)) pss_nil)
      (pss_cons (ps_if (PW.pt (pw_or (pt_cmpR op_lt (pv 0) pe_int (nomark _)) (pw_or1 (pt_cmpR op_gt (pv 0) (pe_gl N.GREATEST_DENOMINATOR) (nomark _))))) (pss_one (ps_ret pe_bl)) pss_nil)
      (pss_one (ps_ret (pe_callB (cr_any rfl) (by rfl) N.any (by decide +kernel) (pa_cons (pe_lc (own := [("numerator", 3)]) (g := gName 3) (by rfl) scOo.nd (pi_list (pv 1)) (blkOk_by (N := NOo) (sc := defScope sOo) (by decide +kernel)) (fun _ _ _ _ _ => pg_name (i := 3) scOo.nd rfl (Or.inl rfl)) (fun _ _ _ _ _ => pts_nil) (fun _ _ _ _ _ => (pe_cmpR op_gt (pe_callB call_abs (by rfl) N.abs (by decide +kernel) (pa_cons (pv 3) pa_nil)) (pe_gl N.GREATEST_NUMERATOR) (nomark _)))) pa_nil)))))), ?_⟩
    have e : Kqg2.isNumberList m d c = (decide (c.length ≤ m) && decide (1 ≤ d) && decide (d ≤ 1000) && c.all fun x => decide (x.natAbs ≤ 1000)) := rfl
    have no : Kqg2.isNumberList m d c = false → Q (.bl true) H := fun z => by
      have := k H (Same.refl H)
      rw [z] at this
      exact this
    refine ⟨_, rfl, b, _, rfl, hc.len, _, rfl, _, _, rfl, rfl, _, rfl, ?_⟩
    by_cases c1 : c.length ≤ m
    · rw [decide_eq_false (show ¬ (m : Int) < (c.length : Int) by omega)]
      refine iteF ⟨_, rfl, _, _, rfl, rfl, _, rfl, ?_⟩
      by_cases c2 : 1 ≤ d
      · rw [decide_eq_false (show ¬ (d : Int) < 1 by omega)]
        refine iteF ⟨_, rfl, _, _, rfl, rfl, _, rfl, ?_⟩
        by_cases c3 : d ≤ 1000
        · rw [decide_eq_false (show ¬ (1000 : Int) < (d : Int) by omega)]
          refine iteF ⟨_, rfl, b, rfl, ⟨_, hc.sq⟩, fun D hD => lc_det (walk_list (xs := c.map V.int)) (fun j => ((c.take j).map fun x => !(decide (x.natAbs ≤ 1000))).map V.bl) (by simp) (fun j _ => by rw [List.length_map, List.length_map, List.length_take]; omega) hD (fun H' s' => (hc.same s').sq) (fun i v H2 H' hi s' hy N' Rk _ r => ?_) fun H2 s2 eD => ?_⟩
          · obtain ⟨rfl, hv⟩ := hy
            obtain ⟨z, hz, rfl⟩ := li_get hv
            refine ⟨rfl, _, rfl, z, rfl, _, _, rfl, rfl, r _ _ (Same.refl _) ?_⟩
            rw [take_more hz, List.map_append, List.map_append, abs_of]
            have : (!(decide (z.natAbs ≤ 1000))) = decide ((1000 : Int) < (z.natAbs : Int)) := by
              rw [Bool.eq_iff_iff]
              simp only [Bool.not_eq_true', decide_eq_false_iff_not, decide_eq_true_eq]
              omega
            show _ ++ [V.bl (!(decide (z.natAbs ≤ 1000)))] = _
            rw [this]
          · rw [List.length_map, List.take_length] at eD
            refine ⟨D, _, rfl, SqL.of eD, ?_⟩
            rw [List.any_map]
            have := k H2 s2
            rw [e, decide_eq_true c1, decide_eq_true c2, decide_eq_true c3, Bool.true_and, Bool.true_and, Bool.true_and, List.not_all_eq_any_not] at this
            exact this
        · rw [decide_eq_true (show (1000 : Int) < (d : Int) by omega)]
          exact iteT (no (by rw [e, decide_eq_false c3, Bool.and_false, Bool.false_and]))
      · rw [decide_eq_true (show (d : Int) < 1 by omega)]
        exact iteT (iteT (no (by rw [e, decide_eq_false c2, Bool.and_false, Bool.false_and, Bool.false_and])))
    · rw [decide_eq_true (show (m : Int) < (c.length : Int) by omega)]
      exact iteT (no (by rw [e, decide_eq_false c1, Bool.false_and, Bool.false_and, Bool.false_and]))
end
end Il
namespace Il
open PySem PySem.Spec PyProof.Rows L2
def nxt (l : List (List Rat)) (r : Kqg2.Request) : Option (List (List Rat)) := (Kqg2.step (some l) r).1
def GiveR (C : Addr) (H : Hp) (a pl : Addr) (Q : VK) (x : Option (List (List Rat)) × Kqg2.Result) : Prop := GiveS C H a pl Q x.1 (Kqg2Neutral.fields x.2)
theorem lacks_one (i : Nat) : lacks [i] = decide (4 ≤ i) := by unfold lacks; simp
theorem store_ok {l : List (List Rat)} {i : Nat} {p : List Rat} (h : PoOk p) : Kqg2.store l i p = (some (l.set i p), Kqg2.polynomialResult p) := by
  unfold Kqg2.store
  rw [if_pos (pook_small h)]
section
variable {P : Program} {w : World} {K : PySem.W.Frag} {mg : Str → Option Value} {base : Heap}
abbrev sSp : Stmt := topS 90
abbrev NSp : List Str := ["instance", "slot", "denominator", "coefficients"]
theorem scSp : FnScope NSp ["instance", "slot", "denominator", "coefficients"] (defScope sSp) := ⟨rfl, rfl, rfl, by decide +kernel, rfl, by decide +kernel, by decide +kernel⟩
def spSet (C : Addr) (f : Nat → Nat → List Int → Kqg2.Request) : Sp := fun vs H Q _ => ∃ (a pl b : Addr) (l : List (List Rat)) (i d : Nat) (c : List Int), vs = [.ref a, .int (i : Int), .int (d : Int), .ref b] ∧ InAt C H a pl (some l) ∧ LI H b c ∧ c.length ≤ 10000 ∧ GiveR C H a pl Q (Kqg2.step (some l) (f i d c))
theorem df_sp {C : Addr} (T : Gm mg) (F : Fx K mg "set_polynomial" sSp) (D_lacks_slot : Dm P w K mg base C "lacks_slot" 1 ["self", "slots"] (spInL C)) (D_refused : Df P w K mg base "refused" 1 ["code"] spRd)
    (D_out_of_range : Df P w K mg base "out_of_range" 1 ["denominator", "numerators", "most"] spOo) (D_stored : Df P w K mg base "stored" 2 ["instance", "slot", "polynomial"] (spSt C)) (D_from_numerators : Df P w K mg base "from_numerators" 3 ["numerators", "denominator"] spFn) :
    Df P w K mg base "set_polynomial" 4 ["instance", "slot", "denominator", "coefficients"] (spSet C .setPolynomial) := by
  refine df_of F scSp (fun _ _ _ _ _ _ us hl => match us, hl with | [_, _, _, _], _ => rfl) (fun vs H Q E h => ?_) (fun f cdv A outer s H vs Q E hr h => ?_)
  · obtain ⟨a, pl, b, l, i, d, c, rfl, _⟩ := h
    rfl
  · obtain ⟨a, pl, b, l, i, d, c, rfl, hi, hc, lc, k⟩ := h
    refine ⟨_, (pss_cons (ps_if (pt_val (pm D_lacks_slot (hr.mono (by decide)) (pv 0) (pa_cons (pe_lst (pa_cons (pv 1) pa_nil)) pa_nil))) (pss_one (ps_ret (pd D_refused (hr.mono (by decide)) (pa_cons (pe_gl T.NO_SUCH_SLOT) pa_nil)))) pss_nil)
      (pss_cons (ps_if (pt_val (pd D_out_of_range (hr.mono (by decide)) (pa_cons (pv 2) (pa_cons (pv 3) (pa_cons (pe_gl T.MOST_COEFFICIENTS) pa_nil))))) (pss_one (ps_ret (pd D_refused (hr.mono (by decide)) (pa_cons (pe_gl T.OUT_OF_RANGE) pa_nil)))) pss_nil)
      (pss_one (ps_ret (pd D_stored (hr.mono (by decide)) (pa_cons (pv 0) (pa_cons (pv 1) (pa_cons (pd D_from_numerators (hr.mono (by decide)) (pa_cons (pv 3) (pa_cons (pv 2) pa_nil))) pa_nil)))))))), ?_⟩
    obtain ⟨dx, h1⟩ := hi.is
    have st : Kqg2.step (some l) (.setPolynomial i d c) = if 4 ≤ i then (some l, .value (-2)) else if Kqg2.isNumberList 7 d c = false then (some l, .value (-22)) else Kqg2.store l i (Kqg1.trim (c.map fun (x : Int) => ((x : Rat) / (d : Rat)))) := rfl
    rw [st] at k
    refine ⟨_, rfl, a, dx, _, rfl, h1, rfl, _, rfl, (by show 1 ≤ sizeLine; decide), fun sa hsa => ?_⟩
    have s1 := upd_new (o := .lst [V.int (i : Int)]) hsa
    refine ⟨a, pl, sa, dx, [i], rfl, s1 _ _ h1, upd_same, by show 1 ≤ 10000; decide, fun H2 s2 => ⟨_, rfl, ?_⟩⟩
    have sA := s1.trans s2
    rw [lacks_one]
    by_cases c1 : 4 ≤ i
    · rw [if_pos c1] at k
      rw [decide_eq_true c1]
      exact iteT ⟨2, rfl, fun H3 r s3 h3 => GiveS.still hi k H3 r (sA.trans s3) h3⟩
    · rw [if_neg c1] at k
      rw [decide_eq_false c1]
      refine iteF ⟨_, rfl, _, rfl, b, d, 7, c, rfl, hc.same sA, lc, fun H3 s3 => ⟨_, rfl, ?_⟩⟩
      have sB := sA.trans s3
      cases g : Kqg2.isNumberList 7 d c with
      | false =>
        rw [if_pos g] at k
        exact iteT ⟨22, rfl, fun H4 r s4 h4 => GiveS.still hi k H4 r (sB.trans s4) h4⟩
      | true =>
        rw [if_neg (by rw [g]; decide)] at k
        unfold Kqg2.isNumberList at g
        simp only [Bool.and_eq_true, decide_eq_true_eq, List.all_eq_true] at g
        obtain ⟨⟨⟨g1, g2⟩, g3⟩, g4⟩ := g
        have ht : Kv.Ht c 8000 := fun x hx => Nat.le_trans (show x.natAbs ≤ 2 ^ 10 by have := g4 x hx; omega) (Nat.pow_le_pow_right (by decide) (by decide))
        have hd : ((d : Nat) : Int).natAbs ≤ 2 ^ 8000 := Nat.le_trans (show ((d : Nat) : Int).natAbs ≤ 2 ^ 10 by omega) (Nat.pow_le_pow_right (by decide) (by decide))
        refine iteF ⟨_, rfl, _, rfl, _, rfl, _, rfl, b, c, (d : Int), rfl, hc.same sB, lc, by omega, hd, ht, fun H4 y s4 n4 hy => ?_⟩
        have po := over_pook (c := c) (d := (d : Int)) (by omega) g1 (by omega) fun x hx => by have := g4 x hx; omega
        rw [Rat.intCast_natCast] at hy po
        rw [store_ok po] at k
        exact ⟨a, pl, y, l, i, _, rfl, hi.same (sB.trans s4), by omega, hy, po, GiveS.later k (sB.trans s4)⟩
abbrev sSr' : Stmt := topS 91
abbrev NSr' : List Str := ["instance", "slot", "denominator", "roots"]
theorem scSr' : FnScope NSr' ["instance", "slot", "denominator", "roots"] (defScope sSr') := ⟨rfl, rfl, rfl, by decide +kernel, rfl, by decide +kernel, by decide +kernel⟩
theorem prd_pook {c : List Int} {d : Int} (d0 : 0 < d) (d1 : d ≤ 1000) (l : c.length ≤ 6) (h : ∀ x ∈ c, x.natAbs ≤ 1000) : PoOk (Kv.prd (d : Rat) c) := by
  have e := Kv.prd_eq d0 c
  have dk : d.natAbs ≤ 2 ^ 10 := by omega
  have hh := Kv.rts_ht dk c fun r hr => by have := h r hr; omega
  have dp : (d ^ c.length).natAbs ≤ 2 ^ 60 := Nat.le_trans (Kv.pow_ht dk c.length) (Nat.pow_le_pow_right (by decide) (by omega))
  rw [← e]
  refine over_pook (Int.pow_pos d0) (by rw [Kv.rts_len]; omega) (Nat.le_trans dp (by decide)) fun x hx => ?_
  exact Nat.le_trans (hh x hx) (Nat.le_trans (Nat.pow_le_pow_right (n := 2) (by decide) (show 11 * c.length ≤ 66 by omega)) (by decide))
theorem df_srt {C : Addr} (T : Gm mg) (F : Fx K mg "set_roots" sSr') (D_lacks_slot : Dm P w K mg base C "lacks_slot" 1 ["self", "slots"] (spInL C)) (D_refused : Df P w K mg base "refused" 1 ["code"] spRd)
    (D_out_of_range : Df P w K mg base "out_of_range" 1 ["denominator", "numerators", "most"] spOo) (D_stored : Df P w K mg base "stored" 2 ["instance", "slot", "polynomial"] (spSt C)) (D_from_roots : Df P w K mg base "from_roots" 4 ["numerators", "denominator"] spFr) :
    Df P w K mg base "set_roots" 5 ["instance", "slot", "denominator", "roots"] (spSet C .setRoots) := by
  refine df_of F scSr' (fun _ _ _ _ _ _ us hl => match us, hl with | [_, _, _, _], _ => rfl) (fun vs H Q E h => ?_) (fun f cdv A outer s H vs Q E hr h => ?_)
  · obtain ⟨a, pl, b, l, i, d, c, rfl, _⟩ := h
    rfl
  · obtain ⟨a, pl, b, l, i, d, c, rfl, hi, hc, lc, k⟩ := h
    refine ⟨_, (pss_cons (ps_if (pt_val (pm D_lacks_slot (hr.mono (by decide)) (pv 0) (pa_cons (pe_lst (pa_cons (pv 1) pa_nil)) pa_nil))) (pss_one (ps_ret (pd D_refused (hr.mono (by decide)) (pa_cons (pe_gl T.NO_SUCH_SLOT) pa_nil)))) pss_nil)
      (pss_cons (ps_if (pt_val (pd D_out_of_range (hr.mono (by decide)) (pa_cons (pv 2) (pa_cons (pv 3) (pa_cons (pe_gl T.MOST_ROOTS) pa_nil))))) (pss_one (ps_ret (pd D_refused (hr.mono (by decide)) (pa_cons (pe_gl T.OUT_OF_RANGE) pa_nil)))) pss_nil)
      (pss_one (ps_ret (pd D_stored (hr.mono (by decide)) (pa_cons (pv 0) (pa_cons (pv 1) (pa_cons (pd D_from_roots (hr.mono (by decide)) (pa_cons (pv 3) (pa_cons (pv 2) pa_nil))) pa_nil)))))))), ?_⟩
    obtain ⟨dx, h1⟩ := hi.is
    have st : Kqg2.step (some l) (.setRoots i d c) = if 4 ≤ i then (some l, .value (-2)) else if Kqg2.isNumberList 6 d c = false then (some l, .value (-22)) else Kqg2.store l i (Kv.prd (d : Rat) c) := rfl
    rw [st] at k
    refine ⟨_, rfl, a, dx, _, rfl, h1, rfl, _, rfl, (by show 1 ≤ sizeLine; decide), fun sa hsa => ?_⟩
    have s1 := upd_new (o := .lst [V.int (i : Int)]) hsa
    refine ⟨a, pl, sa, dx, [i], rfl, s1 _ _ h1, upd_same, by show 1 ≤ 10000; decide, fun H2 s2 => ⟨_, rfl, ?_⟩⟩
    have sA := s1.trans s2
    rw [lacks_one]
    by_cases c1 : 4 ≤ i
    · rw [if_pos c1] at k
      rw [decide_eq_true c1]
      exact iteT ⟨2, rfl, fun H3 r s3 h3 => GiveS.still hi k H3 r (sA.trans s3) h3⟩
    · rw [if_neg c1] at k
      rw [decide_eq_false c1]
      refine iteF ⟨_, rfl, _, rfl, b, d, 6, c, rfl, hc.same sA, lc, fun H3 s3 => ⟨_, rfl, ?_⟩⟩
      have sB := sA.trans s3
      cases g : Kqg2.isNumberList 6 d c with
      | false =>
        rw [if_pos g] at k
        exact iteT ⟨22, rfl, fun H4 r s4 h4 => GiveS.still hi k H4 r (sB.trans s4) h4⟩
      | true =>
        rw [if_neg (by rw [g]; decide)] at k
        unfold Kqg2.isNumberList at g
        simp only [Bool.and_eq_true, decide_eq_true_eq, List.all_eq_true] at g
        obtain ⟨⟨⟨g1, g2⟩, g3⟩, g4⟩ := g
        refine iteF ⟨_, rfl, _, rfl, _, rfl, _, rfl, b, c, (d : Int), rfl, hc.same sB, g1, by omega, by omega, g4, fun H4 y s4 n4 hy => ?_⟩
        have po := prd_pook (c := c) (d := (d : Int)) (by omega) (by omega) g1 g4
        rw [Rat.intCast_natCast] at hy po
        rw [store_ok po] at k
        exact ⟨a, pl, y, l, i, _, rfl, hi.same (sB.trans s4), by omega, hy, po, GiveS.later k (sB.trans s4)⟩
abbrev sSg : Stmt := topS 92
abbrev NSg : List Str := ["instance", "slot"]
theorem scSg : FnScope NSg ["instance", "slot"] (defScope sSg) := ⟨rfl, rfl, rfl, by decide +kernel, rfl, by decide +kernel, by decide +kernel⟩
def spSg (C : Addr) : Sp := fun vs H Q _ => ∃ (a : Addr) (l : List (List Rat)) (i : Nat), vs = [.ref a, .int (i : Int)] ∧ InSl C H a l ∧ GiveL H Q (ans l (.getPolynomial i))
theorem df_sg {C : Addr} (T : Gm mg) (F : Fx K mg "get_polynomial" sSg) (D_lacks_slot : Dm P w K mg base C "lacks_slot" 1 ["self", "slots"] (spInL C)) (D_refused : Df P w K mg base "refused" 1 ["code"] spRd)
    (D_as_numbers : Df P w K mg base "as_numbers" 1 ["polynomial"] spAn) (D_polynomial_in : Dm P w K mg base C "polynomial_in" 1 ["self", "slot"] (spInP C)) : Df P w K mg base "get_polynomial" 2 ["instance", "slot"] (spSg C) := by
  refine df_of F scSg (fun _ _ _ _ _ _ us hl => match us, hl with | [_, _], _ => rfl) (fun vs H Q E h => ?_) (fun f cdv A outer s H vs Q E hr h => ?_)
  · obtain ⟨a, l, i, rfl, _⟩ := h
    rfl
  · obtain ⟨a, l, i, rfl, hi, k⟩ := h
    refine ⟨_, (pss_cons (ps_if (pt_val (pm D_lacks_slot (hr.mono (by decide)) (pv 0) (pa_cons (pe_lst (pa_cons (pv 1) pa_nil)) pa_nil))) (pss_one (ps_ret (pd D_refused (hr.mono (by decide)) (pa_cons (pe_gl T.NO_SUCH_SLOT) pa_nil)))) pss_nil)
      (pss_one (ps_ret (pd D_as_numbers (hr.mono (by decide)) (pa_cons (pm D_polynomial_in (hr.mono (by decide)) (pv 0) (pa_cons (pv 1) pa_nil)) pa_nil))))), ?_⟩
    obtain ⟨pl, dx, h1, ok⟩ := hi.is
    have st : ans l (.getPolynomial i) = if 4 ≤ i then [-2] else shown (pIn l i) := by
      unfold ans Kqg2.step Kqg2.slotCount
      dsimp only
      by_cases c : 4 ≤ i
      · rw [if_pos c, if_pos c]; rfl
      · rw [if_neg c, if_neg c]; rfl
    rw [st] at k
    refine ⟨_, rfl, a, dx, _, rfl, h1, rfl, _, rfl, (by show 1 ≤ sizeLine; decide), fun sa hsa => ?_⟩
    have s1 := upd_new (o := .lst [V.int (i : Int)]) hsa
    refine ⟨a, pl, sa, dx, [i], rfl, s1 _ _ h1, upd_same, by show 1 ≤ 10000; decide, fun H2 s2 => ⟨_, rfl, ?_⟩⟩
    have sA := s1.trans s2
    rw [lacks_one]
    by_cases c1 : 4 ≤ i
    · rw [if_pos c1] at k
      rw [decide_eq_true c1]
      exact iteT ⟨2, rfl, fun H3 r s3 h3 => k H3 r (sA.trans s3) h3⟩
    · rw [if_neg c1] at k
      rw [decide_eq_false c1]
      refine iteF ⟨_, rfl, a, dx, _, rfl, sA _ _ h1, rfl, _, rfl, a, l, i, rfl, hi.same sA, by omega, fun b hb => ?_⟩
      exact ⟨b, _, rfl, hb, (ok.at_ i).sm.1, fun H3 r s3 h3 => k H3 r (sA.trans s3) h3⟩
abbrev sSi' : Stmt := topS 93
abbrev NSi' : List Str := ["instance", "slot", "polynomial"]
theorem scSi' : FnScope NSi' ["instance", "slot", "polynomial"] (defScope sSi') := ⟨rfl, rfl, rfl, by decide +kernel, rfl, by decide +kernel, by decide +kernel⟩
def spIs (C : Addr) : Sp := fun vs H Q _ => ∃ (a pl b : Addr) (l : List (List Rat)) (i : Nat) (p : List Rat), vs = [.ref a, .int (i : Int), .ref b] ∧ InAt C H a pl (some l) ∧ i < 4 ∧ FrPo H b p ∧ Kv.Tr p ∧ p.length ≤ 7 ∧ GiveR C H a pl Q (Kqg2.store l i p)
theorem df_is {C : Addr} (T : Gm mg) (F : Fx K mg "stored_if_small" sSi') (D_is_too_large : Df P w K mg base "is_too_large" 1 ["polynomial"] spTl) (D_refused : Df P w K mg base "refused" 1 ["code"] spRd) (D_stored : Df P w K mg base "stored" 2 ["instance", "slot", "polynomial"] (spSt C)) :
    Df P w K mg base "stored_if_small" 3 ["instance", "slot", "polynomial"] (spIs C) := by
  refine df_of F scSi' (fun _ _ _ _ _ _ us hl => match us, hl with | [_, _, _], _ => rfl) (fun vs H Q E h => ?_) (fun f cdv A outer s H vs Q E hr h => ?_)
  · obtain ⟨a, pl, b, l, i, p, rfl, _⟩ := h
    rfl
  · obtain ⟨a, pl, b, l, i, p, rfl, hi, i4, hb, tp, lp, k⟩ := h
    refine ⟨_, (pss_cons (ps_if (pt_val (pd D_is_too_large (hr.mono (by decide)) (pa_cons (pv 2) pa_nil))) (pss_one (ps_ret (pd D_refused (hr.mono (by decide)) (pa_cons (pe_gl T.TOO_LARGE) pa_nil)))) pss_nil)
      (pss_one (ps_ret (pd D_stored (hr.mono (by decide)) (pa_cons (pv 0) (pa_cons (pv 1) (pa_cons (pv 2) pa_nil))))))), ?_⟩
    refine ⟨_, rfl, b, p, rfl, hb, by omega, fun H2 s2 => ⟨_, rfl, ?_⟩⟩
    cases g : p.all okC with
    | true =>
      have po := small_pook tp lp g
      rw [store_ok po] at k
      exact iteF ⟨_, rfl, _, rfl, _, rfl, a, pl, b, l, i, p, rfl, hi.same s2, i4, frpo_keeps _ _ _ _ s2 hb, po, GiveS.later k s2⟩
    | false =>
      have e : Kqg2.store l i p = (some l, .value (-75)) := by
        unfold Kqg2.store
        rw [if_neg (by rw [small_iff lp, g]; decide)]
      rw [e] at k
      exact iteT ⟨75, rfl, fun H3 r s3 h3 => GiveS.still hi k H3 r (s2.trans s3) h3⟩
abbrev sCf : Stmt := topS 94
abbrev NCf : List Str := ["instance", "slots", "factors"]
theorem scCf : FnScope NCf ["instance", "slots", "factors"] (defScope sCf) := ⟨rfl, rfl, rfl, by decide +kernel, rfl, by decide +kernel, by decide +kernel⟩
def rfC (sl : List Nat) (x y : Nat) : List Int := if lacks sl = true then [-2] else if 1000 < x ∨ 1000 < y then [-22] else []
def spCf (C : Addr) : Sp := fun vs H Q _ => ∃ (a pl dx b c : Addr) (sl : List Nat) (x y : Nat), vs = [.ref a, .ref b, .ref c] ∧ H a = some (.ins C dx (inF pl)) ∧ SlI H b sl ∧ sl.length ≤ 10000 ∧ LI H c [(x : Int), (y : Int)] ∧ GiveL H Q (rfC sl x y)
theorem df_cf {C : Addr} (T : Gm mg) (F : Fx K mg "combination_refusal" sCf) (D_lacks_slot : Dm P w K mg base C "lacks_slot" 1 ["self", "slots"] (spInL C)) (D_refused : Df P w K mg base "refused" 1 ["code"] spRd) :
    Df P w K mg base "combination_refusal" 2 ["instance", "slots", "factors"] (spCf C) := by
  refine df_of F scCf (fun _ _ _ _ _ _ us hl => match us, hl with | [_, _, _], _ => rfl) (fun vs H Q E h => ?_) (fun f cdv A outer s H vs Q E hr h => ?_)
  · obtain ⟨a, pl, dx, b, c, sl, x, y, rfl, _⟩ := h
    rfl
  · obtain ⟨a, pl, dx, b, c, sl, x, y, rfl, h1, hb, ls, hc, k⟩ := h
    refine ⟨_, (pss_cons (ps_if (pt_val (pm D_lacks_slot (hr.mono (by decide)) (pv 0) (pa_cons (pv 1) pa_nil))) (pss_one (ps_ret (pd D_refused (hr.mono (by decide)) (pa_cons (pe_gl T.NO_SUCH_SLOT) pa_nil)))) pss_nil)
      (pss_cons (ps_if (pt_cmpR op_gt (pe_callB (cr_max rfl) (by rfl) T.max (by decide +kernel) (pa_cons (pv 2) pa_nil)) (pe_gl T.GREATEST_FACTOR) (nomark _)) (pss_one (ps_ret (pd D_refused (hr.mono (by decide)) (pa_cons (pe_gl T.OUT_OF_RANGE) pa_nil)))) pss_nil)
      (pss_one (ps_ret (pe_lst pa_nil))))), ?_⟩
    refine ⟨_, rfl, a, dx, _, rfl, h1, rfl, _, rfl, a, pl, b, dx, sl, rfl, h1, hb, ls, fun H2 s2 => ⟨_, rfl, ?_⟩⟩
    unfold rfC at k
    cases g : lacks sl with
    | true =>
      rw [if_pos g] at k
      exact iteT ⟨2, rfl, fun H3 r s3 h3 => k H3 r (s2.trans s3) h3⟩
    | false =>
      rw [if_neg (by rw [g]; decide)] at k
      refine iteF ⟨_, rfl, c, _, rfl, (hc.same s2).sq, by simp, fun m hm hle => ?_⟩
      have a1 := hle (x : Int) (by simp)
      have a2 := hle (y : Int) (by simp)
      have a3 : m = (x : Int) ∨ m = (y : Int) := by simpa using hm
      refine ⟨_, _, rfl, rfl, _, rfl, ?_⟩
      by_cases d : 1000 < x ∨ 1000 < y
      · rw [if_pos d] at k
        rw [decide_eq_true (show (1000 : Int) < m by omega)]
        exact iteT ⟨22, rfl, fun H3 r s3 h3 => k H3 r (s2.trans s3) h3⟩
      · rw [if_neg d] at k
        rw [decide_eq_false (show ¬ (1000 : Int) < m by omega)]
        exact iteF ⟨Nat.zero_le _, fun r hr' => k _ r (s2.trans (upd_new hr')) upd_same⟩
abbrev sSa : Stmt := topS 95
abbrev NSa : List Str := ["instance", "first", "first_factor", "second", "second_factor", "target", "refusal", "left", "right"]
theorem scSa : FnScope NSa ["instance", "first", "first_factor", "second", "second_factor", "target"] (defScope sSa) := ⟨rfl, rfl, rfl, by decide +kernel, rfl, by decide +kernel, by decide +kernel⟩
def spComb (C : Addr) (f : Nat → Nat → Nat → Nat → Nat → Kqg2.Request) : Sp := fun vs H Q _ => ∃ (a pl : Addr) (l : List (List Rat)) (i x j y t : Nat), vs = [.ref a, .int (i : Int), .int (x : Int), .int (j : Int), .int (y : Int), .int (t : Int)] ∧ InAt C H a pl (some l) ∧ GiveR C H a pl Q (Kqg2.step (some l) (f i x j y t))
theorem rfC_step {l : List (List Rat)} {i j t x y : Nat} {S : Option (List (List Rat)) × Kqg2.Result} : (if Kqg2.noSlot i j t = true then (some l, .value (-2)) else if 1000 < x ∨ 1000 < y then (some l, .value (-22)) else S) = (if rfC [i, j, t] x y = [] then S else (some l, match rfC [i, j, t] x y with | v :: _ => .value v | [] => .value 0)) ∧
    (rfC [i, j, t] x y = [] → i < 4 ∧ j < 4 ∧ t < 4 ∧ x ≤ 1000 ∧ y ≤ 1000) ∧ (rfC [i, j, t] x y = [] ∨ ∃ v, rfC [i, j, t] x y = [v]) := by
  have e : Kqg2.noSlot i j t = lacks [i, j, t] := by
    unfold Kqg2.noSlot lacks Kqg2.slotCount
    simp [Bool.or_assoc]
  rw [e]
  unfold rfC
  by_cases c : lacks [i, j, t] = true
  · rw [if_pos c, if_pos c]
    exact ⟨by rw [if_neg (List.cons_ne_nil _ _)], fun h => absurd h (List.cons_ne_nil _ _), .inr ⟨_, rfl⟩⟩
  · rw [if_neg c, if_neg c]
    by_cases d : 1000 < x ∨ 1000 < y
    · rw [if_pos d, if_pos d]
      exact ⟨by rw [if_neg (List.cons_ne_nil _ _)], fun h => absurd h (List.cons_ne_nil _ _), .inr ⟨_, rfl⟩⟩
    · rw [if_neg d, if_neg d]
      refine ⟨by rw [if_pos rfl], fun _ => ?_, .inl rfl⟩
      unfold lacks at c
      simp only [List.any_cons, List.any_nil, Bool.or_false, Bool.or_eq_true, decide_eq_true_eq] at c
      omega
theorem comb_len {a b : Rat} {p q : List Rat} (hp : p.length ≤ 7) (hq : q.length ≤ 7) : (Kqg1.add (Kqg1.scale a p) (Kqg1.scale b q)).length ≤ 7 := by
  have s1 : (Kqg1.scale a p).length ≤ p.length := by
    unfold Kqg1.scale
    exact Nat.le_trans (Kv.trim_len_le _) (by simp)
  have s2 : (Kqg1.scale b q).length ≤ q.length := by
    unfold Kqg1.scale
    exact Nat.le_trans (Kv.trim_len_le _) (by simp)
  unfold Kqg1.add
  refine Nat.le_trans (Kv.trim_len_le _) ?_
  rw [List.length_map, List.length_range]
  omega
theorem df_sa {C : Addr} (T : Gm mg) (F : Fx K mg "add_multiples" sSa) (D_combination_refusal : Df P w K mg base "combination_refusal" 2 ["instance", "slots", "factors"] (spCf C)) (D_polynomial_in : Dm P w K mg base C "polynomial_in" 1 ["self", "slot"] (spInP C))
    (D_stored_if_small : Df P w K mg base "stored_if_small" 3 ["instance", "slot", "polynomial"] (spIs C)) (D_sum_of_multiples : Df P w K mg base "sum_of_multiples" 3 ["first", "first_factor", "second", "second_factor"] spSm) :
    Df P w K mg base "add_multiples" 4 ["instance", "first", "first_factor", "second", "second_factor", "target"] (spComb C .addMultiples) := by
  refine df_of F scSa (fun _ _ _ _ _ _ us hl => match us, hl with | [_, _, _, _, _, _], _ => rfl) (fun vs H Q E h => ?_) (fun f cdv A outer s H vs Q E hr h => ?_)
  · obtain ⟨a, pl, l, i, x, j, y, t, rfl, _⟩ := h
    rfl
  · obtain ⟨a, pl, l, i, x, j, y, t, rfl, hi, k⟩ := h
    refine ⟨_, (pss_cons (ps_set (i := 6) scSa.nd rfl (.inl rfl) (pd D_combination_refusal (hr.mono (by decide)) (pa_cons (pv 0) (pa_cons (pe_lst (pa_cons (pv 1) (pa_cons (pv 3) (pa_cons (pv 5) pa_nil)))) (pa_cons (pe_lst (pa_cons (pv 2) (pa_cons (pv 4) pa_nil))) pa_nil)))))
      (pss_cons (ps_if (pt_cmpR op_gt (pe_callB (call_lenK K) (by rfl) T.len (by decide +kernel) (pa_cons (pv 6) pa_nil)) pe_int (nomark _)) (pss_one (ps_ret (pv 6))) pss_nil)
      (pss_cons (ps_set (i := 7) scSa.nd rfl (.inl rfl) (pm D_polynomial_in (hr.mono (by decide)) (pv 0) (pa_cons (pv 1) pa_nil)))
      (pss_cons (ps_set (i := 8) scSa.nd rfl (.inl rfl) (pm D_polynomial_in (hr.mono (by decide)) (pv 0) (pa_cons (pv 3) pa_nil)))
      (pss_one (ps_ret (pd D_stored_if_small (hr.mono (by decide)) (pa_cons (pv 0) (pa_cons (pv 5) (pa_cons (pd D_sum_of_multiples (hr.mono (by decide)) (pa_cons (pv 7) (pa_cons (pv 2) (pa_cons (pv 8) (pa_cons (pv 4) pa_nil))))) pa_nil)))))))))), ?_⟩
    obtain ⟨dx, h1⟩ := hi.is
    have st : Kqg2.step (some l) (.addMultiples i x j y t) = if Kqg2.noSlot i j t = true then (some l, .value (-2)) else if 1000 < x ∨ 1000 < y then (some l, .value (-22)) else Kqg2.store l t (Kqg1.add (Kqg1.scale (x : Rat) (pIn l i)) (Kqg1.scale (y : Rat) (pIn l j))) := rfl
    obtain ⟨e1, e2, e3⟩ := rfC_step (l := l) (i := i) (j := j) (t := t) (x := x) (y := y) (S := Kqg2.store l t (Kqg1.add (Kqg1.scale (x : Rat) (pIn l i)) (Kqg1.scale (y : Rat) (pIn l j))))
    rw [st, e1] at k
    refine ⟨_, rfl, _, rfl, _, rfl, _, rfl, (by show 3 ≤ sizeLine; decide), fun sa hsa => ?_⟩
    have s1 := upd_new (o := .lst [V.int (i : Int), V.int (j : Int), V.int (t : Int)]) hsa
    refine ⟨_, rfl, _, rfl, (by show 2 ≤ sizeLine; decide), fun sb hsb => ?_⟩
    have s2 := upd_new (o := .lst [V.int (x : Int), V.int (y : Int)]) hsb
    have sA := s1.trans s2
    refine ⟨a, pl, dx, sa, sb, [i, j, t], x, y, rfl, sA _ _ h1, s2 _ _ upd_same, by show 3 ≤ 10000; decide, upd_same, fun H2 r s3 hr3 => ?_⟩
    have sB := sA.trans s3
    refine ⟨_, rfl, r, _, rfl, hr3.len, _, _, rfl, rfl, _, rfl, ?_⟩
    rcases e3 with e3 | ⟨v, e3⟩
    · rw [e3] at k ⊢
      rw [if_pos rfl] at k
      obtain ⟨i4, j4, t4, x9, y9⟩ := e2 e3
      have hi2 := hi.same sB
      have h12 := sB _ _ h1
      have ok : StOk l := hi.2.2
      refine iteF ⟨_, rfl, a, dx, _, rfl, h12, rfl, _, rfl, a, l, i, rfl, hi2.sl, i4, fun b hb => ?_⟩
      refine ⟨_, rfl, a, dx, _, rfl, h12, rfl, _, rfl, a, l, j, rfl, hi2.sl, j4, fun c hc => ?_⟩
      refine ⟨_, rfl, _, rfl, _, rfl, _, rfl, _, rfl, _, rfl, b, c, _, _, (x : Int), (y : Int), rfl, hb, hc, (ok.at_ i).sm, (ok.at_ j).sm, by omega, by omega, fun H3 z s4 n4 hz => ?_⟩
      rw [Rat.intCast_natCast, Rat.intCast_natCast] at hz
      exact ⟨a, pl, z, l, t, _, rfl, hi2.same s4, t4, hz, Kv.tr_add _ _, comb_len (ok.at_ i).sm.1 (ok.at_ j).sm.1, GiveS.later k (sB.trans s4)⟩
    · rw [e3] at k ⊢
      rw [if_neg (List.cons_ne_nil _ _)] at k
      rw [e3] at hr3
      exact iteT ⟨_, rfl, GiveS.still hi k H2 r sB hr3⟩
abbrev sSb : Stmt := topS 96
abbrev NSb : List Str := ["instance", "first", "first_factor", "second", "second_factor", "target", "refusal", "left", "right"]
theorem scSb : FnScope NSb ["instance", "first", "first_factor", "second", "second_factor", "target"] (defScope sSb) := ⟨rfl, rfl, rfl, by decide +kernel, rfl, by decide +kernel, by decide +kernel⟩
theorem df_sb {C : Addr} (T : Gm mg) (F : Fx K mg "subtract_multiples" sSb) (D_combination_refusal : Df P w K mg base "combination_refusal" 2 ["instance", "slots", "factors"] (spCf C)) (D_polynomial_in : Dm P w K mg base C "polynomial_in" 1 ["self", "slot"] (spInP C))
    (D_stored_if_small : Df P w K mg base "stored_if_small" 3 ["instance", "slot", "polynomial"] (spIs C)) (D_sum_of_multiples : Df P w K mg base "sum_of_multiples" 3 ["first", "first_factor", "second", "second_factor"] spSm) :
    Df P w K mg base "subtract_multiples" 4 ["instance", "first", "first_factor", "second", "second_factor", "target"] (spComb C .subtractMultiples) := by
  refine df_of F scSb (fun _ _ _ _ _ _ us hl => match us, hl with | [_, _, _, _, _, _], _ => rfl) (fun vs H Q E h => ?_) (fun f cdv A outer s H vs Q E hr h => ?_)
  · obtain ⟨a, pl, l, i, x, j, y, t, rfl, _⟩ := h
    rfl
  · obtain ⟨a, pl, l, i, x, j, y, t, rfl, hi, k⟩ := h
    refine ⟨_, (pss_cons (ps_set (i := 6) scSb.nd rfl (.inl rfl) (pd D_combination_refusal (hr.mono (by decide)) (pa_cons (pv 0) (pa_cons (pe_lst (pa_cons (pv 1) (pa_cons (pv 3) (pa_cons (pv 5) pa_nil)))) (pa_cons (pe_lst (pa_cons (pv 2) (pa_cons (pv 4) pa_nil))) pa_nil)))))
      (pss_cons (ps_if (pt_cmpR op_gt (pe_callB (call_lenK K) (by rfl) T.len (by decide +kernel) (pa_cons (pv 6) pa_nil)) pe_int (nomark _)) (pss_one (ps_ret (pv 6))) pss_nil)
      (pss_cons (ps_set (i := 7) scSb.nd rfl (.inl rfl) (pm D_polynomial_in (hr.mono (by decide)) (pv 0) (pa_cons (pv 1) pa_nil)))
      (pss_cons (ps_set (i := 8) scSb.nd rfl (.inl rfl) (pm D_polynomial_in (hr.mono (by decide)) (pv 0) (pa_cons (pv 3) pa_nil)))
      (pss_one (ps_ret (pd D_stored_if_small (hr.mono (by decide)) (pa_cons (pv 0) (pa_cons (pv 5) (pa_cons (pd D_sum_of_multiples (hr.mono (by decide)) (pa_cons (pv 7) (pa_cons (pv 2) (pa_cons (pv 8) (pa_cons (pe_un un_neg (pv 4)) pa_nil))))) pa_nil)))))))))), ?_⟩
    obtain ⟨dx, h1⟩ := hi.is
    have st : Kqg2.step (some l) (.subtractMultiples i x j y t) = if Kqg2.noSlot i j t = true then (some l, .value (-2)) else if 1000 < x ∨ 1000 < y then (some l, .value (-22)) else Kqg2.store l t (Kqg1.add (Kqg1.scale (x : Rat) (pIn l i)) (Kqg1.scale (-(y : Rat)) (pIn l j))) := rfl
    obtain ⟨e1, e2, e3⟩ := rfC_step (l := l) (i := i) (j := j) (t := t) (x := x) (y := y) (S := Kqg2.store l t (Kqg1.add (Kqg1.scale (x : Rat) (pIn l i)) (Kqg1.scale (-(y : Rat)) (pIn l j))))
    rw [st, e1] at k
    refine ⟨_, rfl, _, rfl, _, rfl, _, rfl, (by show 3 ≤ sizeLine; decide), fun sa hsa => ?_⟩
    have s1 := upd_new (o := .lst [V.int (i : Int), V.int (j : Int), V.int (t : Int)]) hsa
    refine ⟨_, rfl, _, rfl, (by show 2 ≤ sizeLine; decide), fun sb hsb => ?_⟩
    have s2 := upd_new (o := .lst [V.int (x : Int), V.int (y : Int)]) hsb
    have sA := s1.trans s2
    refine ⟨a, pl, dx, sa, sb, [i, j, t], x, y, rfl, sA _ _ h1, s2 _ _ upd_same, by show 3 ≤ 10000; decide, upd_same, fun H2 r s3 hr3 => ?_⟩
    have sB := sA.trans s3
    refine ⟨_, rfl, r, _, rfl, hr3.len, _, _, rfl, rfl, _, rfl, ?_⟩
    rcases e3 with e3 | ⟨v, e3⟩
    · rw [e3] at k ⊢
      rw [if_pos rfl] at k
      obtain ⟨i4, j4, t4, x9, y9⟩ := e2 e3
      have hi2 := hi.same sB
      have h12 := sB _ _ h1
      have ok : StOk l := hi.2.2
      refine iteF ⟨_, rfl, a, dx, _, rfl, h12, rfl, _, rfl, a, l, i, rfl, hi2.sl, i4, fun b hb => ?_⟩
      refine ⟨_, rfl, a, dx, _, rfl, h12, rfl, _, rfl, a, l, j, rfl, hi2.sl, j4, fun c hc => ?_⟩
      refine ⟨_, rfl, _, rfl, _, rfl, _, rfl, _, rfl, _, rfl, (y : Int), rfl, b, c, _, _, (x : Int), -(y : Int), rfl, hb, hc, (ok.at_ i).sm, (ok.at_ j).sm, by omega, by omega, fun H3 z s4 n4 hz => ?_⟩
      rw [Rat.intCast_natCast, Rat.intCast_neg, Rat.intCast_natCast] at hz
      exact ⟨a, pl, z, l, t, _, rfl, hi2.same s4, t4, hz, Kv.tr_add _ _, comb_len (ok.at_ i).sm.1 (ok.at_ j).sm.1, GiveS.later k (sB.trans s4)⟩
    · rw [e3] at k ⊢
      rw [if_neg (List.cons_ne_nil _ _)] at k
      rw [e3] at hr3
      exact iteT ⟨_, rfl, GiveS.still hi k H2 r sB hr3⟩
abbrev sSd' : Stmt := topS 97
abbrev NSd' : List Str := ["instance", "source", "target"]
theorem scSd' : FnScope NSd' ["instance", "source", "target"] (defScope sSd') := ⟨rfl, rfl, rfl, by decide +kernel, rfl, by decide +kernel, by decide +kernel⟩
def spDer (C : Addr) : Sp := fun vs H Q _ => ∃ (a pl : Addr) (l : List (List Rat)) (i j : Nat), vs = [.ref a, .int (i : Int), .int (j : Int)] ∧ InAt C H a pl (some l) ∧ GiveR C H a pl Q (Kqg2.step (some l) (.derivative i j))
theorem df_der {C : Addr} (T : Gm mg) (F : Fx K mg "derivative" sSd') (D_lacks_slot : Dm P w K mg base C "lacks_slot" 1 ["self", "slots"] (spInL C)) (D_refused : Df P w K mg base "refused" 1 ["code"] spRd) (D_polynomial_in : Dm P w K mg base C "polynomial_in" 1 ["self", "slot"] (spInP C))
    (D_stored_if_small : Df P w K mg base "stored_if_small" 3 ["instance", "slot", "polynomial"] (spIs C)) (D_fraction_derivative : Df P w K mg base "fraction_derivative" 3 ["polynomial"] spFd) : Df P w K mg base "derivative" 4 ["instance", "source", "target"] (spDer C) := by
  refine df_of F scSd' (fun _ _ _ _ _ _ us hl => match us, hl with | [_, _, _], _ => rfl) (fun vs H Q E h => ?_) (fun f cdv A outer s H vs Q E hr h => ?_)
  · obtain ⟨a, pl, l, i, j, rfl, _⟩ := h
    rfl
  · obtain ⟨a, pl, l, i, j, rfl, hi, k⟩ := h
    refine ⟨_, (pss_cons (ps_if (pt_val (pm D_lacks_slot (hr.mono (by decide)) (pv 0) (pa_cons (pe_lst (pa_cons (pv 1) (pa_cons (pv 2) pa_nil))) pa_nil))) (pss_one (ps_ret (pd D_refused (hr.mono (by decide)) (pa_cons (pe_gl T.NO_SUCH_SLOT) pa_nil)))) pss_nil)
      (pss_one (ps_ret (pd D_stored_if_small (hr.mono (by decide)) (pa_cons (pv 0) (pa_cons (pv 2) (pa_cons (pd D_fraction_derivative (hr.mono (by decide)) (pa_cons (pm D_polynomial_in (hr.mono (by decide)) (pv 0) (pa_cons (pv 1) pa_nil)) pa_nil)) pa_nil))))))), ?_⟩
    obtain ⟨dx, h1⟩ := hi.is
    have st : Kqg2.step (some l) (.derivative i j) = if lacks [i, j] = true then (some l, .value (-2)) else Kqg2.store l j (Kqg1.derivative (pIn l i)) := by
      have e : Kqg2.noSlot i j 0 = lacks [i, j] := by
        unfold Kqg2.noSlot lacks Kqg2.slotCount
        simp
      rw [← e]
      rfl
    rw [st] at k
    refine ⟨_, rfl, a, dx, _, rfl, h1, rfl, _, rfl, _, rfl, (by show 2 ≤ sizeLine; decide), fun sa hsa => ?_⟩
    have s1 := upd_new (o := .lst [V.int (i : Int), V.int (j : Int)]) hsa
    refine ⟨a, pl, sa, dx, [i, j], rfl, s1 _ _ h1, upd_same, by show 2 ≤ 10000; decide, fun H2 s2 => ⟨_, rfl, ?_⟩⟩
    have sA := s1.trans s2
    cases g : lacks [i, j] with
    | true =>
      rw [if_pos g] at k
      exact iteT ⟨2, rfl, fun H3 r s3 h3 => GiveS.still hi k H3 r (sA.trans s3) h3⟩
    | false =>
      rw [if_neg (by rw [g]; decide)] at k
      unfold lacks at g
      simp only [List.any_cons, List.any_nil, Bool.or_false, Bool.or_eq_false_iff, decide_eq_false_iff_not] at g
      have hi2 := hi.same sA
      have ok : StOk l := hi.2.2
      have po := ok.at_ i
      refine iteF ⟨_, rfl, _, rfl, _, rfl, a, dx, _, rfl, sA _ _ h1, rfl, _, rfl, a, l, i, rfl, hi2.sl, by omega, fun b hb => ?_⟩
      refine ⟨b, _, rfl, hb, po.sm, po.tr, fun H3 z s3 n3 hz => ?_⟩
      refine ⟨a, pl, z, l, j, _, rfl, hi2.same s3, by omega, hz, Kv.tr_derivative _, ?_, GiveS.later k (sA.trans s3)⟩
      unfold Kqg1.derivative
      have := po.sm.1
      refine Nat.le_trans (Kv.trim_len_le _) ?_
      rw [List.length_map, List.length_range]
      omega
abbrev sSy : Stmt := topS 98
abbrev NSy : List Str := ["instance", "slot"]
theorem scSy : FnScope NSy ["instance"] (defScope sSy) := ⟨rfl, rfl, rfl, by decide +kernel, rfl, by decide +kernel, by decide +kernel⟩
def spSy (C : Addr) : Sp := fun vs H Q _ => ∃ (a : Addr) (l : List (List Rat)), vs = [.ref a] ∧ InSl C H a l ∧ GiveL H Q (ans l .summary)
theorem df_sy {C : Addr} (T : Gm mg) (F : Fx K mg "summary" sSy) (D_polynomial_in : Dm P w K mg base C "polynomial_in" 1 ["self", "slot"] (spInP C)) : Df P w K mg base "summary" 2 ["instance"] (spSy C) := by
  refine df_of F scSy (fun _ _ _ _ _ _ us hl => match us, hl with | [_], _ => rfl) (fun vs H Q E h => ?_) (fun f cdv A outer s H vs Q E hr h => ?_)
  · obtain ⟨a, l, rfl, _⟩ := h
    rfl
  · obtain ⟨a, l, rfl, hi, k⟩ := h
    refine ⟨_, (pss_one (ps_ret (pe_op op_cat (pe_lst (pa_cons (pe_gl T.SLOT_COUNT) pa_nil)) (pe_lc (own := [("slot", 1)]) (g := gName 1) (by rfl) scSy.nd (pi_range1 (by rfl) T.range (pa_cons (pe_gl T.SLOT_COUNT) pa_nil)) (blkOk_by (N := NSy) (sc := defScope sSy) (by decide +kernel)) (fun _ _ _ _ _ => pg_name (i := 1) scSy.nd rfl (Or.inl rfl)) (fun _ _ _ _ _ => pts_nil) (fun _ _ _ _ _ => (pe_callB (call_lenK K) (by rfl) T.len (by decide +kernel) (pa_cons (pm D_polynomial_in (hr.mono (by decide)) (pv 0) (pa_cons (pv 1) pa_nil)) pa_nil))))))), ?_⟩
    obtain ⟨pl, dx, h1, ok⟩ := hi.is
    have l4 := ok.len
    have st : ans l .summary = 4 :: l.map fun p => (p.length : Int) := rfl
    rw [st] at k
    refine ⟨(by show 1 ≤ sizeLine; decide), fun sa hsa => ?_⟩
    have s1 := upd_new (o := .lst [V.int 4]) hsa
    refine ⟨4, rfl, by decide, by decide, fun D hD => lc_det (walk_range (lo := 0) (n := 4)) (fun m => ((l.take m).map fun p => (p.length : Int)).map V.int) (by simp) (fun m _ => by rw [List.length_map, List.length_map, List.length_take]; omega) hD (fun _ _ => trivial) (fun m v H2 H' hm s' hy N Rk _ r => ?_) fun H2 s2 eD => ?_⟩
    · obtain ⟨rfl, rfl⟩ := hy
      have e0 : V.int (0 + ((m : Nat) : Int)) = V.int (m : Nat) := congrArg V.int (by omega)
      show gName 1 (V.int (0 + ((m : Nat) : Int))) _ _ _
      rw [e0]
      have hx : l[m]? = some (pIn l m) := by
        show l[m]? = some (l.getD m [])
        rw [List.getD_eq_getElem?_getD, List.getElem?_eq_getElem (by omega)]
        rfl
      have sA := s1.trans s'
      refine ⟨rfl, _, rfl, a, dx, _, rfl, sA _ _ h1, rfl, _, rfl, a, l, m, rfl, hi.same sA, hm, fun b hb => ?_⟩
      refine ⟨b, _, rfl, Il.Ls.len hb, r _ _ (Same.refl _) ?_⟩
      rw [take_more hx, List.map_append, List.map_append]
      rfl
    · have e4 : l.take 4 = l := List.take_of_length_le (by omega)
      rw [e4] at eD
      refine ⟨sa, D, _, _, rfl, rfl, s2 _ _ upd_same, eD, ?_, fun u hu => ?_⟩
      · rw [List.length_map, List.length_map]
        show 1 + l.length ≤ 16777216
        omega
      · exact k _ u (s1.trans (s2.trans (upd_new hu))) (by show upd H2 u _ u = _; rw [upd_same]; rfl)
end
end Il
namespace Il
open PySem PySem.Spec PyProof.Rows L2
def Rq (c : Int) (ns r : List Int) : Kqg2.Request → Prop
  | .create => c = 0 ∧ ns = []
  | .setPolynomial i d cs => c = 1 ∧ ns = [(i : Int), (d : Int)] ∧ r = cs ∧ cs.length ≤ 60
  | .setRoots i d cs => c = 2 ∧ ns = [(i : Int), (d : Int)] ∧ r = cs ∧ cs.length ≤ 60
  | .getPolynomial i => c = 3 ∧ ns = [(i : Int)]
  | .isRealRooted i => c = 4 ∧ ns = [(i : Int)]
  | .jointMultiplicities i j => c = 5 ∧ ns = [(i : Int), (j : Int)]
  | .interlaces i j => c = 6 ∧ ns = [(i : Int), (j : Int)]
  | .haveCommonInterlacing i j => c = 7 ∧ ns = [(i : Int), (j : Int)]
  | .allHaveCommonInterlacing => c = 8 ∧ ns = []
  | .addMultiples i x j y t => c = 9 ∧ ns = [(i : Int), (x : Int), (j : Int), (y : Int), (t : Int)]
  | .subtractMultiples i x j y t => c = 10 ∧ ns = [(i : Int), (x : Int), (j : Int), (y : Int), (t : Int)]
  | .derivative i j => c = 11 ∧ ns = [(i : Int), (j : Int)]
  | .firstLargeLead i j b => c = 12 ∧ ns = [(i : Int), (j : Int), (b : Int)]
  | .minRootGap i b => c = 13 ∧ ns = [(i : Int), (b : Int)]
  | .areProportional i j => c = 14 ∧ ns = [(i : Int), (j : Int)]
  | .countRootsAbove i n d => c = 15 ∧ ns = [(i : Int), n, (d : Int)]
  | .leadAbove i j n d => c = 16 ∧ ns = [(i : Int), (j : Int), n, (d : Int)]
  | .compareGreatestRoots i j => c = 17 ∧ ns = [(i : Int), (j : Int)]
  | .interlacingInterval i j k b => c = 18 ∧ ns = [(i : Int), (j : Int), (k : Int), (b : Int)]
  | .summary => c = 19 ∧ ns = []
def grp : Kqg2.Request → Nat
  | .create => 0
  | .setPolynomial .. => 1
  | .setRoots .. => 1
  | .getPolynomial .. => 1
  | .addMultiples .. => 1
  | .subtractMultiples .. => 1
  | .derivative .. => 1
  | .summary => 1
  | .firstLargeLead .. => 2
  | .minRootGap .. => 2
  | .interlacingInterval .. => 2
  | _ => 3
section
variable {P : Program} {w : World} {K : PySem.W.Frag} {mg : Str → Option Value} {base : Heap}
abbrev sXs : Stmt := topS 102
abbrev NXs : List Str := ["instance", "call", "numbers", "row"]
theorem scXs : FnScope NXs ["instance", "call", "numbers", "row"] (defScope sXs) := ⟨rfl, rfl, rfl, by decide +kernel, rfl, by decide +kernel, by decide +kernel⟩
def spXs (C : Addr) : Sp := fun vs H Q _ => ∃ (a pl nb rw' : Addr) (l : List (List Rat)) (c : Int) (ns r : List Int) (q : Kqg2.Request), vs = [.ref a, .int c, .ref nb, .ref rw'] ∧ InAt C H a pl (some l) ∧ LI H nb ns ∧ LI H rw' r ∧ Rq c ns r q ∧ grp q = 1 ∧ GiveR C H a pl Q (Kqg2.step (some l) q)
theorem df_xs {C : Addr} (F : Fx K mg "storing_answer" sXs) (D_set_polynomial : Df P w K mg base "set_polynomial" 4 ["instance", "slot", "denominator", "coefficients"] (spSet C .setPolynomial)) (D_set_roots : Df P w K mg base "set_roots" 5 ["instance", "slot", "denominator", "roots"] (spSet C .setRoots))
    (D_get_polynomial : Df P w K mg base "get_polynomial" 2 ["instance", "slot"] (spSg C)) (D_add_multiples : Df P w K mg base "add_multiples" 4 ["instance", "first", "first_factor", "second", "second_factor", "target"] (spComb C .addMultiples))
    (D_subtract_multiples : Df P w K mg base "subtract_multiples" 4 ["instance", "first", "first_factor", "second", "second_factor", "target"] (spComb C .subtractMultiples)) (D_derivative : Df P w K mg base "derivative" 4 ["instance", "source", "target"] (spDer C))
    (D_summary : Df P w K mg base "summary" 2 ["instance"] (spSy C)) : Df P w K mg base "storing_answer" 6 ["instance", "call", "numbers", "row"] (spXs C) := by
  refine df_of F scXs (fun _ _ _ _ _ _ us hl => match us, hl with | [_, _, _, _], _ => rfl) (fun vs H Q E h => ?_) (fun f cdv A outer s H vs Q E hr h => ?_)
  · obtain ⟨a, pl, nb, rw', l, c, ns, r, q, rfl, _⟩ := h
    rfl
  · obtain ⟨a, pl, nb, rw', l, c, ns, r, q, rfl, hi, hn, hrw, hq, hg, k⟩ := h
    refine ⟨_, (pss_cons (ps_if (pt_cmpR op_eq (pv 1) pe_int (nomark _)) (pss_one (ps_ret (pd D_set_polynomial (hr.mono (by decide)) (pa_cons (pv 0) (pa_cons (pe_ix (ix_listK K) (pv 2) pe_int (fun _ _ => rfl)) (pa_cons (pe_ix (ix_listK K) (pv 2) pe_int (fun _ _ => rfl)) (pa_cons (pv 3) pa_nil))))))) pss_nil)
      (pss_cons (ps_if (pt_cmpR op_eq (pv 1) pe_int (nomark _)) (pss_one (ps_ret (pd D_set_roots (hr.mono (by decide)) (pa_cons (pv 0) (pa_cons (pe_ix (ix_listK K) (pv 2) pe_int (fun _ _ => rfl)) (pa_cons (pe_ix (ix_listK K) (pv 2) pe_int (fun _ _ => rfl)) (pa_cons (pv 3) pa_nil))))))) pss_nil)
      (pss_cons (ps_if (pt_cmpR op_eq (pv 1) pe_int (nomark _)) (pss_one (ps_ret (pd D_get_polynomial (hr.mono (by decide)) (pa_cons (pv 0) (pa_cons (pe_ix (ix_listK K) (pv 2) pe_int (fun _ _ => rfl)) pa_nil))))) pss_nil)
      (pss_cons (ps_if (pt_cmpR op_eq (pv 1) pe_int (nomark _)) (pss_one (ps_ret (pd D_add_multiples (hr.mono (by decide)) (pa_cons (pv 0) (pa_cons (pe_ix (ix_listK K) (pv 2) pe_int (fun _ _ => rfl)) (pa_cons (pe_ix (ix_listK K) (pv 2) pe_int (fun _ _ => rfl)) (pa_cons (pe_ix (ix_listK K) (pv 2) pe_int (fun _ _ => rfl)) (pa_cons (pe_ix (ix_listK K) (pv 2) pe_int (fun _ _ => rfl)) (pa_cons (pe_ix (ix_listK K) (pv 2) pe_int (fun _ _ => rfl)) pa_nil))))))))) pss_nil)
      (pss_cons (ps_if (pt_cmpR op_eq (pv 1) pe_int (nomark _)) (pss_one (ps_ret (pd D_subtract_multiples (hr.mono (by decide)) (pa_cons (pv 0) (pa_cons (pe_ix (ix_listK K) (pv 2) pe_int (fun _ _ => rfl)) (pa_cons (pe_ix (ix_listK K) (pv 2) pe_int (fun _ _ => rfl)) (pa_cons (pe_ix (ix_listK K) (pv 2) pe_int (fun _ _ => rfl)) (pa_cons (pe_ix (ix_listK K) (pv 2) pe_int (fun _ _ => rfl)) (pa_cons (pe_ix (ix_listK K) (pv 2) pe_int (fun _ _ => rfl)) pa_nil))))))))) pss_nil)
      (pss_cons (ps_if (pt_cmpR op_eq (pv 1) pe_int (nomark _)) (pss_one (ps_ret (pd D_derivative (hr.mono (by decide)) (pa_cons (pv 0) (pa_cons (pe_ix (ix_listK K) (pv 2) pe_int (fun _ _ => rfl)) (pa_cons (pe_ix (ix_listK K) (pv 2) pe_int (fun _ _ => rfl)) pa_nil)))))) pss_nil)
      (pss_one (ps_ret (pd D_summary (hr.mono (by decide)) (pa_cons (pv 0) pa_nil)))))))))), ?_⟩
    cases q with
    | setPolynomial i d cs =>
      obtain ⟨rfl, rfl, rfl, hl⟩ := hq
      exact ⟨_, rfl, rfl, _, rfl, iteT ⟨_, rfl, _, rfl, nb, _, 0, _, rfl, rfl, hn.sq, rfl, _, rfl, nb, _, 1, _, rfl, rfl, hn.sq, rfl, _, rfl, a, pl, rw', l, i, d, r, rfl, hi, hrw, by omega, k⟩⟩
    | setRoots i d cs =>
      obtain ⟨rfl, rfl, rfl, hl⟩ := hq
      exact ⟨_, rfl, rfl, _, rfl, iteF ⟨_, rfl, rfl, _, rfl, iteT ⟨_, rfl, _, rfl, nb, _, 0, _, rfl, rfl, hn.sq, rfl, _, rfl, nb, _, 1, _, rfl, rfl, hn.sq, rfl, _, rfl, a, pl, rw', l, i, d, r, rfl, hi, hrw, by omega, k⟩⟩⟩
    | getPolynomial i =>
      obtain ⟨rfl, rfl⟩ := hq
      exact ⟨_, rfl, rfl, _, rfl, iteF ⟨_, rfl, rfl, _, rfl, iteF ⟨_, rfl, rfl, _, rfl, iteT ⟨_, rfl, _, rfl, nb, _, 0, _, rfl, rfl, hn.sq, rfl, a, l, i, rfl, hi.sl, GiveS.still hi k⟩⟩⟩⟩
    | addMultiples i x j y t =>
      obtain ⟨rfl, rfl⟩ := hq
      exact ⟨_, rfl, rfl, _, rfl, iteF ⟨_, rfl, rfl, _, rfl, iteF ⟨_, rfl, rfl, _, rfl, iteF ⟨_, rfl, rfl, _, rfl, iteT ⟨_, rfl, _, rfl, nb, _, 0, _, rfl, rfl, hn.sq, rfl, _, rfl, nb, _, 1, _, rfl, rfl, hn.sq, rfl, _, rfl, nb, _, 2, _, rfl, rfl, hn.sq, rfl, _, rfl, nb, _, 3, _, rfl, rfl, hn.sq, rfl, _, rfl, nb, _, 4, _, rfl, rfl, hn.sq, rfl,
        a, pl, l, i, x, j, y, t, rfl, hi, k⟩⟩⟩⟩⟩
    | subtractMultiples i x j y t =>
      obtain ⟨rfl, rfl⟩ := hq
      exact ⟨_, rfl, rfl, _, rfl, iteF ⟨_, rfl, rfl, _, rfl, iteF ⟨_, rfl, rfl, _, rfl, iteF ⟨_, rfl, rfl, _, rfl, iteF ⟨_, rfl, rfl, _, rfl, iteT ⟨_, rfl, _, rfl, nb, _, 0, _, rfl, rfl, hn.sq, rfl, _, rfl, nb, _, 1, _, rfl, rfl, hn.sq, rfl, _, rfl, nb, _, 2, _, rfl, rfl, hn.sq, rfl, _, rfl, nb, _, 3, _, rfl, rfl, hn.sq, rfl, _, rfl, nb, _, 4, _, rfl, rfl, hn.sq, rfl,
        a, pl, l, i, x, j, y, t, rfl, hi, k⟩⟩⟩⟩⟩⟩
    | derivative i j =>
      obtain ⟨rfl, rfl⟩ := hq
      exact ⟨_, rfl, rfl, _, rfl, iteF ⟨_, rfl, rfl, _, rfl, iteF ⟨_, rfl, rfl, _, rfl, iteF ⟨_, rfl, rfl, _, rfl, iteF ⟨_, rfl, rfl, _, rfl, iteF ⟨_, rfl, rfl, _, rfl, iteT ⟨_, rfl, _, rfl, nb, _, 0, _, rfl, rfl, hn.sq, rfl, _, rfl, nb, _, 1, _, rfl, rfl, hn.sq, rfl,
        a, pl, l, i, j, rfl, hi, k⟩⟩⟩⟩⟩⟩⟩
    | summary =>
      obtain ⟨rfl, rfl⟩ := hq
      exact ⟨_, rfl, rfl, _, rfl, iteF ⟨_, rfl, rfl, _, rfl, iteF ⟨_, rfl, rfl, _, rfl, iteF ⟨_, rfl, rfl, _, rfl, iteF ⟨_, rfl, rfl, _, rfl, iteF ⟨_, rfl, rfl, _, rfl, iteF ⟨_, rfl, a, l, rfl, hi.sl, GiveS.still hi k⟩⟩⟩⟩⟩⟩⟩
    | _ => simp [grp] at hg
abbrev sXa : Stmt := topS 103
abbrev NXa : List Str := ["instance", "call", "numbers"]
theorem scXa : FnScope NXa ["instance", "call", "numbers"] (defScope sXa) := ⟨rfl, rfl, rfl, by decide +kernel, rfl, by decide +kernel, by decide +kernel⟩
def spXa (C : Addr) (g : Nat) : Sp := fun vs H Q _ => ∃ (a nb : Addr) (l : List (List Rat)) (c : Int) (ns r : List Int) (q : Kqg2.Request), vs = [.ref a, .int c, .ref nb] ∧ InSl C H a l ∧ LI H nb ns ∧ Rq c ns r q ∧ grp q = g ∧ GiveL H Q (ans l q)
theorem df_xa {C : Addr} (F : Fx K mg "asking_answer" sXa) (D_is_real_rooted : Df P w K mg base "is_real_rooted" 42 ["instance", "slot"] (spQr C)) (D_joint_multiplicities : Df P w K mg base "joint_multiplicities" 42 ["instance", "first", "second"] (spTwo C .jointMultiplicities))
    (D_interlaces : Df P w K mg base "interlaces" 44 ["instance", "first", "second"] (spTwo C .interlaces)) (D_have_common_interlacing : Df P w K mg base "have_common_interlacing" 44 ["instance", "first", "second"] (spTwo C .haveCommonInterlacing))
    (D_all_have_common_interlacing : Df P w K mg base "all_have_common_interlacing" 44 ["instance"] (spQa C)) (D_are_proportional : Df P w K mg base "are_proportional" 5 ["instance", "first", "second"] (spTwo C .areProportional))
    (D_count_roots_above : Df P w K mg base "count_roots_above" 41 ["instance", "slot", "numerator", "denominator"] (spQc C)) (D_lead_above : Df P w K mg base "lead_above" 41 ["instance", "first", "second", "numerator", "denominator"] (spQl C))
    (D_compare_greatest_roots : Df P w K mg base "compare_greatest_roots" 42 ["instance", "first", "second"] (spTwo C .compareGreatestRoots)) : Df P w K mg base "asking_answer" 45 ["instance", "call", "numbers"] (spXa C 3) := by
  refine df_of F scXa (fun _ _ _ _ _ _ us hl => match us, hl with | [_, _, _], _ => rfl) (fun vs H Q E h => ?_) (fun f cdv A outer s H vs Q E hr h => ?_)
  · obtain ⟨a, nb, l, c, ns, r, q, rfl, _⟩ := h
    rfl
  · obtain ⟨a, nb, l, c, ns, r, q, rfl, hi, hn, hq, hg, k⟩ := h
    refine ⟨_, (pss_cons (ps_if (pt_cmpR op_eq (pv 1) pe_int (nomark _)) (pss_one (ps_ret (pd D_is_real_rooted (hr.mono (by decide)) (pa_cons (pv 0) (pa_cons (pe_ix (ix_listK K) (pv 2) pe_int (fun _ _ => rfl)) pa_nil))))) pss_nil)
      (pss_cons (ps_if (pt_cmpR op_eq (pv 1) pe_int (nomark _)) (pss_one (ps_ret (pd D_joint_multiplicities (hr.mono (by decide)) (pa_cons (pv 0) (pa_cons (pe_ix (ix_listK K) (pv 2) pe_int (fun _ _ => rfl)) (pa_cons (pe_ix (ix_listK K) (pv 2) pe_int (fun _ _ => rfl)) pa_nil)))))) pss_nil)
      (pss_cons (ps_if (pt_cmpR op_eq (pv 1) pe_int (nomark _)) (pss_one (ps_ret (pd D_interlaces (hr.mono (by decide)) (pa_cons (pv 0) (pa_cons (pe_ix (ix_listK K) (pv 2) pe_int (fun _ _ => rfl)) (pa_cons (pe_ix (ix_listK K) (pv 2) pe_int (fun _ _ => rfl)) pa_nil)))))) pss_nil)
      (pss_cons (ps_if (pt_cmpR op_eq (pv 1) pe_int (nomark _)) (pss_one (ps_ret (pd D_have_common_interlacing (hr.mono (by decide)) (pa_cons (pv 0) (pa_cons (pe_ix (ix_listK K) (pv 2) pe_int (fun _ _ => rfl)) (pa_cons (pe_ix (ix_listK K) (pv 2) pe_int (fun _ _ => rfl)) pa_nil)))))) pss_nil)
      (pss_cons (ps_if (pt_cmpR op_eq (pv 1) pe_int (nomark _)) (pss_one (ps_ret (pd D_all_have_common_interlacing (hr.mono (by decide)) (pa_cons (pv 0) pa_nil)))) pss_nil)
      (pss_cons (ps_if (pt_cmpR op_eq (pv 1) pe_int (nomark _)) (pss_one (ps_ret (pd D_are_proportional (hr.mono (by decide)) (pa_cons (pv 0) (pa_cons (pe_ix (ix_listK K) (pv 2) pe_int (fun _ _ => rfl)) (pa_cons (pe_ix (ix_listK K) (pv 2) pe_int (fun _ _ => rfl)) pa_nil)))))) pss_nil)
      (pss_cons (ps_if (pt_cmpR op_eq (pv 1) pe_int (nomark _)) (pss_one (ps_ret (pd D_count_roots_above (hr.mono (by decide)) (pa_cons (pv 0) (pa_cons (pe_ix (ix_listK K) (pv 2) pe_int (fun _ _ => rfl)) (pa_cons (pe_ix (ix_listK K) (pv 2) pe_int (fun _ _ => rfl)) (pa_cons (pe_ix (ix_listK K) (pv 2) pe_int (fun _ _ => rfl)) pa_nil))))))) pss_nil)
      (pss_cons (ps_if (pt_cmpR op_eq (pv 1) pe_int (nomark _)) (pss_one (ps_ret (pd D_lead_above (hr.mono (by decide)) (pa_cons (pv 0) (pa_cons (pe_ix (ix_listK K) (pv 2) pe_int (fun _ _ => rfl)) (pa_cons (pe_ix (ix_listK K) (pv 2) pe_int (fun _ _ => rfl)) (pa_cons (pe_ix (ix_listK K) (pv 2) pe_int (fun _ _ => rfl)) (pa_cons (pe_ix (ix_listK K) (pv 2) pe_int (fun _ _ => rfl)) pa_nil)))))))) pss_nil)
      (pss_one (ps_ret (pd D_compare_greatest_roots (hr.mono (by decide)) (pa_cons (pv 0) (pa_cons (pe_ix (ix_listK K) (pv 2) pe_int (fun _ _ => rfl)) (pa_cons (pe_ix (ix_listK K) (pv 2) pe_int (fun _ _ => rfl)) pa_nil)))))))))))))), ?_⟩
    cases q with
    | isRealRooted i =>
      obtain ⟨rfl, rfl⟩ := hq
      exact ⟨_, rfl, rfl, _, rfl, iteT ⟨_, rfl, _, rfl, nb, _, 0, _, rfl, rfl, hn.sq, rfl, a, l, i, rfl, hi, k⟩⟩
    | jointMultiplicities i j =>
      obtain ⟨rfl, rfl⟩ := hq
      exact ⟨_, rfl, rfl, _, rfl, iteF ⟨_, rfl, rfl, _, rfl, iteT ⟨_, rfl, _, rfl, nb, _, 0, _, rfl, rfl, hn.sq, rfl, _, rfl, nb, _, 1, _, rfl, rfl, hn.sq, rfl, a, l, i, j, rfl, hi, k⟩⟩⟩
    | interlaces i j =>
      obtain ⟨rfl, rfl⟩ := hq
      exact ⟨_, rfl, rfl, _, rfl, iteF ⟨_, rfl, rfl, _, rfl, iteF ⟨_, rfl, rfl, _, rfl, iteT ⟨_, rfl, _, rfl, nb, _, 0, _, rfl, rfl, hn.sq, rfl, _, rfl, nb, _, 1, _, rfl, rfl, hn.sq, rfl, a, l, i, j, rfl, hi, k⟩⟩⟩⟩
    | haveCommonInterlacing i j =>
      obtain ⟨rfl, rfl⟩ := hq
      exact ⟨_, rfl, rfl, _, rfl, iteF ⟨_, rfl, rfl, _, rfl, iteF ⟨_, rfl, rfl, _, rfl, iteF ⟨_, rfl, rfl, _, rfl, iteT ⟨_, rfl, _, rfl, nb, _, 0, _, rfl, rfl, hn.sq, rfl, _, rfl, nb, _, 1, _, rfl, rfl, hn.sq, rfl, a, l, i, j, rfl, hi, k⟩⟩⟩⟩⟩
    | allHaveCommonInterlacing =>
      obtain ⟨rfl, rfl⟩ := hq
      exact ⟨_, rfl, rfl, _, rfl, iteF ⟨_, rfl, rfl, _, rfl, iteF ⟨_, rfl, rfl, _, rfl, iteF ⟨_, rfl, rfl, _, rfl, iteF ⟨_, rfl, rfl, _, rfl, iteT ⟨_, rfl, a, l, rfl, hi, k⟩⟩⟩⟩⟩⟩
    | areProportional i j =>
      obtain ⟨rfl, rfl⟩ := hq
      exact ⟨_, rfl, rfl, _, rfl, iteF ⟨_, rfl, rfl, _, rfl, iteF ⟨_, rfl, rfl, _, rfl, iteF ⟨_, rfl, rfl, _, rfl, iteF ⟨_, rfl, rfl, _, rfl, iteF ⟨_, rfl, rfl, _, rfl, iteT ⟨_, rfl, _, rfl, nb, _, 0, _, rfl, rfl, hn.sq, rfl, _, rfl, nb, _, 1, _, rfl, rfl, hn.sq, rfl, a, l, i, j, rfl, hi, k⟩⟩⟩⟩⟩⟩⟩
    | countRootsAbove i n d =>
      obtain ⟨rfl, rfl⟩ := hq
      exact ⟨_, rfl, rfl, _, rfl, iteF ⟨_, rfl, rfl, _, rfl, iteF ⟨_, rfl, rfl, _, rfl, iteF ⟨_, rfl, rfl, _, rfl, iteF ⟨_, rfl, rfl, _, rfl, iteF ⟨_, rfl, rfl, _, rfl, iteF ⟨_, rfl, rfl, _, rfl, iteT ⟨_, rfl, _, rfl, nb, _, 0, _, rfl, rfl, hn.sq, rfl, _, rfl, nb, _, 1, _, rfl, rfl, hn.sq, rfl, _, rfl, nb, _, 2, _, rfl, rfl, hn.sq, rfl, a, l, i, n, d, rfl, hi, k⟩⟩⟩⟩⟩⟩⟩⟩
    | leadAbove i j n d =>
      obtain ⟨rfl, rfl⟩ := hq
      exact ⟨_, rfl, rfl, _, rfl, iteF ⟨_, rfl, rfl, _, rfl, iteF ⟨_, rfl, rfl, _, rfl, iteF ⟨_, rfl, rfl, _, rfl, iteF ⟨_, rfl, rfl, _, rfl, iteF ⟨_, rfl, rfl, _, rfl, iteF ⟨_, rfl, rfl, _, rfl, iteF ⟨_, rfl, rfl, _, rfl, iteT ⟨_, rfl, _, rfl, nb, _, 0, _, rfl, rfl, hn.sq, rfl, _, rfl, nb, _, 1, _, rfl, rfl, hn.sq, rfl, _, rfl, nb, _, 2, _, rfl, rfl, hn.sq, rfl, _, rfl, nb, _, 3, _, rfl, rfl, hn.sq, rfl, a, l, i, j, n, d, rfl, hi, k⟩⟩⟩⟩⟩⟩⟩⟩⟩
    | compareGreatestRoots i j =>
      obtain ⟨rfl, rfl⟩ := hq
      exact ⟨_, rfl, rfl, _, rfl, iteF ⟨_, rfl, rfl, _, rfl, iteF ⟨_, rfl, rfl, _, rfl, iteF ⟨_, rfl, rfl, _, rfl, iteF ⟨_, rfl, rfl, _, rfl, iteF ⟨_, rfl, rfl, _, rfl, iteF ⟨_, rfl, rfl, _, rfl, iteF ⟨_, rfl, rfl, _, rfl, iteF ⟨_, rfl, _, rfl, nb, _, 0, _, rfl, rfl, hn.sq, rfl, _, rfl, nb, _, 1, _, rfl, rfl, hn.sq, rfl, a, l, i, j, rfl, hi, k⟩⟩⟩⟩⟩⟩⟩⟩⟩
    | _ => simp [grp] at hg
abbrev sXp : Stmt := topS 104
abbrev NXp : List Str := ["instance", "call", "numbers"]
theorem scXp : FnScope NXp ["instance", "call", "numbers"] (defScope sXp) := ⟨rfl, rfl, rfl, by decide +kernel, rfl, by decide +kernel, by decide +kernel⟩
theorem df_xp {C : Addr} (F : Fx K mg "placing_answer" sXp) (D_first_large_lead : Df P w K mg base "first_large_lead" 42 ["instance", "first", "second", "bits"] (spPf C)) (D_min_root_gap : Df P w K mg base "min_root_gap" 42 ["instance", "slot", "bits"] (spPg C))
    (D_interlacing_interval : Df P w K mg base "interlacing_interval" 44 ["instance", "first", "second", "k", "bits"] (spPi C)) : Df P w K mg base "placing_answer" 45 ["instance", "call", "numbers"] (spXa C 2) := by
  refine df_of F scXp (fun _ _ _ _ _ _ us hl => match us, hl with | [_, _, _], _ => rfl) (fun vs H Q E h => ?_) (fun f cdv A outer s H vs Q E hr h => ?_)
  · obtain ⟨a, nb, l, c, ns, r, q, rfl, _⟩ := h
    rfl
  · obtain ⟨a, nb, l, c, ns, r, q, rfl, hi, hn, hq, hg, k⟩ := h
    refine ⟨_, (pss_cons (ps_if (pt_cmpR op_eq (pv 1) pe_int (nomark _)) (pss_one (ps_ret (pd D_first_large_lead (hr.mono (by decide)) (pa_cons (pv 0) (pa_cons (pe_ix (ix_listK K) (pv 2) pe_int (fun _ _ => rfl)) (pa_cons (pe_ix (ix_listK K) (pv 2) pe_int (fun _ _ => rfl)) (pa_cons (pe_ix (ix_listK K) (pv 2) pe_int (fun _ _ => rfl)) pa_nil))))))) pss_nil)
      (pss_cons (ps_if (pt_cmpR op_eq (pv 1) pe_int (nomark _)) (pss_one (ps_ret (pd D_min_root_gap (hr.mono (by decide)) (pa_cons (pv 0) (pa_cons (pe_ix (ix_listK K) (pv 2) pe_int (fun _ _ => rfl)) (pa_cons (pe_ix (ix_listK K) (pv 2) pe_int (fun _ _ => rfl)) pa_nil)))))) pss_nil)
      (pss_one (ps_ret (pd D_interlacing_interval (hr.mono (by decide)) (pa_cons (pv 0) (pa_cons (pe_ix (ix_listK K) (pv 2) pe_int (fun _ _ => rfl)) (pa_cons (pe_ix (ix_listK K) (pv 2) pe_int (fun _ _ => rfl)) (pa_cons (pe_ix (ix_listK K) (pv 2) pe_int (fun _ _ => rfl)) (pa_cons (pe_ix (ix_listK K) (pv 2) pe_int (fun _ _ => rfl)) pa_nil)))))))))), ?_⟩
    cases q with
    | firstLargeLead i j b =>
      obtain ⟨rfl, rfl⟩ := hq
      exact ⟨_, rfl, rfl, _, rfl, iteT ⟨_, rfl, _, rfl, nb, _, 0, _, rfl, rfl, hn.sq, rfl, _, rfl, nb, _, 1, _, rfl, rfl, hn.sq, rfl, _, rfl, nb, _, 2, _, rfl, rfl, hn.sq, rfl, a, l, i, j, b, rfl, hi, k⟩⟩
    | minRootGap i b =>
      obtain ⟨rfl, rfl⟩ := hq
      exact ⟨_, rfl, rfl, _, rfl, iteF ⟨_, rfl, rfl, _, rfl, iteT ⟨_, rfl, _, rfl, nb, _, 0, _, rfl, rfl, hn.sq, rfl, _, rfl, nb, _, 1, _, rfl, rfl, hn.sq, rfl, a, l, i, b, rfl, hi, k⟩⟩⟩
    | interlacingInterval i j x b =>
      obtain ⟨rfl, rfl⟩ := hq
      exact ⟨_, rfl, rfl, _, rfl, iteF ⟨_, rfl, rfl, _, rfl, iteF ⟨_, rfl, _, rfl, nb, _, 0, _, rfl, rfl, hn.sq, rfl, _, rfl, nb, _, 1, _, rfl, rfl, hn.sq, rfl, _, rfl, nb, _, 2, _, rfl, rfl, hn.sq, rfl, _, rfl, nb, _, 3, _, rfl, rfl, hn.sq, rfl, a, l, i, j, x, b, rfl, hi, k⟩⟩⟩
    | _ => simp [grp] at hg
abbrev sXc : Stmt := topS 105
abbrev NXc : List Str := ["instance", "call", "numbers", "row"]
theorem scXc : FnScope NXc ["instance", "call", "numbers", "row"] (defScope sXc) := ⟨rfl, rfl, rfl, by decide +kernel, rfl, by decide +kernel, by decide +kernel⟩
def GiveC (C : Addr) (H : Hp) (a pl : Addr) (Q : VK) (s : Option (List (List Rat))) (x : Option (List (List Rat)) × Kqg2.Result) : Prop :=
  ∀ (H' : Hp) (pl' r : Addr), InAt C H' a pl' x.1 → (pl' = pl ∨ H pl' = Option.none) → Fr2 a pl H H' → LI H' r (Kqg2Neutral.fields x.2) → (s = none → ∀ c, Els H' pl' c → H c = Option.none) → Q (.ref r) H'
def spXc (C : Addr) : Sp := fun vs H Q _ => ∃ (a pl nb rw' : Addr) (s : Option (List (List Rat))) (c : Int) (ns r : List Int) (q : Kqg2.Request), vs = [.ref a, .int c, .ref nb, .ref rw'] ∧ InAt C H a pl s ∧ LI H nb ns ∧ LI H rw' r ∧ Rq c ns r q ∧ GiveC C H a pl Q s (Kqg2.step s q)
abbrev stoC : List V := [.int 1, .int 2, .int 3, .int 9, .int 10, .int 11, .int 19]
abbrev plaC : List V := [.int 12, .int 13, .int 18]
theorem rq_grp {c : Int} {ns r : List Int} {q : Kqg2.Request} (h : Rq c ns r q) : (c = 0 ∧ q = .create) ∨ (c ≠ 0 ∧ q ≠ .create ∧ ((inV (.int c) stoC = true ∧ grp q = 1) ∨ (inV (.int c) stoC = false ∧ inV (.int c) plaC = true ∧ grp q = 2) ∨ (inV (.int c) stoC = false ∧ inV (.int c) plaC = false ∧ grp q = 3))) := by
  cases q with
  | create => obtain ⟨rfl, _⟩ := h; exact .inl ⟨rfl, rfl⟩
  | setPolynomial => obtain ⟨rfl, _⟩ := h; exact .inr ⟨by decide, by simp, .inl ⟨rfl, rfl⟩⟩
  | setRoots => obtain ⟨rfl, _⟩ := h; exact .inr ⟨by decide, by simp, .inl ⟨rfl, rfl⟩⟩
  | getPolynomial => obtain ⟨rfl, _⟩ := h; exact .inr ⟨by decide, by simp, .inl ⟨rfl, rfl⟩⟩
  | addMultiples => obtain ⟨rfl, _⟩ := h; exact .inr ⟨by decide, by simp, .inl ⟨rfl, rfl⟩⟩
  | subtractMultiples => obtain ⟨rfl, _⟩ := h; exact .inr ⟨by decide, by simp, .inl ⟨rfl, rfl⟩⟩
  | derivative => obtain ⟨rfl, _⟩ := h; exact .inr ⟨by decide, by simp, .inl ⟨rfl, rfl⟩⟩
  | summary => obtain ⟨rfl, _⟩ := h; exact .inr ⟨by decide, by simp, .inl ⟨rfl, rfl⟩⟩
  | firstLargeLead => obtain ⟨rfl, _⟩ := h; exact .inr ⟨by decide, by simp, .inr (.inl ⟨rfl, rfl, rfl⟩)⟩
  | minRootGap => obtain ⟨rfl, _⟩ := h; exact .inr ⟨by decide, by simp, .inr (.inl ⟨rfl, rfl, rfl⟩)⟩
  | interlacingInterval => obtain ⟨rfl, _⟩ := h; exact .inr ⟨by decide, by simp, .inr (.inl ⟨rfl, rfl, rfl⟩)⟩
  | _ => obtain ⟨rfl, _⟩ := h; exact .inr ⟨by decide, by simp, .inr (.inr ⟨rfl, rfl, rfl⟩)⟩
theorem step_none {q : Kqg2.Request} (h : q ≠ .create) : Kqg2.step none q = (none, .value (-11)) := by
  cases q with
  | create => exact absurd rfl h
  | _ => rfl
theorem step_keep {l : List (List Rat)} {q : Kqg2.Request} (h : grp q = 2 ∨ grp q = 3) : (Kqg2.step (some l) q).1 = some l := by
  cases q with
  | create => simp [grp] at h
  | setPolynomial => simp [grp] at h
  | setRoots => simp [grp] at h
  | getPolynomial => simp [grp] at h
  | addMultiples => simp [grp] at h
  | subtractMultiples => simp [grp] at h
  | derivative => simp [grp] at h
  | summary => simp [grp] at h
  | _ => rfl
theorem df_xc {C : Addr} (T : InC K C) (N : Gm mg) (F : Fx K mg "call_answer" sXc) (D_create : Df P w K mg base "create" 2 ["instance"] (spCr C)) (D_is_created : Dm P w K mg base C "is_created" 1 ["self"] (spInK C)) (D_refused : Df P w K mg base "refused" 1 ["code"] spRd)
    (D_storing_answer : Df P w K mg base "storing_answer" 6 ["instance", "call", "numbers", "row"] (spXs C)) (D_placing_answer : Df P w K mg base "placing_answer" 45 ["instance", "call", "numbers"] (spXa C 2))
    (D_asking_answer : Df P w K mg base "asking_answer" 45 ["instance", "call", "numbers"] (spXa C 3)) : Df P w K mg base "call_answer" 46 ["instance", "call", "numbers", "row"] (spXc C) := by
  refine df_of F scXc (fun _ _ _ _ _ _ us hl => match us, hl with | [_, _, _, _], _ => rfl) (fun vs H Q E h => ?_) (fun f cdv A outer s H vs Q E hr h => ?_)
  · obtain ⟨a, pl, nb, rw', st, c, ns, r, q, rfl, _⟩ := h
    rfl
  · obtain ⟨a, pl, nb, rw', st, c, ns, r, q, rfl, hi, hn, hrw, hq, k⟩ := h
    refine ⟨_, (pss_cons (ps_if (pt_cmpR op_eq (pv 1) pe_int (nomark _)) (pss_one (ps_ret (pd D_create (hr.mono (by decide)) (pa_cons (pv 0) pa_nil)))) pss_nil)
      (pss_cons (ps_if (pt_not (pt_val (pm0 D_is_created (hr.mono (by decide)) (pv 0)))) (pss_one (ps_ret (pd D_refused (hr.mono (by decide)) (pa_cons (pe_gl N.NOT_CREATED) pa_nil)))) pss_nil)
      (pss_cons (ps_if (pt_cmpR op_in_seq (pv 1) (pe_tup (pa_cons pe_int (pa_cons pe_int (pa_cons pe_int (pa_cons pe_int (pa_cons pe_int (pa_cons pe_int (pa_cons pe_int pa_nil)))))))) (by rfl)) (pss_one (ps_ret (pd D_storing_answer (hr.mono (by decide)) (pa_cons (pv 0) (pa_cons (pv 1) (pa_cons (pv 2) (pa_cons (pv 3) pa_nil))))))) pss_nil)
      (pss_cons (ps_if (pt_cmpR op_in_seq (pv 1) (pe_tup (pa_cons pe_int (pa_cons pe_int (pa_cons pe_int pa_nil)))) (by rfl)) (pss_one (ps_ret (pd D_placing_answer (hr.mono (by decide)) (pa_cons (pv 0) (pa_cons (pv 1) (pa_cons (pv 2) pa_nil)))))) pss_nil)
      (pss_one (ps_ret (pd D_asking_answer (hr.mono (by decide)) (pa_cons (pv 0) (pa_cons (pv 1) (pa_cons (pv 2) pa_nil)))))))))), ?_⟩
    refine ⟨_, rfl, rfl, _, rfl, ?_⟩
    rcases rq_grp hq with ⟨rfl, rfl⟩ | ⟨c0, qn, g⟩
    · exact iteT ⟨_, rfl, a, pl, st, rfl, hi, fun H' pl' r' h1 h2 h3 h4 h5 => k H' pl' r' h1 (.inr h2) h3 h4 fun _ => h5⟩
    · rw [decide_eq_false (fun z => c0 (V.int.inj z))]
      obtain ⟨dx, h1⟩ := hi.is
      refine iteF ⟨_, rfl, a, dx, _, rfl, h1, rfl, a, pl, st, rfl, hi, _, rfl, ?_⟩
      cases st with
      | none =>
        rw [step_none qn] at k
        refine iteT ⟨11, rfl, fun H2 u s2 hu => k H2 pl u (hi.same s2) (.inl rfl) (.of s2) hu fun _ c hc => ?_⟩
        obtain ⟨as, e1, hm⟩ := hc
        have e2 := (s2 _ _ hi.2).symm.trans e1
        have e3 : as.map V.ref = [] := by
          injection e2 with e2
          injection e2 with e2
          exact e2.symm
        have e4 : as = [] := List.map_eq_nil_iff.mp e3
        rw [e4] at hm
        cases hm
      | some l =>
        have ks : ∀ {H2 : Hp}, Same H H2 → GiveS C H2 a pl Q (Kqg2.step (some l) q).1 (Kqg2Neutral.fields (Kqg2.step (some l) q).2) := fun s2 => GiveS.later (fun H' pl' r' h1 h2 h3 h4 => k H' pl' r' h1 h2 h3 h4 fun z => by cases z) s2
        refine iteF ⟨_, rfl, (by show 7 ≤ sizeLine; decide), fun t ht => ?_⟩
        have s1 := upd_new (o := .tup stoC) ht
        refine ⟨t, stoC, rfl, .inr (SqT.of upd_same), rfl, rfl, _, rfl, ?_⟩
        rcases g with ⟨g1, g2⟩ | ⟨g1, g2, g3⟩ | ⟨g1, g2, g3⟩
        · rw [if_neg Bool.false_ne_true, g1]
          exact iteT ⟨_, rfl, _, rfl, _, rfl, _, rfl, a, pl, nb, rw', l, c, ns, r, q, rfl, hi.same s1, hn.same s1, hrw.same s1, hq, g2, ks s1⟩
        · rw [if_neg Bool.false_ne_true, g1]
          refine iteF ⟨_, rfl, (by show 3 ≤ sizeLine; decide), fun t' ht' => ?_⟩
          have s2 := s1.trans (upd_new (o := .tup plaC) ht')
          refine ⟨t', plaC, rfl, .inr (SqT.of upd_same), rfl, rfl, _, rfl, ?_⟩
          rw [if_neg Bool.false_ne_true, g2]
          have kk := ks s2
          rw [step_keep (.inl g3)] at kk
          exact iteT ⟨_, rfl, _, rfl, _, rfl, a, nb, l, c, ns, r, q, rfl, (hi.same s2).sl, hn.same s2, hq, g3, GiveS.still (hi.same s2) kk⟩
        · rw [if_neg Bool.false_ne_true, g1]
          refine iteF ⟨_, rfl, (by show 3 ≤ sizeLine; decide), fun t' ht' => ?_⟩
          have s2 := s1.trans (upd_new (o := .tup plaC) ht')
          refine ⟨t', plaC, rfl, .inr (SqT.of upd_same), rfl, rfl, _, rfl, ?_⟩
          rw [if_neg Bool.false_ne_true, g2]
          have kk := ks s2
          rw [step_keep (.inr g3)] at kk
          exact iteF ⟨_, rfl, _, rfl, _, rfl, a, nb, l, c, ns, r, q, rfl, (hi.same s2).sl, hn.same s2, hq, g3, GiveS.still (hi.same s2) kk⟩
end
end Il
namespace Il
open PySem PySem.Spec PyProof.Rows L2
def NC : List Int := [0, 2, 2, 1, 1, 2, 2, 2, 0, 5, 5, 2, 3, 2, 2, 3, 4, 2, 4, 0]
abbrev rowC : List V := [.int 1, .int 2]
theorem whole_id (c : List (List Int)) : PyKqg2.whole c = c := by
  unfold PyKqg2.whole
  split <;> rfl
theorem shape_cases {c : Int} {n k : Nat} (h : PyKqg2.shape c = some (n, k)) : ∃ i : Nat, c = i ∧ NC[i]? = some (n : Int) ∧ ((k = 1 ∧ inV (.int c) rowC = true) ∨ (k = 0 ∧ inV (.int c) rowC = false)) := by
  have cs : c = 0 ∨ c = 1 ∨ c = 2 ∨ c = 3 ∨ c = 4 ∨ c = 5 ∨ c = 6 ∨ c = 7 ∨ c = 8 ∨ c = 9 ∨ c = 10 ∨ c = 11 ∨ c = 12 ∨ c = 13 ∨ c = 14 ∨ c = 15 ∨ c = 16 ∨ c = 17 ∨ c = 18 ∨ c = 19 ∨ (c < 0 ∨ 19 < c) := by omega
  rcases cs with rfl | rfl | rfl | rfl | rfl | rfl | rfl | rfl | rfl | rfl | rfl | rfl | rfl | rfl | rfl | rfl | rfl | rfl | rfl | rfl | cs
  · have h : some ((0 : Nat), (0 : Nat)) = some (n, k) := h
    cases h; exact ⟨0, rfl, rfl, .inr ⟨rfl, rfl⟩⟩
  · have h : some ((2 : Nat), (1 : Nat)) = some (n, k) := h
    cases h; exact ⟨1, rfl, rfl, .inl ⟨rfl, rfl⟩⟩
  · have h : some ((2 : Nat), (1 : Nat)) = some (n, k) := h
    cases h; exact ⟨2, rfl, rfl, .inl ⟨rfl, rfl⟩⟩
  · have h : some ((1 : Nat), (0 : Nat)) = some (n, k) := h
    cases h; exact ⟨3, rfl, rfl, .inr ⟨rfl, rfl⟩⟩
  · have h : some ((1 : Nat), (0 : Nat)) = some (n, k) := h
    cases h; exact ⟨4, rfl, rfl, .inr ⟨rfl, rfl⟩⟩
  · have h : some ((2 : Nat), (0 : Nat)) = some (n, k) := h
    cases h; exact ⟨5, rfl, rfl, .inr ⟨rfl, rfl⟩⟩
  · have h : some ((2 : Nat), (0 : Nat)) = some (n, k) := h
    cases h; exact ⟨6, rfl, rfl, .inr ⟨rfl, rfl⟩⟩
  · have h : some ((2 : Nat), (0 : Nat)) = some (n, k) := h
    cases h; exact ⟨7, rfl, rfl, .inr ⟨rfl, rfl⟩⟩
  · have h : some ((0 : Nat), (0 : Nat)) = some (n, k) := h
    cases h; exact ⟨8, rfl, rfl, .inr ⟨rfl, rfl⟩⟩
  · have h : some ((5 : Nat), (0 : Nat)) = some (n, k) := h
    cases h; exact ⟨9, rfl, rfl, .inr ⟨rfl, rfl⟩⟩
  · have h : some ((5 : Nat), (0 : Nat)) = some (n, k) := h
    cases h; exact ⟨10, rfl, rfl, .inr ⟨rfl, rfl⟩⟩
  · have h : some ((2 : Nat), (0 : Nat)) = some (n, k) := h
    cases h; exact ⟨11, rfl, rfl, .inr ⟨rfl, rfl⟩⟩
  · have h : some ((3 : Nat), (0 : Nat)) = some (n, k) := h
    cases h; exact ⟨12, rfl, rfl, .inr ⟨rfl, rfl⟩⟩
  · have h : some ((2 : Nat), (0 : Nat)) = some (n, k) := h
    cases h; exact ⟨13, rfl, rfl, .inr ⟨rfl, rfl⟩⟩
  · have h : some ((2 : Nat), (0 : Nat)) = some (n, k) := h
    cases h; exact ⟨14, rfl, rfl, .inr ⟨rfl, rfl⟩⟩
  · have h : some ((3 : Nat), (0 : Nat)) = some (n, k) := h
    cases h; exact ⟨15, rfl, rfl, .inr ⟨rfl, rfl⟩⟩
  · have h : some ((4 : Nat), (0 : Nat)) = some (n, k) := h
    cases h; exact ⟨16, rfl, rfl, .inr ⟨rfl, rfl⟩⟩
  · have h : some ((2 : Nat), (0 : Nat)) = some (n, k) := h
    cases h; exact ⟨17, rfl, rfl, .inr ⟨rfl, rfl⟩⟩
  · have h : some ((4 : Nat), (0 : Nat)) = some (n, k) := h
    cases h; exact ⟨18, rfl, rfl, .inr ⟨rfl, rfl⟩⟩
  · have h : some ((0 : Nat), (0 : Nat)) = some (n, k) := h
    cases h; exact ⟨19, rfl, rfl, .inr ⟨rfl, rfl⟩⟩
  · unfold PyKqg2.shape at h
    rw [if_neg (by omega), if_neg (by omega), if_neg (by omega), if_neg (by omega), if_neg (by omega), if_neg (by omega), if_neg (by omega), if_neg (by omega), if_neg (by omega), if_neg (by omega),
      if_neg (by omega), if_neg (by omega), if_neg (by omega), if_neg (by omega), if_neg (by omega), if_neg (by omega), if_neg (by omega), if_neg (by omega), if_neg (by omega), if_neg (by omega)] at h
    cases h
theorem nat_of {a : Int} (h : Kqg2Neutral.nat32 a = true) : ((Kqg2Neutral.nat a : Nat) : Int) = a := by
  unfold Kqg2Neutral.nat32 at h
  simp only [Bool.and_eq_true, decide_eq_true_eq] at h
  unfold Kqg2Neutral.nat
  omega
theorem decode_of {cc : List (List Int)} (h : Kqg2Neutral.asked1 cc = true) : ∃ (c : Int) (ns : List Int) (xs : List (List Int)) (q : Kqg2.Request), cc = (c :: ns) :: xs ∧ Kqg2Neutral.requestOf cc = some q ∧ Rq c ns (xs.headD []) q := by
  unfold Kqg2Neutral.asked1 at h
  split at h
  · exact ⟨_, _, _, _, rfl, rfl, rfl, rfl⟩
  · simp only [Bool.and_eq_true] at h
    obtain ⟨⟨h1, h2⟩, h3⟩ := h
    unfold Kqg2Neutral.list32 at h3
    simp only [Bool.and_eq_true, decide_eq_true_eq] at h3
    exact ⟨_, _, _, _, rfl, rfl, rfl, by rw [nat_of h1, nat_of h2], rfl, h3.2⟩
  · simp only [Bool.and_eq_true] at h
    obtain ⟨⟨h1, h2⟩, h3⟩ := h
    unfold Kqg2Neutral.list32 at h3
    simp only [Bool.and_eq_true, decide_eq_true_eq] at h3
    exact ⟨_, _, _, _, rfl, rfl, rfl, by rw [nat_of h1, nat_of h2], rfl, h3.2⟩
  · exact ⟨_, _, _, _, rfl, rfl, rfl, by rw [nat_of h]⟩
  · exact ⟨_, _, _, _, rfl, rfl, rfl, by rw [nat_of h]⟩
  · simp only [Bool.and_eq_true] at h
    exact ⟨_, _, _, _, rfl, rfl, rfl, by rw [nat_of h.1, nat_of h.2]⟩
  · simp only [Bool.and_eq_true] at h
    exact ⟨_, _, _, _, rfl, rfl, rfl, by rw [nat_of h.1, nat_of h.2]⟩
  · simp only [Bool.and_eq_true] at h
    exact ⟨_, _, _, _, rfl, rfl, rfl, by rw [nat_of h.1, nat_of h.2]⟩
  · exact ⟨_, _, _, _, rfl, rfl, rfl, rfl⟩
  · simp only [Bool.and_eq_true] at h
    obtain ⟨⟨⟨⟨h1, h2⟩, h3⟩, h4⟩, h5⟩ := h
    exact ⟨_, _, _, _, rfl, rfl, rfl, by rw [nat_of h1, nat_of h2, nat_of h3, nat_of h4, nat_of h5]⟩
  · simp only [Bool.and_eq_true] at h
    obtain ⟨⟨⟨⟨h1, h2⟩, h3⟩, h4⟩, h5⟩ := h
    exact ⟨_, _, _, _, rfl, rfl, rfl, by rw [nat_of h1, nat_of h2, nat_of h3, nat_of h4, nat_of h5]⟩
  · simp only [Bool.and_eq_true] at h
    exact ⟨_, _, _, _, rfl, rfl, rfl, by rw [nat_of h.1, nat_of h.2]⟩
  · simp only [Bool.and_eq_true] at h
    obtain ⟨⟨h1, h2⟩, h3⟩ := h
    exact ⟨_, _, _, _, rfl, rfl, rfl, by rw [nat_of h1, nat_of h2, nat_of h3]⟩
  · simp only [Bool.and_eq_true] at h
    exact ⟨_, _, _, _, rfl, rfl, rfl, by rw [nat_of h.1, nat_of h.2]⟩
  · simp only [Bool.and_eq_true] at h
    exact ⟨_, _, _, _, rfl, rfl, rfl, by rw [nat_of h.1, nat_of h.2]⟩
  · simp only [Bool.and_eq_true] at h
    obtain ⟨⟨h1, h2⟩, h3⟩ := h
    exact ⟨_, _, _, _, rfl, rfl, rfl, by rw [nat_of h1, nat_of h3]⟩
  · simp only [Bool.and_eq_true] at h
    obtain ⟨⟨⟨h1, h2⟩, h3⟩, h4⟩ := h
    exact ⟨_, _, _, _, rfl, rfl, rfl, by rw [nat_of h1, nat_of h2, nat_of h4]⟩
  · simp only [Bool.and_eq_true] at h
    exact ⟨_, _, _, _, rfl, rfl, rfl, by rw [nat_of h.1, nat_of h.2]⟩
  · simp only [Bool.and_eq_true] at h
    obtain ⟨⟨⟨h1, h2⟩, h3⟩, h4⟩ := h
    exact ⟨_, _, _, _, rfl, rfl, rfl, by rw [nat_of h1, nat_of h2, nat_of h3, nat_of h4]⟩
  · exact ⟨_, _, _, _, rfl, rfl, rfl, rfl⟩
  · cases h
structure Ahead (L : List Int) (p : Nat) (c : Int) (i n : Nat) (ns row : List Int) (p' : Nat) : Prop where
  hc : L[p]? = some c
  hi : c = i
  hn : NC[i]? = some (n : Int)
  hl : p + 1 + n ≤ L.length
  hs : (L.drop (p + 1)).take n = ns
  hr : (inV (.int c) rowC = true ∧ ∃ m : Nat, L[p + 1 + n]? = some (m : Int) ∧ p' = p + 1 + n + 1 + m ∧ p' ≤ L.length ∧ row = (L.drop (p + 1 + n + 1)).take m) ∨ (inV (.int c) rowC = false ∧ p' = p + 1 + n ∧ row = [])
theorem next_call {L : List Int} {p f : Nat} {cs : List (List (List Int))} (hp : p < L.length) (h : PyFlat.calls PyKqg2.shape f (L.drop p) = some cs) (ha : ∀ c ∈ cs, Kqg2Neutral.asked1 c = true) :
    ∃ (c : Int) (i n : Nat) (ns row : List Int) (p' : Nat) (cc : List (List Int)) (cs' : List (List (List Int))) (q : Kqg2.Request) (f' : Nat), Ahead L p c i n ns row p' ∧ cs = cc :: cs' ∧ Kqg2Neutral.requestOf cc = some q ∧ Rq c ns row q ∧
      PyFlat.calls PyKqg2.shape f' (L.drop p') = some cs' ∧ p < p' ∧ p' ≤ L.length := by
  have e : L.drop p = L[p] :: L.drop (p + 1) := List.drop_eq_getElem_cons hp
  rw [e] at h
  generalize hc : L[p] = c at h e
  have hcx : L[p]? = some c := by rw [List.getElem?_eq_getElem hp, hc]
  cases f with
  | zero => rw [PyFlat.calls] at h; cases h
  | succ f =>
    rw [PyFlat.calls] at h
    unfold PyFlat.call at h
    dsimp only at h
    cases es : PyKqg2.shape c with
    | none => rw [es] at h; cases h
    | some nk =>
      obtain ⟨n, k⟩ := nk
      rw [es] at h
      dsimp only at h
      obtain ⟨i, ci, nc, kk⟩ := shape_cases es
      have ldrop : (L.drop (p + 1)).length = L.length - (p + 1) := List.length_drop
      by_cases lt : (L.drop (p + 1)).length < n
      · rw [if_pos lt] at h; cases h
      · rw [if_neg lt] at h
        have ln : p + 1 + n ≤ L.length := by omega
        have dd : (L.drop (p + 1)).drop n = L.drop (p + 1 + n) := List.drop_drop
        rw [dd] at h
        rcases kk with ⟨rfl, rc⟩ | ⟨rfl, rc⟩
        · unfold PyFlat.rows at h
          unfold PyFlat.row at h
          by_cases l2 : p + 1 + n < L.length
          · have e2 : L.drop (p + 1 + n) = L[p + 1 + n] :: L.drop (p + 1 + n + 1) := List.drop_eq_getElem_cons l2
            rw [e2] at h
            generalize hm : L[p + 1 + n] = m at h
            have hmx : L[p + 1 + n]? = some m := by rw [List.getElem?_eq_getElem l2, hm]
            dsimp only at h
            by_cases cm : 0 ≤ m ∧ m.toNat ≤ (L.drop (p + 1 + n + 1)).length
            · rw [if_pos cm] at h
              unfold PyFlat.rows at h
              dsimp only at h
              have d3 : (L.drop (p + 1 + n + 1)).drop m.toNat = L.drop (p + 1 + n + 1 + m.toNat) := List.drop_drop
              rw [d3] at h
              cases ec : PyFlat.calls PyKqg2.shape f (L.drop (p + 1 + n + 1 + m.toNat)) with
              | none => rw [ec] at h; cases h
              | some cs' =>
                rw [ec] at h
                have h := Option.some.inj h
                have l3 : (L.drop (p + 1 + n + 1)).length = L.length - (p + 1 + n + 1) := List.length_drop
                obtain ⟨c', ns', xs', q, ecc, er, hq⟩ := decode_of (ha _ (by rw [← h]; exact List.mem_cons_self))
                have e1 := List.cons.inj ecc
                have e2 := List.cons.inj e1.1
                refine ⟨c, i, n, _, (L.drop (p + 1 + n + 1)).take m.toNat, p + 1 + n + 1 + m.toNat, _, cs', q, f, ⟨hcx, ci, nc, ln, rfl, .inl ⟨rc, m.toNat, by rw [hmx]; congr 1; omega, rfl, by omega, rfl⟩⟩, h.symm, er, ?_, ec, by omega, by omega⟩
                rw [e2.1, e2.2]
                rw [← e1.2] at hq
                exact hq
            · rw [if_neg cm] at h; cases h
          · have e2 : L.drop (p + 1 + n) = [] := List.drop_eq_nil_iff.mpr (by omega)
            rw [e2] at h
            cases h
        · unfold PyFlat.rows at h
          dsimp only at h
          cases ec : PyFlat.calls PyKqg2.shape f (L.drop (p + 1 + n)) with
          | none => rw [ec] at h; cases h
          | some cs' =>
            rw [ec] at h
            have h := Option.some.inj h
            obtain ⟨c', ns', xs', q, ecc, er, hq⟩ := decode_of (ha _ (by rw [← h]; exact List.mem_cons_self))
            have e1 := List.cons.inj ecc
            have e2 := List.cons.inj e1.1
            refine ⟨c, i, n, _, [], p + 1 + n, _, cs', q, f, ⟨hcx, ci, nc, ln, rfl, .inr ⟨rc, rfl, rfl⟩⟩, h.symm, er, ?_, ec, by omega, by omega⟩
            rw [e2.1, e2.2]
            rw [← e1.2] at hq
            exact hq
end Il
namespace Il
open PySem PySem.Spec PyProof.Rows L2
def okR : Kqg2.Result → Prop
  | .value _ => True
  | .values v r => v = 1 → r.length = 0 ∨ r.length = 2
theorem ofTwo_ok {s : Option (List (List Rat))} {l : List (List Rat)} {i j : Nat} {k : List Rat → List Rat → Kqg2.Result} (h : ∀ p q, okR (k p q)) : okR (Kqg2.ofTwo s l i j k).2 := by
  unfold Kqg2.ofTwo
  dsimp only
  split
  · trivial
  · split
    · trivial
    · exact h _ _
theorem poly_ok (p : List Rat) : okR (Kqg2.polynomialResult p) := fun h => by
  have e : p.length = 1 := by have : (p.length : Int) = 1 := h; omega
  right
  match p, e with
  | [x], _ => rfl
theorem store_okR (l : List (List Rat)) (i : Nat) (p : List Rat) : okR (Kqg2.store l i p).2 := by
  unfold Kqg2.store
  split
  · exact poly_ok p
  · trivial
theorem step_okR (l : List (List Rat)) (q : Kqg2.Request) : okR (Kqg2.step (some l) q).2 := by
  cases q with
  | create => trivial
  | setPolynomial i d c =>
    unfold Kqg2.step; dsimp only
    split
    · trivial
    · split
      · trivial
      · exact store_okR _ _ _
  | setRoots i d c =>
    unfold Kqg2.step; dsimp only
    split
    · trivial
    · split
      · trivial
      · exact store_okR _ _ _
  | getPolynomial i =>
    unfold Kqg2.step; dsimp only
    split
    · trivial
    · exact poly_ok _
  | isRealRooted i =>
    unfold Kqg2.step; dsimp only
    split
    · trivial
    · split <;> trivial
  | jointMultiplicities i j =>
    unfold Kqg2.step; dsimp only
    refine ofTwo_ok fun p q => ?_
    generalize Kqg2.jointMultiplicities p q = m
    intro h
    have e : m.length = 1 := by have : (m.length : Int) = 1 := h; omega
    right
    match m, e with
    | [x], _ => rfl
  | interlaces i j => unfold Kqg2.step; dsimp only; exact ofTwo_ok fun p q => trivial
  | haveCommonInterlacing i j => unfold Kqg2.step; dsimp only; exact ofTwo_ok fun p q => trivial
  | allHaveCommonInterlacing =>
    unfold Kqg2.step; dsimp only
    split
    · intro _; left; rfl
    · intro h; cases h
  | addMultiples i a j b t =>
    unfold Kqg2.step; dsimp only
    split
    · trivial
    · split
      · trivial
      · exact store_okR _ _ _
  | subtractMultiples i a j b t =>
    unfold Kqg2.step; dsimp only
    split
    · trivial
    · split
      · trivial
      · exact store_okR _ _ _
  | derivative i j =>
    unfold Kqg2.step; dsimp only
    split
    · trivial
    · exact store_okR _ _ _
  | firstLargeLead i j b =>
    rw [step_fll]
    refine ofTwo_ok fun p q => ?_
    unfold fllR
    split
    · trivial
    · split
      · trivial
      · intro h; cases h
  | minRootGap i b =>
    unfold Kqg2.step; dsimp only
    split
    · trivial
    · split
      · trivial
      · split
        · trivial
        · split
          · trivial
          · intro h; cases h
  | areProportional i j => unfold Kqg2.step; dsimp only; exact ofTwo_ok fun p q => trivial
  | countRootsAbove i n d =>
    unfold Kqg2.step; dsimp only
    split
    · trivial
    · split
      · trivial
      · split <;> trivial
  | leadAbove i j n d =>
    unfold Kqg2.step; dsimp only
    refine ofTwo_ok fun p q => ?_
    split
    · trivial
    · intro h; cases h
  | compareGreatestRoots i j =>
    rw [step_cmp]
    refine ofTwo_ok fun p q => ?_
    unfold grtR
    split <;> trivial
  | interlacingInterval i j k b =>
    unfold Kqg2.step; dsimp only
    refine ofTwo_ok fun p q => ?_
    split
    · trivial
    · split
      · trivial
      · split
        · trivial
        · intro h; cases h
  | summary =>
    intro h
    cases h
theorem fields_pos (r : Kqg2.Result) : 1 ≤ (Kqg2Neutral.fields r).length := by
  cases r with
  | value v => exact Nat.le_refl _
  | values v l => show 1 ≤ l.length + 1; omega
theorem fields_form {r : Kqg2.Result} (h : okR r) : (Kqg2Neutral.fields r)[0]? = some 1 → (Kqg2Neutral.fields r).length = 1 ∨ (Kqg2Neutral.fields r).length = 3 := by
  cases r with
  | value v => intro _; left; rfl
  | values v l =>
    intro e
    have e : v = 1 := Option.some.inj e
    rcases h e with z | z
    · left; show l.length + 1 = 1; omega
    · right; show l.length + 1 = 3; omega
theorem none_len (q : Kqg2.Request) : (Kqg2Neutral.fields (Kqg2.step none q).2).length = 1 := by
  cases q <;> rfl
def GvOk (G : List Int) (s : Option (List (List Rat))) : Prop := (G = [] ∧ s = none) ∨ (G[0]? = some 1 ∧ (G.length = 2 ∨ 4 ≤ G.length))
theorem GvOk.next {G : List Int} {s : Option (List (List Rat))} {q : Kqg2.Request} (h : GvOk G s) : GvOk (G ++ (((Kqg2Neutral.fields (Kqg2.step s q).2).length : Int) :: Kqg2Neutral.fields (Kqg2.step s q).2)) (Kqg2.step s q).1 ∧ Kqg2Neutral.fields (Kqg2.step s q).2 ≠ G := by
  have fp := fields_pos (Kqg2.step s q).2
  rcases h with ⟨rfl, rfl⟩ | ⟨h1, h2⟩
  · have l1 := none_len q
    refine ⟨.inr ⟨?_, .inl ?_⟩, fun z => by rw [z] at fp; cases fp⟩
    · rw [List.nil_append, l1]; rfl
    · rw [List.nil_append, List.length_cons, l1]
  · have gp : 1 ≤ G.length := by omega
    refine ⟨.inr ⟨?_, .inr ?_⟩, fun z => ?_⟩
    · rw [List.getElem?_append_left (by omega)]; exact h1
    · rw [List.length_append, List.length_cons]; omega
    · have k : (Kqg2Neutral.fields (Kqg2.step s q).2).length = 1 ∨ (Kqg2Neutral.fields (Kqg2.step s q).2).length = 3 := by
        cases s with
        | none => exact .inl (none_len q)
        | some l => exact fields_form (step_okR l q) (by rw [z]; exact h1)
      rw [z] at k
      omega
theorem int_ref {G : List Int} {as : List Addr} (h : G.map V.int = as.map V.ref) : G = [] ∧ as = [] := by
  cases G with
  | nil =>
    refine ⟨rfl, ?_⟩
    exact List.map_eq_nil_iff.mp h.symm
  | cons x G =>
    cases as with
    | nil => cases h
    | cons b as => simp at h
theorem InAt.upd {C : Addr} {H : Hp} {a pl g : Addr} {s : Option (List (List Rat))} {G : List Int} {o : HO} (h : InAt C H a pl s) (hg : LI H g G) (n : pl ≠ g) (e : ∀ c, Els H pl c → c ≠ g) : InAt C (upd H g o) a pl s := by
  have na : ∀ {dx fs}, H a = some (.ins C dx fs) → a ≠ g := fun h1 z => by
    rw [z] at h1
    have := h1.symm.trans hg
    cases this
  cases s with
  | none =>
    obtain ⟨⟨dx, h1⟩, h2⟩ := h
    exact ⟨⟨dx, by rw [upd_ne (na h1)]; exact h1⟩, by rw [upd_ne n]; exact h2⟩
  | some l =>
    obtain ⟨⟨dx, h1⟩, ⟨as, hA⟩, ok⟩ := h
    refine ⟨⟨dx, by rw [upd_ne (na h1)]; exact h1⟩, ⟨as, by rw [upd_ne n]; exact hA.lst, hA.len, fun i b x h1 h2 => ?_⟩, ok⟩
    have nb : b ≠ g := e b ⟨as, hA.lst, List.mem_of_getElem? h1⟩
    obtain ⟨bs, hB⟩ := hA.at_ i b x h1 h2
    exact ⟨bs, by rw [upd_ne nb]; exact hB.lst, hB.len, fun j c y g1 g2 => frat_upd (hB.at_ j c y g1 g2) hg⟩
theorem els_ne {C : Addr} {H : Hp} {a pl g : Addr} {s : Option (List (List Rat))} {G : List Int} (h : InAt C H a pl s) (hg : LI H g G) (n : G ≠ []) : ∀ c, Els H pl c → c ≠ g := by
  rintro c ⟨bs, e1, hm⟩ rfl
  cases s with
  | none =>
    have e2 : bs.map V.ref = [] := by
      have := h.2.symm.trans e1
      injection this with this
      injection this with this
      exact this.symm
    rw [List.map_eq_nil_iff.mp e2] at hm
    cases hm
  | some l =>
    obtain ⟨_, ⟨as, hA⟩, _⟩ := h
    have e2 : as.map V.ref = bs.map V.ref := by
      have := hA.lst.symm.trans e1
      injection this with this
      injection this
    have e3 : as = bs := List.map_inj_right (fun _ _ h => V.ref.inj h) |>.mp e2
    rw [← e3] at hm
    obtain ⟨i, hi⟩ := List.getElem?_of_mem hm
    have il := (List.getElem?_eq_some_iff.mp hi).1
    have lb := hA.len
    obtain ⟨cs, hC⟩ := hA.at_ i c _ hi (List.getElem?_eq_getElem (by omega))
    have e4 : G.map V.int = cs.map V.ref := by
      have := (show H c = some (.lst (G.map V.int)) from hg).symm.trans hC.lst
      injection this with this
      injection this
    exact n (int_ref e4).1
theorem li_inj {H : Hp} {a : Addr} {p q : List Int} (h : LI H a p) (k : LI H a q) : p = q := by
  have := (show H a = some (.lst (p.map V.int)) from h).symm.trans k
  injection this with this
  injection this with this
  exact List.map_inj_right (fun _ _ h => V.int.inj h) |>.mp this
theorem played_cons {s : Option (List (List Rat))} {cc : List (List Int)} {cs : List (List (List Int))} {q : Kqg2.Request} (h : Kqg2Neutral.requestOf cc = some q) :
    PyFlat.told (PyFlat.played Kqg2Neutral.step s (cc :: cs)) = (((Kqg2Neutral.fields (Kqg2.step s q).2).length : Int) :: Kqg2Neutral.fields (Kqg2.step s q).2) ++ PyFlat.told (PyFlat.played Kqg2Neutral.step (Kqg2.step s q).1 cs) := by
  have e : Kqg2Neutral.step s cc = ((Kqg2.step s q).1, Kqg2Neutral.fields (Kqg2.step s q).2) := by
    unfold Kqg2Neutral.step
    rw [h]
  rw [PyFlat.played, e]
  rfl
theorem cut_mid (xs : List V) {i j : Nat} (h : i ≤ j) (l : j ≤ xs.length) : cutV xs (some (i : Int)) (some (j : Int)) = (xs.drop i).take (j - i) := by
  unfold cutV
  rw [HT.sIx_nat, HT.sIx_nat, Nat.min_eq_left l, Nat.min_eq_left (Nat.le_trans h l)]
end Il
namespace Il
open PySem PySem.Spec PyProof.Rows L2
theorem pmk0 {X : Cx} {C : Addr} {x : Str} {k : Nat} {ps : List Str} {sp : Sp} {p pos : Pos} (D : Dk X.prog X.w X.K X.mg X.base x C k ps sp) (hr : Room (k + 1) X.A) (hg : Gl X x := by rfl) (hdb : (x == ("__debug__" : Str)) = false := by decide) : PE X (.Call (.Name x p) [] [] pos) (tMake C sp [] E0 tNil) := by
  obtain ⟨f, fd, h1, h2, h3⟩ := D.ex
  exact pe_make0 h1 h3 hr hg D.gl h2 .nil pass0 hdb
structure Tb (K : PySem.W.Frag) (mg : Str → Option Value) (an ar : Addr) : Prop where
  nc : mg "NUMBER_COUNTS" = some (.ref an)
  ns : ∀ H, SqT K H an (NC.map V.int)
  cr : mg "CALLS_WITH_ROW" = some (.ref ar)
  cs : ∀ H, SqT K H ar rowC
section
variable {P : Program} {w : World} {K : PySem.W.Frag} {mg : Str → Option Value} {base : Heap}
abbrev sXx : Stmt := topS 106
abbrev NXx : List Str := ["calls", "instance", "given", "position", "call", "row_start", "numbers", "row", "answer"]
theorem scXx : FnScope NXx ["calls"] (defScope sXx) := ⟨rfl, rfl, rfl, by decide +kernel, rfl, by decide +kernel, by decide +kernel⟩
def spXx (K : PySem.W.Frag) : Sp := fun vs H Q _ => ∃ (ca : Addr) (L : List Int), vs = [.ref ca] ∧ SqL K H ca (L.map V.int) ∧ PyKqg2.answers_asked L = true ∧ GiveL H Q (PyKqg2.answers L)
theorem ok_xx {C an ar f : Addr} {fd : FuncData} (T : Gm mg) (B : Tb K mg an ar) (F : Fun K "answers" "answers" sXx f fd) (D_Instance : Dk P w K mg base "Instance" C 1 ["self"] (spInI C)) (D_call_answer : Df P w K mg base "call_answer" 46 ["instance", "call", "numbers", "row"] (spXc C)) :
    FnOk P w K mg base CX0 47 f fd ["calls"] (spXx K) := by
  refine F.ok scXx (fun vs H Q E h => ?_) (fun cdv A outer s H vs Q E hr h => ?_)
  · obtain ⟨ca, L, rfl, _⟩ := h
    rfl
  · obtain ⟨ca, L, rfl, hL, ask, k⟩ := h
    refine ⟨_, (pss_cons (ps_set (i := 1) scXx.nd rfl (.inl rfl) (pmk0 D_Instance (hr.mono (by decide))))
      (pss_cons (ps_set (i := 2) scXx.nd rfl (.inl rfl) (pe_lst pa_nil))
      (pss_cons (ps_set (i := 3) scXx.nd rfl (.inl rfl) pe_int)
      (pss_cons (ps_while PassesOwn.never (pt_cmpR op_lt (pv 3) (pe_callB (call_lenK K) (by rfl) T.len (by decide +kernel) (pa_cons (pv 0) pa_nil)) (nomark _)) (pss_cons (ps_set (i := 4) scXx.nd rfl (.inl rfl) (pe_ix (ix_listK K) (pv 0) (pv 3) (fun _ _ => rfl)))
      (pss_cons (ps_set (i := 5) scXx.nd rfl (.inl rfl) (pe_op op_add (pe_op op_add (pv 3) pe_int) (pe_ix (ix_tupK K) (pe_glob (v := .ref an) (by rfl) B.nc rfl) (pv 4) (fun _ _ => rfl))))
      (pss_cons (ps_set (i := 6) scXx.nd rfl (.inl rfl) (pe_slice sl_list (pv 0) (po_some (pe_op op_add (pv 3) pe_int)) (po_some (pv 5))))
      (pss_cons (ps_set (i := 7) scXx.nd rfl (.inl rfl) (pe_lst pa_nil))
      (pss_cons (ps_set (i := 3) scXx.nd rfl (.inl rfl) (pv 5))
      (pss_cons (ps_if (pt_cmpR op_in_seq (pv 4) (pe_glob (v := .ref ar) (by rfl) B.cr rfl) (by rfl)) (pss_cons (ps_set (i := 3) scXx.nd rfl (.inl rfl) (pe_op op_add (pe_op op_add (pv 5) pe_int) (pe_ix (ix_listK K) (pv 0) (pv 5) (fun _ _ => rfl))))
      (pss_one (ps_set (i := 7) scXx.nd rfl (.inl rfl) (pe_slice sl_list (pv 0) (po_some (pe_op op_add (pv 5) pe_int)) (po_some (pv 3)))))) pss_nil)
      (pss_cons (ps_set (i := 8) scXx.nd rfl (.inl rfl) (pd D_call_answer (hr.mono (by decide)) (pa_cons (pv 1) (pa_cons (pv 4) (pa_cons (pv 6) (pa_cons (pv 7) pa_nil))))))
      (pss_cons (ps_expr (pe_bm PySem.F.plainAttrs_list PySem.F.slot_list_append PySem.F.type_list_append mt_append (pv 2) (pa_cons (pe_callB (call_lenK K) (by rfl) T.len (by decide +kernel) (pa_cons (pv 8) pa_nil)) pa_nil)))
      (pss_one (ps_expr (pe_bm PySem.F.plainAttrs_list PySem.F.slot_list_extend PySem.F.type_list_extend mt_extend (pv 2) (pa_cons (pv 8) pa_nil)))))))))))))
      (pss_one (ps_ret (pv 2))))))), ?_⟩
    obtain ⟨raw, hraw, hal, short⟩ : ∃ raw, PyFlat.calls PyKqg2.shape L.length L = some raw ∧ (∀ c ∈ raw, Kqg2Neutral.asked1 c = true) ∧ (PyKqg2.answers L).length ≤ 10000000 := by
      unfold PyKqg2.answers_asked at ask
      cases e : PyFlat.calls PyKqg2.shape L.length L with
      | none => rw [e] at ask; cases ask
      | some raw =>
        rw [e] at ask
        simp only [Bool.and_eq_true] at ask
        obtain ⟨⟨_, h2⟩, h3⟩ := ask
        refine ⟨raw, rfl, ?_, ?_⟩
        · unfold Kqg2Neutral.asked at h2
          simp only [Bool.and_eq_true] at h2
          have m : raw.map PyKqg2.whole = raw := Kv.map_self fun c _ => whole_id c
          rw [m] at h2
          exact fun c hc => List.all_eq_true.mp h2.1.2.1 c hc
        · unfold PyFlat.short at h3
          simpa using h3
    have eA : PyKqg2.answers L = PyFlat.told (PyFlat.played Kqg2Neutral.step none raw) := by
      unfold PyKqg2.answers PyKqg2.calls
      rw [hraw]
      have m : raw.map PyKqg2.whole = raw := Kv.map_self fun c _ => whole_id c
      dsimp only
      rw [m]
      rfl
    generalize PyKqg2.answers L = A at k short eA
    refine fun ins dx hins hdx ne => ?_
    have s0 : Same H (upd (upd H dx (.own ins)) ins (.ins C dx [])) := (upd_new hdx).trans (same_own (H := upd H dx (.own ins)) (Same.refl _) (by rw [upd_ne (Ne.symm ne)]; exact hins))
    refine ⟨ins, dx, rfl, upd_same, fun H1 pl h1 n1 b1 => ⟨rfl, ?_⟩⟩
    have s1 : Same H H1 := fun b o e => b1 b o (s0 _ _ e) (ne_of_none e hins)
    have npl : H pl = Option.none := s0.free n1
    refine ⟨Nat.zero_le _, fun gv hgv => ?_⟩
    have s2 := upd_new (o := .lst []) hgv
    have ngv : H gv = Option.none := s1.free hgv
    have gpl : gv ≠ pl := fun e => by
      have := h1.2
      rw [← e, hgv] at this
      cases this
    refine while_w (fun σ H' => Same H H' ∧ ∃ (p f : Nat) (pl : Addr) (G : List Int) (st : Option (List (List Rat))) (cs : List (List (List Int))) (v4 v5 v6 v7 v8 : Option V), σ = [some (.ref ca), some (.ref ins), some (.ref gv), some (.int (p : Int)), v4, v5, v6, v7, v8] ∧ p ≤ L.length ∧ H pl = Option.none ∧ gv ≠ pl ∧
        InAt C H' ins pl st ∧ LI H' gv G ∧ GvOk G st ∧ PyFlat.calls PyKqg2.shape f (L.drop p) = some cs ∧ (∀ c ∈ cs, Kqg2Neutral.asked1 c = true) ∧ A = G ++ PyFlat.told (PyFlat.played Kqg2Neutral.step st cs))
      (fun σ _ => match σ with | [_, _, _, some (.int p), _, _, _, _, _] => L.length - p.toNat | _ => 0)
      ⟨s1.trans s2, 0, L.length, pl, [], none, raw, none, none, none, none, none, rfl, Nat.zero_le _, npl, gpl, h1.same s2, upd_same, .inl ⟨rfl, rfl⟩, hraw, hal, eA⟩ ?_
    rintro σ H2 ⟨sH, p, f, pl, G, st, cs, v4, v5, v6, v7, v8, rfl, pL, npl, gpl, hi, hG, gok, hcs, ha, eG⟩
    have hL2 := sH.seq hL
    refine ⟨_, rfl, _, rfl, ca, _, rfl, ⟨_, .inl hL2, List.length_map _⟩, _, _, rfl, rfl, _, rfl, ?_⟩
    by_cases c0 : p < L.length
    · rw [decide_eq_true (show (p : Int) < (L.length : Int) by omega)]
      obtain ⟨c, i, n, ns, row, p', cc, cs', q, f', A1, rfl, er, hq, hcs', lt1, lt2⟩ := next_call c0 hcs ha
      rw [played_cons er] at eG
      obtain ⟨gn, gne⟩ := gok.next (q := q)
      have gl : G.length + ((Kqg2Neutral.fields (Kqg2.step st q).2).length + 1) ≤ 10000000 := by
        rw [eG] at short
        rw [List.length_append, List.length_append, List.length_cons] at short
        omega
      refine iteT ⟨fun σ' H' => Same H H' ∧ ∃ (pl : Addr) (v4 v5 v6 v7 v8 : Option V), σ' = [some (.ref ca), some (.ref ins), some (.ref gv), some (.int (p' : Int)), v4, v5, v6, v7, v8] ∧ H pl = Option.none ∧ gv ≠ pl ∧
        InAt C H' ins pl (Kqg2.step st q).1 ∧ LI H' gv (G ++ (((Kqg2Neutral.fields (Kqg2.step st q).2).length : Int) :: Kqg2Neutral.fields (Kqg2.step st q).2)), ?_, ?_⟩
      · rintro σ' H' ⟨g0, pl', w4, w5, w6, w7, w8, rfl, g1, g2, g3, g4⟩
        refine ⟨_, ?_, rfl, g0, p', f', pl', _, _, cs', w4, w5, w6, w7, w8, rfl, lt2, g1, g2, g3, g4, gn, hcs', fun c hc => ha c (List.mem_cons_of_mem _ hc), by rw [eG, List.append_assoc]⟩
        show L.length - ((p' : Int)).toNat < L.length - ((p : Int)).toNat
        omega
      ·
        refine ⟨_, rfl, _, rfl, ca, _, _, _, rfl, rfl, hL2, at_of rfl (li_at A1.hc), ?_⟩
        have at_n : atI (NC.map V.int) c = some (V.int (n : Int)) := by rw [A1.hi]; exact at_of rfl (li_at A1.hn)
        refine ⟨_, rfl, _, _, rfl, rfl, _, rfl, an, _, _, _, rfl, rfl, B.ns _, at_n, _, _, rfl, rfl, ?_⟩
        have e1 : (fun i j : Int => V.int (i + j)) ((p : Int) + 1) (n : Int) = V.int ((p + 1 + n : Nat) : Int) := rfl
        rw [e1]
        refine ⟨_, rfl, _, rfl, _, _, rfl, rfl, _, rfl, _, rfl, _, rfl, ca, _, rfl, hL2, fun nb hnb => ?_⟩
        have hcut : cutV (L.map V.int) (some ((p : Int) + 1)) (some ((p + 1 + n : Nat) : Int)) = ns.map V.int := by
          have := cut_mid (L.map V.int) (i := p + 1) (j := p + 1 + n) (by omega) (by rw [List.length_map]; exact A1.hl)
          rw [show ((p + 1 : Nat) : Int) = (p : Int) + 1 from rfl] at this
          rw [this, ← List.map_drop, ← List.map_take, ← A1.hs, show p + 1 + n - (p + 1) = n by omega]
        rw [hcut]
        have t1 := upd_new (o := .lst (ns.map V.int)) hnb
        have hns : LI (upd H2 nb (.lst (ns.map V.int))) nb ns := upd_same
        generalize upd H2 nb (.lst (ns.map V.int)) = H3 at t1 hns
        refine ⟨Nat.zero_le _, fun rw0 hrw0 => ?_⟩
        have t2 := t1.trans (upd_new (o := .lst []) hrw0)
        have hns4 := hns.same (upd_new (o := .lst []) hrw0)
        have hrow0 : LI (upd H3 rw0 (.lst [])) rw0 [] := upd_same
        generalize upd H3 rw0 (.lst []) = H4 at t2 hns4 hrow0
        refine ⟨_, rfl, ?_⟩
        have rest : ∀ (De : Ends) (H5 : Hp) (rwa : Addr) (x5 : Option V), Same H4 H5 → LI H5 rwa row →
            (∀ (σ' : L2.St) (H' : Hp), (Same H H' ∧ ∃ (pl : Addr) (v4 v5 v6 v7 v8 : Option V), σ' = [some (.ref ca), some (.ref ins), some (.ref gv), some (.int (p' : Int)), v4, v5, v6, v7, v8] ∧ H pl = Option.none ∧ gv ≠ pl ∧
              InAt C H' ins pl (Kqg2.step st q).1 ∧ LI H' gv (G ++ (((Kqg2Neutral.fields (Kqg2.step st q).2).length : Int) :: Kqg2Neutral.fields (Kqg2.step st q).2))) → De.nx σ' H') →
            tSeq (tAsg (tCall (spXc C) [] E0 (tCons (tVar 1) (tCons (tVar 4) (tCons (tVar 6) (tCons (tVar 7) tNil))))) (gName 8))
              (tSeq (tDrop (tBM K "list" rAppend (tVar 2) (tCons (tCB (fun xs H Q => ∃ (p : Addr) (n : Nat), xs = [.ref p] ∧ LenAt K H p n ∧ Q (.int n) H) (tCons (tVar 8) tNil)) tNil)))
                (tDrop (tBM K "list" rExtend (tVar 2) (tCons (tVar 8) tNil)))) De
              [some (.ref ca), some (.ref ins), some (.ref gv), some (.int (p' : Int)), some (.int c), x5, some (.ref nb), some (.ref rwa), v8] H5 := fun De H5 rwa x5 t5 hrow fin => by
          have t25 := t2.trans t5
          have hi5 := hi.same t25
          have hG5 := hG.same t25
          refine ⟨_, rfl, _, rfl, _, rfl, _, rfl, ins, pl, nb, rwa, st, c, ns, row, q, rfl, hi5, hns4.same t5, hrow, hq, fun H6 pl' r g1 g2 g3 g4 g5 => ?_⟩
          obtain ⟨dxi, hins5⟩ := hi5.is
          have gins : gv ≠ ins := fun e => by
            rw [← e] at hins5
            have := hins5.symm.trans hG5
            cases this
          have hG6 : LI H6 gv G := g3 gv _ hG5 gins gpl
          have s5 := sH.trans t25
          have s6 : Same H H6 := fun b o e => g3 b o (s5 _ _ e) (ne_of_none e hins) (ne_of_none e npl)
          have npl' : H pl' = Option.none := g2.elim (fun e => by rw [e]; exact npl) fun e => s5.free e
          have gpl' : gv ≠ pl' := g2.elim (fun e => by rw [e]; exact gpl) fun e z => by
            rw [← z] at e
            have := e.symm.trans hG5
            cases this
          have rgv : r ≠ gv := fun e => by
            rw [e] at g4
            exact gne (li_inj g4 hG6)
          have els : ∀ c, Els H6 pl' c → c ≠ gv := by
            rcases gok with ⟨g0, g1'⟩ | ⟨g0, g1'⟩
            · intro c hc e
              have n5 := g5 g1' c hc
              rw [e] at n5
              have := n5.symm.trans hG5
              cases this
            · exact els_ne g1 hG6 fun z => by rw [z] at g0; cases g0
          have fl := fields_pos (Kqg2.step st q).2
          have hr6 : LenAt K H6 r (Kqg2Neutral.fields (Kqg2.step st q).2).length := g4.len
          refine ⟨_, rfl, .inl ⟨rfl, _, hG6.sq⟩, _, rfl, r, _, rfl, hr6, gv, _, _, rfl, rfl, hG6, ?_, ?_⟩
          · rw [List.length_map]
            show G.length < 16777216
            omega
          · have hr7 : LI (upd H6 gv (.lst (G.map V.int ++ [V.int ((Kqg2Neutral.fields (Kqg2.step st q).2).length : Int)]))) r (Kqg2Neutral.fields (Kqg2.step st q).2) := by
              show upd H6 gv _ r = _
              rw [upd_ne rgv]
              exact g4
            refine ⟨_, rfl, .inl ⟨rfl, _, SqL.of upd_same⟩, _, rfl, gv, r, _, _, rfl, rfl, upd_same, hr7, ?_, ?_⟩
            · rw [List.length_append, List.length_map, List.length_map, List.length_singleton]
              show G.length + 1 + _ ≤ 16777216
              omega
            · refine fin _ _ ⟨?_, pl', _, _, _, _, _, rfl, npl', gpl', ?_, ?_⟩
              · rw [upd_upd]
                exact same_own s6 ngv
              · rw [upd_upd]
                exact g1.upd hG6 gpl'.symm els
              · show upd _ gv _ gv = _
                rw [upd_same, List.map_append, List.append_assoc]
                rfl
        refine ⟨_, rfl, ar, rowC, rfl, .inr (B.cs H4), rfl, rfl, _, rfl, ?_⟩
        rw [if_neg Bool.false_ne_true]
        have hL4 := t2.seq hL2
        rcases A1.hr with ⟨rc, m, hm, ep, lp', erow⟩ | ⟨rc, ep, erow⟩
        · rw [rc]
          refine iteT ⟨_, rfl, _, _, rfl, rfl, _, rfl, _, rfl, ca, _, _, _, rfl, rfl, hL4, at_of rfl (li_at hm), _, _, rfl, rfl, ?_⟩
          have e2 : (fun i j : Int => V.int (i + j)) (((p + 1 + n : Nat) : Int) + 1) (m : Int) = V.int (p' : Int) := by rw [ep]; rfl
          rw [e2]
          refine ⟨_, rfl, _, rfl, _, _, rfl, rfl, _, rfl, _, rfl, _, rfl, ca, _, rfl, hL4, fun rwa hrwa => ?_⟩
          have hcut2 : cutV (L.map V.int) (some (((p + 1 + n : Nat) : Int) + 1)) (some (p' : Int)) = row.map V.int := by
            have := cut_mid (L.map V.int) (i := p + 1 + n + 1) (j := p') (by omega) (by rw [List.length_map]; exact lp')
            rw [show ((p + 1 + n + 1 : Nat) : Int) = ((p + 1 + n : Nat) : Int) + 1 from rfl] at this
            rw [this, ← List.map_drop, ← List.map_take, erow, show p' - (p + 1 + n + 1) = m by omega]
          rw [hcut2]
          exact rest _ _ rwa _ (upd_new hrwa) upd_same fun σ' H' h => h
        · rw [rc]
          subst ep erow
          exact iteF (rest _ H4 rw0 _ (Same.refl _) hrow0 fun σ' H' h => h)
    · rw [decide_eq_false (show ¬ (p : Int) < (L.length : Int) by omega)]
      have ed : L.drop p = [] := List.drop_eq_nil_iff.mpr (by omega)
      rw [ed] at hcs
      have ecs : cs = [] := by
        cases f <;> (rw [PyFlat.calls] at hcs; exact (Option.some.inj hcs).symm)
      rw [ecs] at eG
      have eG : A = G := by rw [eG]; show G ++ [] = G; rw [List.append_nil]
      rw [← eG] at hG
      exact iteF ⟨_, rfl, k H2 gv sH hG⟩
end
end Il
namespace Il
open PySem PySem.Spec PyProof.Rows L2
def Sub (K K' : PySem.W.Frag) : Prop := ∀ a o, List.lookup a K = some o → List.lookup a K' = some o
section
variable {K K' : PySem.W.Frag} (S : Sub K K')
include S
theorem ns_mono {a : Addr} {x : Str} {r : Option Value} (h : PySem.W.nsIn K a x = some r) : PySem.W.nsIn K' a x = some r := by
  unfold PySem.W.nsIn at h ⊢
  cases e : List.lookup a K with
  | none => rw [e] at h; cases h
  | some o => rw [e] at h; rw [S _ _ e]; exact h
theorem own_mono {x : Str} {v : Value} {r : Option Value} (h : PySem.W.ownIn K x v = some r) : PySem.W.ownIn K' x v = some r := by
  unfold PySem.W.ownIn at h ⊢
  cases v with
  | ref a =>
    dsimp only at h ⊢
    cases e : List.lookup a K with
    | none => rw [e] at h; cases h
    | some o =>
      rw [e] at h
      rw [S _ _ e]
      obtain ⟨cls, dict, data, slots⟩ := o
      cases data with
      | cls cd => exact ns_mono S h
      | _ => cases h
  | _ => exact h
theorem along_mono {x : Str} : ∀ {l : List Value} {r : Option Value}, PySem.W.alongIn K x l = some r → PySem.W.alongIn K' x l = some r
  | [], r, h => by rw [PySem.W.alongIn.eq_1] at h ⊢; exact h
  | c :: l, r, h => by
    rw [PySem.W.alongIn.eq_2] at h ⊢
    cases e : PySem.W.ownIn K x c with
    | none => rw [e] at h; cases h
    | some u =>
      rw [e] at h
      rw [own_mono S e]
      cases u with
      | none => exact along_mono h
      | some v => exact h
theorem find_mono {x : Str} {v : Value} {r : Option Value} (h : PySem.W.findIn K v x = some r) : PySem.W.findIn K' v x = some r := by
  unfold PySem.W.findIn at h ⊢
  cases v with
  | ref a =>
    dsimp only at h ⊢
    cases e : List.lookup a K with
    | none => rw [e] at h; cases h
    | some o =>
      rw [e] at h
      rw [S _ _ e]
      obtain ⟨cls, dict, data, slots⟩ := o
      cases data with
      | cls cd => exact along_mono S h
      | _ => cases h
  | _ => exact h
theorem type_mono {v r : Value} (h : PySem.W.typeIn K v = some r) : PySem.W.typeIn K' v = some r := by
  unfold PySem.W.typeIn at h ⊢
  cases v with
  | ref a =>
    dsimp only at h ⊢
    cases e : List.lookup a K with
    | none => rw [e] at h; cases h
    | some o => rw [e] at h; rw [S _ _ e]; exact h
  | _ => exact h
theorem special_mono {x : Str} {v : Value} {r : Option Value} (h : PySem.W.specialIn K v x = some r) : PySem.W.specialIn K' v x = some r := by
  unfold PySem.W.specialIn at h ⊢
  cases e : PySem.W.typeIn K v with
  | none => rw [e] at h; cases h
  | some t =>
    rw [e] at h
    rw [type_mono S e]
    exact find_mono S h
theorem fn_mono {v : Value} (h : PySem.W.isFn K v = true) : PySem.W.isFn K' v = true := by
  unfold PySem.W.isFn at h ⊢
  rw [beq_iff_eq] at h ⊢
  exact type_mono S h
theorem code_mono {v : Value} {x : Str} (h : PySem.W.codeIn K v x = true) : PySem.W.codeIn K' v x = true := by
  unfold PySem.W.codeIn at h ⊢
  cases v with
  | ref a =>
    dsimp only at h ⊢
    cases e : List.lookup a K with
    | none => rw [e] at h; cases h
    | some o => rw [e] at h; rw [S _ _ e]; exact h
  | _ => exact h
theorem keep_mono {v : Value} (h : PySem.W.keepIn K v = true) : PySem.W.keepIn K' v = true := by
  unfold PySem.W.keepIn at h ⊢
  cases v with
  | ref a =>
    dsimp only at h ⊢
    cases e : List.lookup a K with
    | none => rw [e] at h; cases h
    | some o =>
      rw [e] at h
      rw [S _ _ e]
      obtain ⟨cls, dict, data, slots⟩ := o
      cases data with
      | cls cd =>
        dsimp only at h ⊢
        rw [beq_iff_eq] at h ⊢
        exact special_mono S h
      | func f => rfl
      | _ => cases h
  | _ => exact h
theorem cls_mono {C : Addr} {cd : ClassData} (h : PySem.W.clsIn K C = some cd) : PySem.W.clsIn K' C = some cd := by
  unfold PySem.W.clsIn at h ⊢
  cases e : List.lookup C K with
  | none => rw [e] at h; cases h
  | some o => rw [e] at h; rw [S _ _ e]; exact h
theorem get_mono {C : Addr} {x : Str} (h : PySem.W.plainGet K C x = true) : PySem.W.plainGet K' C x = true := by
  unfold PySem.W.plainGet at h ⊢
  rw [Bool.and_eq_true, beq_iff_eq, beq_iff_eq] at h ⊢
  exact ⟨find_mono S h.1, find_mono S h.2⟩
theorem dict_mono {C : Addr} (h : PySem.W.hasDictIn K C = true) : PySem.W.hasDictIn K' C = true := by
  unfold PySem.W.hasDictIn at h ⊢
  cases e : PySem.W.clsIn K C with
  | none => rw [e] at h; cases h
  | some cd => rw [e] at h; rw [cls_mono S e]; exact h
theorem over_mono {C : Addr} (h : PySem.W.plainOver K C = true) : PySem.W.plainOver K' C = true := by
  unfold PySem.W.plainOver at h ⊢
  cases e : PySem.W.clsIn K C with
  | none => rw [e] at h; cases h
  | some cd => rw [e] at h; rw [cls_mono S e]; exact h
theorem sub_mono {t b : Value} {r : Bool} (h : PySem.W.subIn K t b = some r) : PySem.W.subIn K' t b = some r := by
  unfold PySem.W.subIn at h ⊢
  cases t with
  | ref a =>
    dsimp only at h ⊢
    unfold PySem.W.mroIn at h ⊢
    cases e : PySem.W.clsIn K a with
    | none => rw [e] at h; cases h
    | some cd => rw [e] at h; rw [cls_mono S e]; exact h
  | _ => exact h
theorem inst_mono {v b : Value} {r : Bool} (h : PySem.W.instIn K v b = some r) : PySem.W.instIn K' v b = some r := by
  unfold PySem.W.instIn at h ⊢
  cases e : PySem.W.typeIn K v with
  | none => rw [e] at h; cases h
  | some t =>
    rw [e] at h
    rw [type_mono S e]
    exact sub_mono S h
theorem makes_mono {C : Addr} (h : PySem.W.makesIn K C = true) : PySem.W.makesIn K' C = true := by
  unfold PySem.W.makesIn at h ⊢
  cases e : List.lookup C K with
  | none => rw [e] at h; cases h
  | some o =>
    rw [e] at h
    rw [S _ _ e]
    obtain ⟨cls, dict, data, slots⟩ := o
    cases data with
    | cls cd =>
      dsimp only at h ⊢
      simp only [Bool.and_eq_true, beq_iff_eq] at h ⊢
      exact ⟨⟨h.1.1, special_mono S h.1.2⟩, inst_mono S h.2⟩
    | _ => cases h
theorem cl_mono {C : Addr} (h : Cls K C) : Cls K' C := ⟨get_mono S h.pg, dict_mono S h.hd, over_mono S h.po, find_mono S h.sa⟩
theorem na_mono {C : Addr} {x : Str} (h : NoAttr K C x) : NoAttr K' C x := find_mono S h
theorem meth_mono {C f : Addr} {m : Str} (h : Meth K C m f) : Meth K' C m f := ⟨find_mono S h.at_, fn_mono S h.fn, keep_mono S h.kp⟩
theorem mk_mono {C f : Addr} (h : Mk K C f) : Mk K' C f := ⟨makes_mono S h.makes, find_mono S h.init, fn_mono S h.fn, keep_mono S h.kp⟩
theorem fun_mono {x q : Str} {st : Stmt} {f : Addr} {fd : FuncData} (h : Fun K x q st f fd) : Fun K' x q st f fd := by
  obtain ⟨oc, od, kV, doc, pm, an, cdv, ct, osl, e1, e2, e3⟩ := h.ex
  exact ⟨⟨oc, od, kV, doc, pm, an, cdv, ct, osl, e1, S _ _ e2, code_mono S e3⟩, keep_mono S h.kp⟩
theorem fx_mono {mg : Str → Option Value} {x : Str} {st : Stmt} (h : Fx K mg x st) : Fx K' mg x st := by
  obtain ⟨f, fd, h1, h2⟩ := h.ex
  exact ⟨f, fd, fun_mono S h1, h2⟩
theorem fxm_mono {C : Addr} {m q : Str} {st : Stmt} (h : FxM K C m q st) : FxM K' C m q st := by
  obtain ⟨f, fd, h1, h2⟩ := h.ex
  exact ⟨f, fd, fun_mono S h1, meth_mono S h2⟩
theorem fxi_mono {C : Addr} {q : Str} {st : Stmt} (h : FxI K C q st) : FxI K' C q st := by
  obtain ⟨f, fd, h1, h2⟩ := h.ex
  exact ⟨f, fd, fun_mono S h1, mk_mono S h2⟩
end
theorem lookup_in {K : PySem.W.Frag} {h : Heap} {a : Addr} {o : Obj} (hK : K.In h) (hg : h.get? a = some o) (hm : a ∈ K.map (·.1)) : List.lookup a K = some o := by
  obtain ⟨⟨b, u⟩, hb, rfl⟩ := List.mem_map.mp hm
  cases e : List.lookup b K with
  | none =>
    have := List.lookup_eq_none_iff.mp e (b, u) hb
    simp at this
  | some u' =>
    have := hK b u' e
    rw [hg] at this
    rw [Option.some.inj this]
theorem lookup_app {K E : PySem.W.Frag} {a : Addr} : List.lookup a (K ++ E) = (List.lookup a K).or (List.lookup a E) := List.lookup_append
theorem seer_part {K : PySem.W.Frag} {h : Heap} (hK : K.In h) (ns : h.NoSeer) : ∃ K' : PySem.W.Frag, Sub K K' ∧ K'.In h ∧ ∀ base : Heap, K'.In base → base.NoSeer := by
  obtain ⟨mc, ⟨o1, es1, ep1, g1, d1, k1, n1⟩, c1, c2⟩ := ns.statics
  obtain ⟨mm, ⟨o2, es2, ep2, g2, d2, k2, n2⟩, m1⟩ := ns.mods
  obtain ⟨mb, ⟨o3, es3, ep3, g3, d3, k3, n3⟩, b1⟩ := ns.imp
  obtain ⟨mg, bm, ob, ⟨o4, es4, ep4, g4, d4, k4, n4⟩, e1, g5, e2, e3⟩ := ns.main
  have hE : ∀ a o, List.lookup a ([(cStatics, o1), (sysModules, o2), (builtinsNs, o3), (mainGlobals, o4), (bm, ob)] : PySem.W.Frag) = some o → h.get? a = some o := fun a o e => by
    simp only [List.lookup_cons, List.lookup_nil] at e
    split at e
    · rename_i q; rw [beq_iff_eq.mp q, g1]; exact e
    · split at e
      · rename_i q; rw [beq_iff_eq.mp q, g2]; exact e
      · split at e
        · rename_i q; rw [beq_iff_eq.mp q, g3]; exact e
        · split at e
          · rename_i q; rw [beq_iff_eq.mp q, g4]; exact e
          · split at e
            · rename_i q; rw [beq_iff_eq.mp q, g5]; exact e
            · cases e
  have hK' : PySem.W.Frag.In (K ++ [(cStatics, o1), (sysModules, o2), (builtinsNs, o3), (mainGlobals, o4), (bm, ob)]) h := fun a o e => by
    rw [lookup_app] at e
    cases q : List.lookup a K with
    | none => rw [q] at e; exact hE a o e
    | some u => rw [q] at e; rw [← Option.some.inj e]; exact hK a u q
  refine ⟨_, fun a o e => by rw [lookup_app, e]; rfl, hK', fun base hb => ?_⟩
  have at_ : ∀ a o, h.get? a = some o → a ∈ ([(cStatics, o1), (sysModules, o2), (builtinsNs, o3), (mainGlobals, o4), (bm, ob)] : PySem.W.Frag).map (·.1) → base.get? a = some o := fun a o g m =>
    hb a o (lookup_in hK' g (by rw [List.map_append]; exact List.mem_append_right _ m))
  exact ⟨⟨mc, ⟨o1, es1, ep1, at_ _ _ g1 (by simp), d1, k1, n1⟩, c1, c2⟩, ⟨mm, ⟨o2, es2, ep2, at_ _ _ g2 (by simp), d2, k2, n2⟩, m1⟩, ⟨mb, ⟨o3, es3, ep3, at_ _ _ g3 (by simp), d3, k3, n3⟩, b1⟩,
    ⟨mg, bm, ob, ⟨o4, es4, ep4, at_ _ _ g4 (by simp), d4, k4, n4⟩, e1, at_ _ _ g5 (by simp), e2, e3⟩⟩
end Il
namespace Il
open PySem PySem.Spec PyProof.Rows L2
structure Txt (K : PySem.W.Frag) (mg : Str → Option Value) (Cs Cr Cj Ci an ar : Addr) : Prop where
  gm : Gm mg
  tb : Tb K mg an ar
  c_Cs : SpanC K Cs
  c_Cr : CrC K Cr
  c_Cj : JtC K Cj
  c_Ci : InC K Ci
  F_f_answers : Fx K mg "answers" sXx
  g_Instance : mg "Instance" = some (.ref Ci)
  F_k_Instance : FxI K Ci "Instance.__init__" sInI
  F_f_call_answer : Fx K mg "call_answer" sXc
  F_f_create : Fx K mg "create" sSc'
  F_m_create : FxM K Ci "create" "Instance.create" sInC
  F_m_is_created : FxM K Ci "is_created" "Instance.is_created" sInK
  F_f_refused : Fx K mg "refused" sRd
  F_f_storing_answer : Fx K mg "storing_answer" sXs
  F_f_set_polynomial : Fx K mg "set_polynomial" sSp
  F_m_lacks_slot : FxM K Ci "lacks_slot" "Instance.lacks_slot" sInL
  F_f_out_of_range : Fx K mg "out_of_range" sOo
  F_f_stored : Fx K mg "stored" sSt
  F_m_store : FxM K Ci "store" "Instance.store" sInS
  F_f_as_numbers : Fx K mg "as_numbers" sAn
  F_f_from_numerators : Fx K mg "from_numerators" sFn
  F_f_lowest_terms : Fx K mg "lowest_terms" sLt
  F_f_greatest_divisor : Fx K mg "greatest_divisor" sGd
  F_f_without_end_zeros : Fx K mg "without_end_zeros" sWe
  F_f_set_roots : Fx K mg "set_roots" sSr'
  F_f_from_roots : Fx K mg "from_roots" sFr
  F_f_get_polynomial : Fx K mg "get_polynomial" sSg
  F_m_polynomial_in : FxM K Ci "polynomial_in" "Instance.polynomial_in" sInP
  F_f_add_multiples : Fx K mg "add_multiples" sSa
  F_f_combination_refusal : Fx K mg "combination_refusal" sCf
  F_f_stored_if_small : Fx K mg "stored_if_small" sSi'
  F_f_is_too_large : Fx K mg "is_too_large" sTl
  F_f_sum_of_multiples : Fx K mg "sum_of_multiples" sSm
  F_f_coefficient_at : Fx K mg "coefficient_at" sCt
  F_f_subtract_multiples : Fx K mg "subtract_multiples" sSb
  F_f_derivative : Fx K mg "derivative" sSd'
  F_f_fraction_derivative : Fx K mg "fraction_derivative" sFd
  F_f_summary : Fx K mg "summary" sSy
  F_f_placing_answer : Fx K mg "placing_answer" sXp
  F_f_first_large_lead : Fx K mg "first_large_lead" sPf
  F_f_bits_refusal : Fx K mg "bits_refusal" sBr
  F_f_slot_refusal : Fx K mg "slot_refusal" sSr
  F_m_is_zero_in : FxM K Ci "is_zero_in" "Instance.is_zero_in" sInZ
  F_f_joint_pairs : Fx K mg "joint_pairs" sJp
  F_f_layer_chains : Fx K mg "layer_chains" sLy
  F_f_root_layers : Fx K mg "root_layers" sRl
  F_f_primitive_part : Fx K mg "primitive_part" sPp
  F_f_degree_of : Fx K mg "degree_of" sDg
  F_f_common_divisor : Fx K mg "common_divisor" sCd
  F_f_remainder_of : Fx K mg "remainder_of" sRm
  F_f_trimmed : Fx K mg "trimmed" sTr
  F_f_shifted_difference : Fx K mg "shifted_difference" sSd
  F_f_derivative_of : Fx K mg "derivative_of" sDv
  F_f_exact_quotient : Fx K mg "exact_quotient" sEq
  F_f_sturm_chain : Fx K mg "sturm_chain" sSc
  g_JointRoots : mg "JointRoots" = some (.ref Cj)
  F_k_JointRoots : FxI K Cj "JointRoots.__init__" sJrI
  F_f_distinct_part : Fx K mg "distinct_part" sDp
  F_f_root_bound : Fx K mg "root_bound" sRb
  F_m_single_spans : FxM K Cj "single_spans" "JointRoots.single_spans" sSs
  F_m_whole_span : FxM K Cj "whole_span" "JointRoots.whole_span" sWs
  F_m_joint_variations : FxM K Cj "joint_variations" "JointRoots.joint_variations" sJv
  F_f_total_variations : Fx K mg "total_variations" sTv
  F_f_variations : Fx K mg "variations" sVa
  F_f_scaled_value : Fx K mg "scaled_value" sSv
  g_Span : mg "Span" = some (.ref Cs)
  F_k_Span : FxI K Cs "Span.__init__" sSpI
  F_m_halves : FxM K Cj "halves" "JointRoots.halves" sHv
  F_m_root_count : FxM K Cs "root_count" "Span.root_count" sSpC
  F_f_count_in_span : Fx K mg "count_in_span" sCi
  F_f_greatest_large_lead : Fx K mg "greatest_large_lead" sGl
  F_f_leads : Fx K mg "leads" sLd
  F_f_joint_root_floor : Fx K mg "joint_root_floor" sJf
  g_CountedRoots : mg "CountedRoots" = some (.ref Cr)
  F_k_CountedRoots : FxI K Cr "CountedRoots.__init__" sCrI
  F_m_count_above : FxM K Cr "count_above" "CountedRoots.count_above" sCa
  F_f_root_floor : Fx K mg "root_floor" sRf
  F_m_count_below : FxM K Cr "count_below" "CountedRoots.count_below" sCb
  F_m_whole_in : FxM K Ci "whole_in" "Instance.whole_in" sInW
  F_f_whole_multiple : Fx K mg "whole_multiple" sWm
  F_f_least_multiple : Fx K mg "least_multiple" sLm
  F_f_min_root_gap : Fx K mg "min_root_gap" sPg
  F_f_distinct_root_floors : Fx K mg "distinct_root_floors" sDf
  F_f_interlacing_interval : Fx K mg "interlacing_interval" sPi
  F_f_commonly_interlaced : Fx K mg "commonly_interlaced" sCo
  F_f_leads_within : Fx K mg "leads_within" sLw
  F_f_real_rooted : Fx K mg "real_rooted" sRr
  F_f_asking_answer : Fx K mg "asking_answer" sXa
  F_f_is_real_rooted : Fx K mg "is_real_rooted" sQr
  F_f_truth_answer : Fx K mg "truth_answer" sTa
  F_f_joint_multiplicities : Fx K mg "joint_multiplicities" sQj
  F_f_interlaces : Fx K mg "interlaces" sQi
  F_f_second_interlaces_first : Fx K mg "second_interlaces_first" sSi
  F_f_have_common_interlacing : Fx K mg "have_common_interlacing" sQh
  F_f_all_have_common_interlacing : Fx K mg "all_have_common_interlacing" sQa
  F_f_are_proportional : Fx K mg "are_proportional" sQp
  F_f_proportional : Fx K mg "proportional" sPr
  F_f_count_roots_above : Fx K mg "count_roots_above" sQc
  F_f_argument_refusal : Fx K mg "argument_refusal" sAr
  F_f_lead_above : Fx K mg "lead_above" sQl
  F_f_compare_greatest_roots : Fx K mg "compare_greatest_roots" sQg
theorem Txt.mono {K K' : PySem.W.Frag} {mg : Str → Option Value} {Cs Cr Cj Ci an ar : Addr} (X : Txt K mg Cs Cr Cj Ci an ar) (S : Sub K K') (tb : Tb K' mg an ar) : Txt K' mg Cs Cr Cj Ci an ar where
  gm := X.gm
  tb := tb
  c_Cs := ⟨cl_mono S X.c_Cs.cl, na_mono S X.c_Cs.low, na_mono S X.c_Cs.high, na_mono S X.c_Cs.scale, na_mono S X.c_Cs.at_low, na_mono S X.c_Cs.at_high⟩
  c_Cr := ⟨cl_mono S X.c_Cr.cl, na_mono S X.c_Cr.chains, na_mono S X.c_Cr.bound, na_mono S X.c_Cr.at_bound, na_mono S X.c_Cr.total⟩
  c_Cj := ⟨cl_mono S X.c_Cj.cl, na_mono S X.c_Cj.chains, na_mono S X.c_Cj.shared_chain, na_mono S X.c_Cj.bound⟩
  c_Ci := ⟨cl_mono S X.c_Ci.cl, na_mono S X.c_Ci.polynomials⟩
  F_f_answers := fx_mono S X.F_f_answers
  g_Instance := X.g_Instance
  F_k_Instance := fxi_mono S X.F_k_Instance
  F_f_call_answer := fx_mono S X.F_f_call_answer
  F_f_create := fx_mono S X.F_f_create
  F_m_create := fxm_mono S X.F_m_create
  F_m_is_created := fxm_mono S X.F_m_is_created
  F_f_refused := fx_mono S X.F_f_refused
  F_f_storing_answer := fx_mono S X.F_f_storing_answer
  F_f_set_polynomial := fx_mono S X.F_f_set_polynomial
  F_m_lacks_slot := fxm_mono S X.F_m_lacks_slot
  F_f_out_of_range := fx_mono S X.F_f_out_of_range
  F_f_stored := fx_mono S X.F_f_stored
  F_m_store := fxm_mono S X.F_m_store
  F_f_as_numbers := fx_mono S X.F_f_as_numbers
  F_f_from_numerators := fx_mono S X.F_f_from_numerators
  F_f_lowest_terms := fx_mono S X.F_f_lowest_terms
  F_f_greatest_divisor := fx_mono S X.F_f_greatest_divisor
  F_f_without_end_zeros := fx_mono S X.F_f_without_end_zeros
  F_f_set_roots := fx_mono S X.F_f_set_roots
  F_f_from_roots := fx_mono S X.F_f_from_roots
  F_f_get_polynomial := fx_mono S X.F_f_get_polynomial
  F_m_polynomial_in := fxm_mono S X.F_m_polynomial_in
  F_f_add_multiples := fx_mono S X.F_f_add_multiples
  F_f_combination_refusal := fx_mono S X.F_f_combination_refusal
  F_f_stored_if_small := fx_mono S X.F_f_stored_if_small
  F_f_is_too_large := fx_mono S X.F_f_is_too_large
  F_f_sum_of_multiples := fx_mono S X.F_f_sum_of_multiples
  F_f_coefficient_at := fx_mono S X.F_f_coefficient_at
  F_f_subtract_multiples := fx_mono S X.F_f_subtract_multiples
  F_f_derivative := fx_mono S X.F_f_derivative
  F_f_fraction_derivative := fx_mono S X.F_f_fraction_derivative
  F_f_summary := fx_mono S X.F_f_summary
  F_f_placing_answer := fx_mono S X.F_f_placing_answer
  F_f_first_large_lead := fx_mono S X.F_f_first_large_lead
  F_f_bits_refusal := fx_mono S X.F_f_bits_refusal
  F_f_slot_refusal := fx_mono S X.F_f_slot_refusal
  F_m_is_zero_in := fxm_mono S X.F_m_is_zero_in
  F_f_joint_pairs := fx_mono S X.F_f_joint_pairs
  F_f_layer_chains := fx_mono S X.F_f_layer_chains
  F_f_root_layers := fx_mono S X.F_f_root_layers
  F_f_primitive_part := fx_mono S X.F_f_primitive_part
  F_f_degree_of := fx_mono S X.F_f_degree_of
  F_f_common_divisor := fx_mono S X.F_f_common_divisor
  F_f_remainder_of := fx_mono S X.F_f_remainder_of
  F_f_trimmed := fx_mono S X.F_f_trimmed
  F_f_shifted_difference := fx_mono S X.F_f_shifted_difference
  F_f_derivative_of := fx_mono S X.F_f_derivative_of
  F_f_exact_quotient := fx_mono S X.F_f_exact_quotient
  F_f_sturm_chain := fx_mono S X.F_f_sturm_chain
  g_JointRoots := X.g_JointRoots
  F_k_JointRoots := fxi_mono S X.F_k_JointRoots
  F_f_distinct_part := fx_mono S X.F_f_distinct_part
  F_f_root_bound := fx_mono S X.F_f_root_bound
  F_m_single_spans := fxm_mono S X.F_m_single_spans
  F_m_whole_span := fxm_mono S X.F_m_whole_span
  F_m_joint_variations := fxm_mono S X.F_m_joint_variations
  F_f_total_variations := fx_mono S X.F_f_total_variations
  F_f_variations := fx_mono S X.F_f_variations
  F_f_scaled_value := fx_mono S X.F_f_scaled_value
  g_Span := X.g_Span
  F_k_Span := fxi_mono S X.F_k_Span
  F_m_halves := fxm_mono S X.F_m_halves
  F_m_root_count := fxm_mono S X.F_m_root_count
  F_f_count_in_span := fx_mono S X.F_f_count_in_span
  F_f_greatest_large_lead := fx_mono S X.F_f_greatest_large_lead
  F_f_leads := fx_mono S X.F_f_leads
  F_f_joint_root_floor := fx_mono S X.F_f_joint_root_floor
  g_CountedRoots := X.g_CountedRoots
  F_k_CountedRoots := fxi_mono S X.F_k_CountedRoots
  F_m_count_above := fxm_mono S X.F_m_count_above
  F_f_root_floor := fx_mono S X.F_f_root_floor
  F_m_count_below := fxm_mono S X.F_m_count_below
  F_m_whole_in := fxm_mono S X.F_m_whole_in
  F_f_whole_multiple := fx_mono S X.F_f_whole_multiple
  F_f_least_multiple := fx_mono S X.F_f_least_multiple
  F_f_min_root_gap := fx_mono S X.F_f_min_root_gap
  F_f_distinct_root_floors := fx_mono S X.F_f_distinct_root_floors
  F_f_interlacing_interval := fx_mono S X.F_f_interlacing_interval
  F_f_commonly_interlaced := fx_mono S X.F_f_commonly_interlaced
  F_f_leads_within := fx_mono S X.F_f_leads_within
  F_f_real_rooted := fx_mono S X.F_f_real_rooted
  F_f_asking_answer := fx_mono S X.F_f_asking_answer
  F_f_is_real_rooted := fx_mono S X.F_f_is_real_rooted
  F_f_truth_answer := fx_mono S X.F_f_truth_answer
  F_f_joint_multiplicities := fx_mono S X.F_f_joint_multiplicities
  F_f_interlaces := fx_mono S X.F_f_interlaces
  F_f_second_interlaces_first := fx_mono S X.F_f_second_interlaces_first
  F_f_have_common_interlacing := fx_mono S X.F_f_have_common_interlacing
  F_f_all_have_common_interlacing := fx_mono S X.F_f_all_have_common_interlacing
  F_f_are_proportional := fx_mono S X.F_f_are_proportional
  F_f_proportional := fx_mono S X.F_f_proportional
  F_f_count_roots_above := fx_mono S X.F_f_count_roots_above
  F_f_argument_refusal := fx_mono S X.F_f_argument_refusal
  F_f_lead_above := fx_mono S X.F_f_lead_above
  F_f_compare_greatest_roots := fx_mono S X.F_f_compare_greatest_roots
theorem ok_answers {P : Program} {w : World} {K : PySem.W.Frag} {mg : Str → Option Value} {base : Heap} {Cs Cr Cj Ci an ar : Addr} {f : Addr} {fd : FuncData} (X : Txt K mg Cs Cr Cj Ci an ar) (F : Fun K "answers" "answers" sXx f fd) (ns : base.NoSeer) (tr : P.given.tree = none) : FnOk P w K mg base CX0 47 f fd ["calls"] (spXx K) := by
  have D_k_Instance := dk_in (P := P) (w := w) (mg := mg) (base := base) X.c_Ci X.g_Instance X.F_k_Instance
  have D_m_create := dm_inc (P := P) (w := w) (mg := mg) (base := base) X.c_Ci X.gm X.F_m_create
  have D_f_create := df_create (P := P) (w := w) (mg := mg) (base := base) X.F_f_create D_m_create
  have D_m_is_created := dm_ink (P := P) (w := w) (mg := mg) (base := base) X.c_Ci X.gm X.F_m_is_created
  have D_f_refused := df_rd (P := P) (w := w) (mg := mg) (base := base) X.F_f_refused
  have D_m_lacks_slot := dm_inl (P := P) (w := w) (mg := mg) (base := base) X.c_Ci X.gm X.F_m_lacks_slot
  have D_f_out_of_range := df_oo (P := P) (w := w) (mg := mg) (base := base) X.gm X.F_f_out_of_range
  have D_m_store := dm_ins (P := P) (w := w) (mg := mg) (base := base) X.c_Ci X.F_m_store
  have D_f_as_numbers := df_an (P := P) (w := w) (mg := mg) (base := base) X.F_f_as_numbers X.gm.toNm
  have D_f_stored := df_st (P := P) (w := w) (mg := mg) (base := base) X.F_f_stored D_m_store D_f_as_numbers
  have D_f_greatest_divisor := df_gd (P := P) (w := w) (mg := mg) (base := base) X.F_f_greatest_divisor X.gm.toNm
  have D_f_lowest_terms := df_lt (P := P) (w := w) (mg := mg) (base := base) X.F_f_lowest_terms D_f_greatest_divisor
  have D_f_without_end_zeros := df_we (P := P) (w := w) (mg := mg) (base := base) X.F_f_without_end_zeros X.gm.toNm
  have D_f_from_numerators := df_fn (P := P) (w := w) (mg := mg) (base := base) X.F_f_from_numerators D_f_lowest_terms D_f_without_end_zeros
  have D_f_set_polynomial := df_sp (P := P) (w := w) (mg := mg) (base := base) X.gm X.F_f_set_polynomial D_m_lacks_slot D_f_refused D_f_out_of_range D_f_stored D_f_from_numerators
  have D_f_from_roots := df_fr (P := P) (w := w) (mg := mg) (base := base) X.F_f_from_roots X.gm.toNm D_f_from_numerators
  have D_f_set_roots := df_srt (P := P) (w := w) (mg := mg) (base := base) X.gm X.F_f_set_roots D_m_lacks_slot D_f_refused D_f_out_of_range D_f_stored D_f_from_roots
  have D_m_polynomial_in := dm_inp (P := P) (w := w) (mg := mg) (base := base) X.c_Ci X.F_m_polynomial_in
  have D_f_get_polynomial := df_sg (P := P) (w := w) (mg := mg) (base := base) X.gm X.F_f_get_polynomial D_m_lacks_slot D_f_refused D_f_as_numbers D_m_polynomial_in
  have D_f_combination_refusal := df_cf (P := P) (w := w) (mg := mg) (base := base) X.gm X.F_f_combination_refusal D_m_lacks_slot D_f_refused
  have D_f_is_too_large := df_tl (P := P) (w := w) (mg := mg) (base := base) X.F_f_is_too_large X.gm.toNm
  have D_f_stored_if_small := df_is (P := P) (w := w) (mg := mg) (base := base) X.gm X.F_f_stored_if_small D_f_is_too_large D_f_refused D_f_stored
  have D_f_coefficient_at := df_ct (P := P) (w := w) (mg := mg) (base := base) X.F_f_coefficient_at X.gm.toNm
  have D_f_sum_of_multiples := df_sm (P := P) (w := w) (mg := mg) (base := base) X.F_f_sum_of_multiples X.gm.toNm D_f_coefficient_at D_f_lowest_terms D_f_without_end_zeros
  have D_f_add_multiples := df_sa (P := P) (w := w) (mg := mg) (base := base) X.gm X.F_f_add_multiples D_f_combination_refusal D_m_polynomial_in D_f_stored_if_small D_f_sum_of_multiples
  have D_f_subtract_multiples := df_sb (P := P) (w := w) (mg := mg) (base := base) X.gm X.F_f_subtract_multiples D_f_combination_refusal D_m_polynomial_in D_f_stored_if_small D_f_sum_of_multiples
  have D_f_fraction_derivative := df_fd (P := P) (w := w) (mg := mg) (base := base) X.F_f_fraction_derivative X.gm.toNm D_f_lowest_terms
  have D_f_derivative := df_der (P := P) (w := w) (mg := mg) (base := base) X.gm X.F_f_derivative D_m_lacks_slot D_f_refused D_m_polynomial_in D_f_stored_if_small D_f_fraction_derivative
  have D_f_summary := df_sy (P := P) (w := w) (mg := mg) (base := base) X.gm X.F_f_summary D_m_polynomial_in
  have D_f_storing_answer := df_xs (P := P) (w := w) (mg := mg) (base := base) X.F_f_storing_answer D_f_set_polynomial D_f_set_roots D_f_get_polynomial D_f_add_multiples D_f_subtract_multiples D_f_derivative D_f_summary
  have D_m_is_zero_in := dm_inz (P := P) (w := w) (mg := mg) (base := base) X.c_Ci X.gm X.F_m_is_zero_in
  have D_f_slot_refusal := df_sr (P := P) (w := w) (mg := mg) (base := base) X.gm X.F_f_slot_refusal D_m_lacks_slot D_m_is_zero_in D_f_refused
  have D_f_bits_refusal := df_br (P := P) (w := w) (mg := mg) (base := base) X.gm X.F_f_bits_refusal D_f_slot_refusal D_f_refused
  have D_f_primitive_part := df_pp (P := P) (w := w) (mg := mg) (base := base) X.F_f_primitive_part ns tr D_f_greatest_divisor
  have D_f_degree_of := df_dg (P := P) (w := w) (mg := mg) (base := base) X.F_f_degree_of X.gm.toNm
  have D_f_trimmed := df_tr (P := P) (w := w) (mg := mg) (base := base) X.F_f_trimmed X.gm.toNm
  have D_f_shifted_difference := df_sd (P := P) (w := w) (mg := mg) (base := base) X.F_f_shifted_difference X.gm.toNm
  have D_f_remainder_of := df_rm (P := P) (w := w) (mg := mg) (base := base) X.F_f_remainder_of X.gm.toNm D_f_trimmed D_f_shifted_difference D_f_primitive_part
  have D_f_common_divisor := df_cd (P := P) (w := w) (mg := mg) (base := base) X.F_f_common_divisor X.gm.toNm D_f_remainder_of D_f_primitive_part
  have D_f_derivative_of := df_dv (P := P) (w := w) (mg := mg) (base := base) X.F_f_derivative_of X.gm.toNm
  have D_f_exact_quotient := df_eq (P := P) (w := w) (mg := mg) (base := base) X.F_f_exact_quotient X.gm.toNm D_f_shifted_difference
  have D_f_root_layers := df_rl (P := P) (w := w) (mg := mg) (base := base) X.F_f_root_layers D_f_primitive_part D_f_degree_of D_f_common_divisor D_f_derivative_of D_f_exact_quotient
  have D_f_sturm_chain := df_sc (P := P) (w := w) (mg := mg) (base := base) X.F_f_sturm_chain X.gm.toNm D_f_derivative_of D_f_remainder_of
  have D_f_layer_chains := df_ly (P := P) (w := w) (mg := mg) (base := base) X.F_f_layer_chains D_f_root_layers D_f_sturm_chain
  have D_f_distinct_part := df_dp (P := P) (w := w) (mg := mg) (base := base) X.F_f_distinct_part X.gm.toNm D_f_root_layers
  have D_f_root_bound := df_rb (P := P) (w := w) (mg := mg) (base := base) X.F_f_root_bound X.gm.toNm
  have D_k_JointRoots := dk_jr (P := P) (w := w) (mg := mg) (base := base) X.c_Cj X.gm.toNm X.g_JointRoots X.F_k_JointRoots D_f_distinct_part D_f_root_bound D_f_sturm_chain D_f_common_divisor
  have D_f_scaled_value := df_sv (P := P) (w := w) (mg := mg) (base := base) X.F_f_scaled_value X.gm.toNm
  have D_f_variations := df_va (P := P) (w := w) (mg := mg) (base := base) X.F_f_variations X.gm.toNm D_f_scaled_value
  have D_f_total_variations := df_tv (P := P) (w := w) (mg := mg) (base := base) X.F_f_total_variations X.gm.toNm D_f_variations
  have D_m_joint_variations := dm_jv (P := P) (w := w) (mg := mg) (base := base) X.c_Cj X.F_m_joint_variations D_f_total_variations D_f_variations
  have D_k_Span := dk_span (P := P) (w := w) (mg := mg) (base := base) X.c_Cs X.g_Span X.F_k_Span
  have D_m_whole_span := dm_ws (P := P) (w := w) (mg := mg) (base := base) X.c_Cj X.F_m_whole_span D_m_joint_variations D_k_Span
  have D_m_halves := dm_hv (P := P) (w := w) (mg := mg) (base := base) X.c_Cj X.c_Cs X.F_m_halves D_m_joint_variations D_k_Span
  have D_m_root_count := dm_root_count (P := P) (w := w) (mg := mg) (base := base) X.c_Cs X.F_m_root_count
  have D_m_single_spans := dm_ss (P := P) (w := w) (mg := mg) (base := base) X.c_Cj X.gm.toNm X.c_Cs X.F_m_single_spans D_m_whole_span D_m_halves D_m_root_count
  have D_f_count_in_span := df_ci (P := P) (w := w) (mg := mg) (base := base) X.F_f_count_in_span X.c_Cs D_f_total_variations
  have D_f_joint_pairs := df_jp (P := P) (w := w) (mg := mg) (base := base) X.F_f_joint_pairs D_f_layer_chains D_k_JointRoots D_m_single_spans D_f_count_in_span
  have D_f_leads := df_ld (P := P) (w := w) (mg := mg) (base := base) X.F_f_leads X.gm.toNm
  have D_f_greatest_large_lead := df_gl (P := P) (w := w) (mg := mg) (base := base) X.F_f_greatest_large_lead X.gm.toNm D_f_leads
  have D_m_count_above := dm_ca (P := P) (w := w) (mg := mg) (base := base) X.c_Cr X.F_m_count_above D_f_total_variations
  have D_k_CountedRoots := dk_cr (P := P) (w := w) (mg := mg) (base := base) X.c_Cr X.g_CountedRoots X.F_k_CountedRoots D_f_layer_chains D_f_root_bound D_f_total_variations D_m_count_above
  have D_m_count_below := dm_cb (P := P) (w := w) (mg := mg) (base := base) X.c_Cr X.F_m_count_below D_f_scaled_value D_m_count_above
  have D_f_root_floor := df_rf (P := P) (w := w) (mg := mg) (base := base) X.c_Cr X.F_f_root_floor D_m_count_below
  have D_f_joint_root_floor := df_jf (P := P) (w := w) (mg := mg) (base := base) X.gm.toNm X.F_f_joint_root_floor D_k_CountedRoots D_f_root_floor
  have D_f_least_multiple := df_lm (P := P) (w := w) (mg := mg) (base := base) X.F_f_least_multiple D_f_greatest_divisor
  have D_f_whole_multiple := df_wm (P := P) (w := w) (mg := mg) (base := base) X.F_f_whole_multiple X.gm.toNm D_f_least_multiple
  have D_m_whole_in := dm_inw (P := P) (w := w) (mg := mg) (base := base) X.c_Ci X.F_m_whole_in D_f_whole_multiple
  have D_f_first_large_lead := df_pf (P := P) (w := w) (mg := mg) (base := base) X.gm X.F_f_first_large_lead D_f_bits_refusal D_f_refused D_f_joint_pairs D_f_greatest_large_lead D_f_joint_root_floor D_m_whole_in
  have D_f_distinct_root_floors := df_df (P := P) (w := w) (mg := mg) (base := base) X.c_Cr X.gm.toNm X.F_f_distinct_root_floors D_f_distinct_part D_k_CountedRoots D_f_root_floor
  have D_f_min_root_gap := df_pg (P := P) (w := w) (mg := mg) (base := base) X.gm X.F_f_min_root_gap D_f_bits_refusal D_f_refused D_f_distinct_root_floors D_m_whole_in
  have D_f_real_rooted := df_rr (P := P) (w := w) (mg := mg) (base := base) X.c_Cr X.F_f_real_rooted D_k_CountedRoots D_f_degree_of
  have D_f_leads_within := df_lw (P := P) (w := w) (mg := mg) (base := base) X.F_f_leads_within X.gm.toNm D_f_real_rooted D_f_leads D_f_joint_pairs
  have D_f_commonly_interlaced := df_co (P := P) (w := w) (mg := mg) (base := base) X.F_f_commonly_interlaced D_f_degree_of D_f_leads_within
  have D_f_interlacing_interval := df_pi (P := P) (w := w) (mg := mg) (base := base) X.gm X.F_f_interlacing_interval D_f_bits_refusal D_f_refused D_f_commonly_interlaced D_f_degree_of D_k_CountedRoots D_f_root_floor D_m_whole_in
  have D_f_placing_answer := df_xp (P := P) (w := w) (mg := mg) (base := base) X.F_f_placing_answer D_f_first_large_lead D_f_min_root_gap D_f_interlacing_interval
  have D_f_truth_answer := df_ta (P := P) (w := w) (mg := mg) (base := base) X.F_f_truth_answer
  have D_f_is_real_rooted := df_qr (P := P) (w := w) (mg := mg) (base := base) X.gm X.F_f_is_real_rooted D_f_slot_refusal D_f_truth_answer D_f_real_rooted D_m_whole_in
  have D_f_joint_multiplicities := df_qj (P := P) (w := w) (mg := mg) (base := base) X.gm X.F_f_joint_multiplicities D_f_slot_refusal D_f_joint_pairs D_m_whole_in
  have D_f_second_interlaces_first := df_si (P := P) (w := w) (mg := mg) (base := base) X.F_f_second_interlaces_first D_f_leads_within
  have D_f_interlaces := df_qi (P := P) (w := w) (mg := mg) (base := base) X.gm X.F_f_interlaces D_f_slot_refusal D_f_truth_answer D_f_second_interlaces_first D_m_whole_in
  have D_f_have_common_interlacing := df_qh (P := P) (w := w) (mg := mg) (base := base) X.gm X.F_f_have_common_interlacing D_f_slot_refusal D_f_truth_answer D_f_commonly_interlaced D_m_whole_in
  have D_f_all_have_common_interlacing := df_qa (P := P) (w := w) (mg := mg) (base := base) X.gm X.F_f_all_have_common_interlacing D_m_is_zero_in D_f_commonly_interlaced D_m_whole_in
  have D_f_proportional := df_pr (P := P) (w := w) (mg := mg) (base := base) X.F_f_proportional X.gm.toNm D_f_degree_of
  have D_f_are_proportional := df_qp (P := P) (w := w) (mg := mg) (base := base) X.gm X.F_f_are_proportional D_f_slot_refusal D_f_truth_answer D_f_proportional D_m_whole_in
  have D_f_argument_refusal := df_ar (P := P) (w := w) (mg := mg) (base := base) X.gm X.F_f_argument_refusal D_f_slot_refusal D_f_refused
  have D_f_count_roots_above := df_qc (P := P) (w := w) (mg := mg) (base := base) X.gm X.F_f_count_roots_above D_f_argument_refusal D_k_CountedRoots D_m_count_above D_m_whole_in
  have D_f_lead_above := df_ql (P := P) (w := w) (mg := mg) (base := base) X.gm X.F_f_lead_above D_f_argument_refusal D_k_CountedRoots D_m_count_above D_m_whole_in
  have D_f_compare_greatest_roots := df_qg (P := P) (w := w) (mg := mg) (base := base) X.gm X.F_f_compare_greatest_roots D_f_slot_refusal D_f_refused D_f_joint_pairs D_m_whole_in
  have D_f_asking_answer := df_xa (P := P) (w := w) (mg := mg) (base := base) X.F_f_asking_answer D_f_is_real_rooted D_f_joint_multiplicities D_f_interlaces D_f_have_common_interlacing D_f_all_have_common_interlacing D_f_are_proportional D_f_count_roots_above D_f_lead_above D_f_compare_greatest_roots
  have D_f_call_answer := df_xc (P := P) (w := w) (mg := mg) (base := base) X.c_Ci X.gm X.F_f_call_answer D_f_create D_m_is_created D_f_refused D_f_storing_answer D_f_placing_answer D_f_asking_answer
  exact ok_xx (P := P) (w := w) (mg := mg) (base := base) X.gm X.tb F D_k_Instance D_f_call_answer
end Il
namespace Il
open PySem PySem.Spec PyProof.Rows L2
abbrev RR : PySem.W.OpenSpec := PySem.Challenge.rw_interlaced_s01_answers
def mkD (p : Str × Option Str) (x q : Str) (st : Stmt) : He.DefD := ⟨p, x, q, defArgs st, defBody st, defScope st, [], []⟩
def looseN0 : List Str := ["greatest_divisor", "least_multiple", "degree_of", "trimmed", "derivative_of", "primitive_part", "shifted_difference", "remainder_of", "exact_quotient", "common_divisor", "scaled_value", "Span", "root_layers", "distinct_part", "sturm_chain", "layer_chains", "variations", "total_variations", "root_bound", "count_in_span", "CountedRoots", "JointRoots", "joint_pairs", "real_rooted", "leads", "greatest_large_lead", "leads_within", "second_interlaces_first"]
def looseN1 : List Str := ["commonly_interlaced", "proportional", "lowest_terms", "without_end_zeros", "from_numerators", "from_roots", "coefficient_at", "sum_of_multiples", "fraction_derivative", "is_too_large", "as_numbers", "whole_multiple", "SLOT_COUNT", "Instance", "NO_SUCH_SLOT", "NOT_CREATED", "OUT_OF_RANGE", "ZERO_POLYNOMIAL", "NO_SUCH_ROOT", "TOO_LARGE", "MOST_BITS", "GREATEST_ARGUMENT_NUMERATOR", "GREATEST_ARGUMENT_DENOMINATOR", "refused", "slot_refusal", "bits_refusal", "argument_refusal", "truth_answer"]
def looseN2 : List Str := ["is_real_rooted", "joint_multiplicities", "interlaces", "have_common_interlacing", "all_have_common_interlacing", "are_proportional", "count_roots_above", "lead_above", "compare_greatest_roots", "root_floor", "distinct_root_floors", "joint_root_floor", "first_large_lead", "min_root_gap", "interlacing_interval", "MOST_COEFFICIENTS", "MOST_ROOTS", "GREATEST_NUMERATOR", "GREATEST_DENOMINATOR", "GREATEST_FACTOR", "create", "stored", "out_of_range", "set_polynomial", "set_roots", "get_polynomial", "stored_if_small", "combination_refusal"]
def looseN3 : List Str := ["add_multiples", "subtract_multiples", "derivative", "summary", "NUMBER_COUNTS", "CALLS_WITH_ROW", "storing_answer", "asking_answer", "placing_answer", "call_answer"]
def looseN : List Str := looseN0 ++ looseN1 ++ looseN2 ++ looseN3
def fns0 : List He.DefD := [mkD ("answers", none) "answers" "answers" sXx, mkD ("Instance", some "__init__") "__init__" "Instance.__init__" sInI, mkD ("call_answer", none) "call_answer" "call_answer" sXc, mkD ("create", none) "create" "create" sSc', mkD ("Instance", some "create") "create" "Instance.create" sInC, mkD ("Instance", some "is_created") "is_created" "Instance.is_created" sInK, mkD ("refused", none) "refused" "refused" sRd, mkD ("storing_answer", none) "storing_answer" "storing_answer" sXs, mkD ("set_polynomial", none) "set_polynomial" "set_polynomial" sSp, mkD ("Instance", some "lacks_slot") "lacks_slot" "Instance.lacks_slot" sInL, mkD ("out_of_range", none) "out_of_range" "out_of_range" sOo, mkD ("stored", none) "stored" "stored" sSt, mkD ("Instance", some "store") "store" "Instance.store" sInS, mkD ("as_numbers", none) "as_numbers" "as_numbers" sAn, mkD ("from_numerators", none) "from_numerators" "from_numerators" sFn, mkD ("lowest_terms", none) "lowest_terms" "lowest_terms" sLt, mkD ("greatest_divisor", none) "greatest_divisor" "greatest_divisor" sGd, mkD ("without_end_zeros", none) "without_end_zeros" "without_end_zeros" sWe, mkD ("set_roots", none) "set_roots" "set_roots" sSr', mkD ("from_roots", none) "from_roots" "from_roots" sFr, mkD ("get_polynomial", none) "get_polynomial" "get_polynomial" sSg, mkD ("Instance", some "polynomial_in") "polynomial_in" "Instance.polynomial_in" sInP, mkD ("add_multiples", none) "add_multiples" "add_multiples" sSa, mkD ("combination_refusal", none) "combination_refusal" "combination_refusal" sCf, mkD ("stored_if_small", none) "stored_if_small" "stored_if_small" sSi', mkD ("is_too_large", none) "is_too_large" "is_too_large" sTl, mkD ("sum_of_multiples", none) "sum_of_multiples" "sum_of_multiples" sSm, mkD ("coefficient_at", none) "coefficient_at" "coefficient_at" sCt]
def fns1 : List He.DefD := [mkD ("subtract_multiples", none) "subtract_multiples" "subtract_multiples" sSb, mkD ("derivative", none) "derivative" "derivative" sSd', mkD ("fraction_derivative", none) "fraction_derivative" "fraction_derivative" sFd, mkD ("summary", none) "summary" "summary" sSy, mkD ("placing_answer", none) "placing_answer" "placing_answer" sXp, mkD ("first_large_lead", none) "first_large_lead" "first_large_lead" sPf, mkD ("bits_refusal", none) "bits_refusal" "bits_refusal" sBr, mkD ("slot_refusal", none) "slot_refusal" "slot_refusal" sSr, mkD ("Instance", some "is_zero_in") "is_zero_in" "Instance.is_zero_in" sInZ, mkD ("joint_pairs", none) "joint_pairs" "joint_pairs" sJp, mkD ("layer_chains", none) "layer_chains" "layer_chains" sLy, mkD ("root_layers", none) "root_layers" "root_layers" sRl, mkD ("primitive_part", none) "primitive_part" "primitive_part" sPp, mkD ("degree_of", none) "degree_of" "degree_of" sDg, mkD ("common_divisor", none) "common_divisor" "common_divisor" sCd, mkD ("remainder_of", none) "remainder_of" "remainder_of" sRm, mkD ("trimmed", none) "trimmed" "trimmed" sTr, mkD ("shifted_difference", none) "shifted_difference" "shifted_difference" sSd, mkD ("derivative_of", none) "derivative_of" "derivative_of" sDv, mkD ("exact_quotient", none) "exact_quotient" "exact_quotient" sEq, mkD ("sturm_chain", none) "sturm_chain" "sturm_chain" sSc, mkD ("JointRoots", some "__init__") "__init__" "JointRoots.__init__" sJrI, mkD ("distinct_part", none) "distinct_part" "distinct_part" sDp, mkD ("root_bound", none) "root_bound" "root_bound" sRb, mkD ("JointRoots", some "single_spans") "single_spans" "JointRoots.single_spans" sSs, mkD ("JointRoots", some "whole_span") "whole_span" "JointRoots.whole_span" sWs, mkD ("JointRoots", some "joint_variations") "joint_variations" "JointRoots.joint_variations" sJv, mkD ("total_variations", none) "total_variations" "total_variations" sTv]
def fns2 : List He.DefD := [mkD ("variations", none) "variations" "variations" sVa, mkD ("scaled_value", none) "scaled_value" "scaled_value" sSv, mkD ("Span", some "__init__") "__init__" "Span.__init__" sSpI, mkD ("JointRoots", some "halves") "halves" "JointRoots.halves" sHv, mkD ("Span", some "root_count") "root_count" "Span.root_count" sSpC, mkD ("count_in_span", none) "count_in_span" "count_in_span" sCi, mkD ("greatest_large_lead", none) "greatest_large_lead" "greatest_large_lead" sGl, mkD ("leads", none) "leads" "leads" sLd, mkD ("joint_root_floor", none) "joint_root_floor" "joint_root_floor" sJf, mkD ("CountedRoots", some "__init__") "__init__" "CountedRoots.__init__" sCrI, mkD ("CountedRoots", some "count_above") "count_above" "CountedRoots.count_above" sCa, mkD ("root_floor", none) "root_floor" "root_floor" sRf, mkD ("CountedRoots", some "count_below") "count_below" "CountedRoots.count_below" sCb, mkD ("Instance", some "whole_in") "whole_in" "Instance.whole_in" sInW, mkD ("whole_multiple", none) "whole_multiple" "whole_multiple" sWm, mkD ("least_multiple", none) "least_multiple" "least_multiple" sLm, mkD ("min_root_gap", none) "min_root_gap" "min_root_gap" sPg, mkD ("distinct_root_floors", none) "distinct_root_floors" "distinct_root_floors" sDf, mkD ("interlacing_interval", none) "interlacing_interval" "interlacing_interval" sPi, mkD ("commonly_interlaced", none) "commonly_interlaced" "commonly_interlaced" sCo, mkD ("leads_within", none) "leads_within" "leads_within" sLw, mkD ("real_rooted", none) "real_rooted" "real_rooted" sRr, mkD ("asking_answer", none) "asking_answer" "asking_answer" sXa, mkD ("is_real_rooted", none) "is_real_rooted" "is_real_rooted" sQr, mkD ("truth_answer", none) "truth_answer" "truth_answer" sTa, mkD ("joint_multiplicities", none) "joint_multiplicities" "joint_multiplicities" sQj, mkD ("interlaces", none) "interlaces" "interlaces" sQi, mkD ("second_interlaces_first", none) "second_interlaces_first" "second_interlaces_first" sSi]
def fns3 : List He.DefD := [mkD ("have_common_interlacing", none) "have_common_interlacing" "have_common_interlacing" sQh, mkD ("all_have_common_interlacing", none) "all_have_common_interlacing" "all_have_common_interlacing" sQa, mkD ("are_proportional", none) "are_proportional" "are_proportional" sQp, mkD ("proportional", none) "proportional" "proportional" sPr, mkD ("count_roots_above", none) "count_roots_above" "count_roots_above" sQc, mkD ("argument_refusal", none) "argument_refusal" "argument_refusal" sAr, mkD ("lead_above", none) "lead_above" "lead_above" sQl, mkD ("compare_greatest_roots", none) "compare_greatest_roots" "compare_greatest_roots" sQg]
def fns : List He.DefD := fns0 ++ (fns1 ++ (fns2 ++ (fns3)))
def fas0 : List He.Fa := [.free "abs", .free "len", .free "range", .free "list", .free "enumerate", .free "reversed", .free "max", .free "min", .free "sum", .free "all", .free "any", .free "zip", .int "SLOT_COUNT" 4, .int "NO_SUCH_SLOT" 2, .int "NOT_CREATED" 11, .int "OUT_OF_RANGE" 22, .int "ZERO_POLYNOMIAL" 33, .int "NO_SUCH_ROOT" 34, .int "TOO_LARGE" 75, .int "MOST_BITS" 20, .int "GREATEST_ARGUMENT_NUMERATOR" 1000000, .int "GREATEST_ARGUMENT_DENOMINATOR" 1000, .int "MOST_COEFFICIENTS" 7, .int "MOST_ROOTS" 6, .int "GREATEST_NUMERATOR" 1000, .int "GREATEST_DENOMINATOR" 1000, .int "GREATEST_FACTOR" 1000, .glo "NUMBER_COUNTS"]
def fas1 : List He.Fa := [.glo "CALLS_WITH_ROW", .cls "Span", .noat "Span" "low", .noat "Span" "high", .noat "Span" "scale", .noat "Span" "at_low", .noat "Span" "at_high", .cls "CountedRoots", .noat "CountedRoots" "chains", .noat "CountedRoots" "bound", .noat "CountedRoots" "at_bound", .noat "CountedRoots" "total", .cls "JointRoots", .noat "JointRoots" "chains", .noat "JointRoots" "shared_chain", .noat "JointRoots" "bound", .cls "Instance", .noat "Instance" "polynomials", .glo "answers", .glo "Instance", .mkr "Instance", .glo "call_answer", .glo "create", .meth "Instance" "create", .meth "Instance" "is_created", .glo "refused", .glo "storing_answer", .glo "set_polynomial"]
def fas2 : List He.Fa := [.meth "Instance" "lacks_slot", .glo "out_of_range", .glo "stored", .meth "Instance" "store", .glo "as_numbers", .glo "from_numerators", .glo "lowest_terms", .glo "greatest_divisor", .glo "without_end_zeros", .glo "set_roots", .glo "from_roots", .glo "get_polynomial", .meth "Instance" "polynomial_in", .glo "add_multiples", .glo "combination_refusal", .glo "stored_if_small", .glo "is_too_large", .glo "sum_of_multiples", .glo "coefficient_at", .glo "subtract_multiples", .glo "derivative", .glo "fraction_derivative", .glo "summary", .glo "placing_answer", .glo "first_large_lead", .glo "bits_refusal", .glo "slot_refusal", .meth "Instance" "is_zero_in"]
def fas3 : List He.Fa := [.glo "joint_pairs", .glo "layer_chains", .glo "root_layers", .glo "primitive_part", .glo "degree_of", .glo "common_divisor", .glo "remainder_of", .glo "trimmed", .glo "shifted_difference", .glo "derivative_of", .glo "exact_quotient", .glo "sturm_chain", .glo "JointRoots", .mkr "JointRoots", .glo "distinct_part", .glo "root_bound", .meth "JointRoots" "single_spans", .meth "JointRoots" "whole_span", .meth "JointRoots" "joint_variations", .glo "total_variations", .glo "variations", .glo "scaled_value", .glo "Span", .mkr "Span", .meth "JointRoots" "halves", .meth "Span" "root_count", .glo "count_in_span", .glo "greatest_large_lead"]
def fas4 : List He.Fa := [.glo "leads", .glo "joint_root_floor", .glo "CountedRoots", .mkr "CountedRoots", .meth "CountedRoots" "count_above", .glo "root_floor", .meth "CountedRoots" "count_below", .meth "Instance" "whole_in", .glo "whole_multiple", .glo "least_multiple", .glo "min_root_gap", .glo "distinct_root_floors", .glo "interlacing_interval", .glo "commonly_interlaced", .glo "leads_within", .glo "real_rooted", .glo "asking_answer", .glo "is_real_rooted", .glo "truth_answer", .glo "joint_multiplicities", .glo "interlaces", .glo "second_interlaces_first", .glo "have_common_interlacing", .glo "all_have_common_interlacing", .glo "are_proportional", .glo "proportional", .glo "count_roots_above", .glo "argument_refusal"]
def fas5 : List He.Fa := [.glo "lead_above", .glo "compare_greatest_roots"]
def fas : List He.Fa := fas0 ++ (fas1 ++ (fas2 ++ (fas3 ++ (fas4 ++ (fas5)))))
abbrev qv : Program := PySem.W.view RR.prog [106]
abbrev dAns : PySem.DefRec := HandSHeadRun.topDef RR.prog 106
def places0 : List Addr := [3, 622, 623, 109, 188, 237, 409, 108, 187, 236, 408, 658, 361, 651, 548, 366, 373, 420, 630, 567, 378, 560, 555, 406, 342, 306, 294, 21]
def places1 : List Addr := [301, 574, 311, 581, 385, 602, 595, 588, 335, 325, 318, 609, 616, 330, 621, 644, 531, 432, 425, 392, 246, 137, 120, 52, 35, 78, 64, 42]
def places2 : List Addr := [59, 47, 71, 132, 206, 127, 152, 234, 220, 213, 147, 142, 85, 99, 227, 106, 159, 263, 258, 524, 173, 180, 514, 185, 399, 347, 28, 536]
def places3 : List Addr := [519, 541, 282, 268, 253, 637, 453, 446, 460, 467, 275, 474, 479, 486, 287, 493, 439, 500, 507, 657, 360, 650, 547, 365, 372, 419, 629, 566]
def places4 : List Addr := [377, 559, 554, 405, 341, 305, 293, 20, 300, 573, 310, 580, 384, 601, 594, 587, 334, 324, 317, 608, 615, 329, 620, 643, 530, 431, 424, 391]
def places5 : List Addr := [245, 136, 119, 51, 34, 77, 63, 41, 58, 46, 70, 131, 205, 126, 151, 233, 219, 212, 146, 141, 84, 98, 226, 105, 158, 262, 257, 523]
def places6 : List Addr := [172, 179, 513, 184, 398, 346, 27, 535, 518, 540, 281, 267, 252, 636, 452, 445, 459, 466, 274, 473, 478, 485, 286, 492, 438, 499, 506]
def places : List Addr := places0 ++ (places1 ++ (places2 ++ (places3 ++ (places4 ++ (places5 ++ (places6))))))
def tabs (K : PySem.W.Frag) : Bool := He.tupB K "NUMBER_COUNTS" (NC.map He.Dv.int) && He.tupB K "CALLS_WITH_ROW" [.int 1, .int 2]
def seenK (K : PySem.W.Frag) : He.AlD × Bool := (He.obsD fas fns K, tabs K)
def seenG (g : Addr → Option Obj) : He.AlD × Bool := seenK (He.frG g places)
def hk : PySem.W.Hook where
  α := He.AlD × Bool
  obs := fun s => seenG s.heap.get?
  val := fun _ => (He.valD fns, true)
  says := fun _ h => ∃ K : PySem.W.Frag, K.In h ∧ He.SaysD fas fns K ∧ tabs K = true
  of := fun _ _ e => ⟨_, He.frG_in, congrArg Prod.fst e, congrArg Prod.snd e⟩
  keeps := fun _ _ _ ⟨K, hK, c, t⟩ k => ⟨K, PySem.W.Frag.In.keeps hK k, c, t⟩
def obK (s : PySem.W.SharedT) : He.AlD × Bool := seenG (HandSHeadRun.getT s)
theorem obK_eq (s : PySem.W.SharedT) : obK s = hk.obs s.abs := by
  have e : HandSHeadRun.getT s = s.abs.heap.get? := funext (HandSHeadRun.getT_eq s)
  unfold obK
  rw [e]
  rfl
section
variable {K : PySem.W.Frag} {h : Heap} {mg : Str → Option Value}
theorem tab_kept {K' : PySem.W.Frag} {H : Hp} {a : Addr} {xs : List V} (S : Sub K K') (q : SqT K H a xs) : SqT K' H a xs := by
  rcases q with q | ⟨o, its, n, e, r⟩
  · exact .inl q
  · exact .inr ⟨o, its, n, S _ _ e, r⟩
theorem tb_kept {K' : PySem.W.Frag} {an ar : Addr} (S : Sub K K') (B : Tb K mg an ar) : Tb K' mg an ar := ⟨B.nc, fun H => tab_kept S (B.ns H), B.cr, fun H => tab_kept S (B.cs H)⟩
theorem tb_nc (t : tabs K = true) (H : Hp) : SqT K H (He.ga K "NUMBER_COUNTS") (NC.map V.int) := by
  have q := He.tupB_ok (He.ba t).1 H
  rw [List.map_map] at q
  exact q
theorem tb_cr (t : tabs K = true) (H : Hp) : SqT K H (He.ga K "CALLS_WITH_ROW") rowC := He.tupB_ok (He.ba t).2 H
theorem fun_of {x q : Str} {st : Stmt} {f : Addr} {fd : FuncData} (F : FunD K x q (defArgs st) (defBody st) (defScope st) [] [] f fd) : Fun K x q st f fd := by
  obtain ⟨⟨oc, od, dV, kV, doc, pm, an, cdv, ct, osl, e1, e2, e3, e4, _⟩, kp⟩ := F
  rcases e4 with ⟨_, e4⟩ | ⟨e4, _⟩
  · subst e4
    exact ⟨⟨oc, od, kV, doc, pm, an, cdv, ct, osl, e1, e2, e3⟩, kp⟩
  · exact absurd rfl e4
theorem fx_of {x : Str} {st : Stmt} (KX : K.In h) (G : h.Ns mainGlobals mg) (c : He.SaysD fas fns K) (i : Nat) (e : fns[i]? = some (mkD (x, none) x x st)) (g : (He.Fa.glo x).ok K = true) : Fx K mg x st := by
  obtain ⟨fd, F⟩ := c.def_ i e
  exact ⟨_, fd, fun_of F, He.glo_ok KX G g⟩
theorem fxm_of {C m q : Str} {st : Stmt} (c : He.SaysD fas fns K) (i : Nat) (e : fns[i]? = some (mkD (C, some m) m q st)) (g : (He.Fa.meth C m).ok K = true) : FxM K (He.ga K C) m q st := by
  obtain ⟨fd, F⟩ := c.def_ i e
  exact ⟨_, fd, fun_of F, He.meth_ok g⟩
theorem fxi_of {C q : Str} {st : Stmt} (c : He.SaysD fas fns K) (i : Nat) (e : fns[i]? = some (mkD (C, some "__init__") "__init__" q st)) (g : (He.Fa.mkr C).ok K = true) : FxI K (He.ga K C) q st := by
  obtain ⟨fd, F⟩ := c.def_ i e
  exact ⟨_, fd, fun_of F, He.mkr_ok g⟩
theorem txt_of (KX : K.In h) (G : h.Ns mainGlobals mg) (c : He.SaysD fas fns K) (ct : tabs K = true) : Txt K mg (He.ga K "Span") (He.ga K "CountedRoots") (He.ga K "JointRoots") (He.ga K "Instance") (He.ga K "NUMBER_COUNTS") (He.ga K "CALLS_WITH_ROW") where
  gm := ⟨⟨He.free_ok KX G (c.fact 0), He.free_ok KX G (c.fact 1), He.free_ok KX G (c.fact 2), He.free_ok KX G (c.fact 3), He.free_ok KX G (c.fact 4), He.free_ok KX G (c.fact 5), He.free_ok KX G (c.fact 6), He.free_ok KX G (c.fact 7), He.free_ok KX G (c.fact 8), He.free_ok KX G (c.fact 9), He.free_ok KX G (c.fact 10), He.free_ok KX G (c.fact 11)⟩, He.int_ok KX G (c.fact 12), He.int_ok KX G (c.fact 13), He.int_ok KX G (c.fact 14), He.int_ok KX G (c.fact 15), He.int_ok KX G (c.fact 16), He.int_ok KX G (c.fact 17), He.int_ok KX G (c.fact 18), He.int_ok KX G (c.fact 19), He.int_ok KX G (c.fact 20), He.int_ok KX G (c.fact 21), He.int_ok KX G (c.fact 22), He.int_ok KX G (c.fact 23), He.int_ok KX G (c.fact 24), He.int_ok KX G (c.fact 25), He.int_ok KX G (c.fact 26)⟩
  tb := ⟨He.glo_ok KX G (c.fact 27), tb_nc ct, He.glo_ok KX G (c.fact 28), tb_cr ct⟩
  c_Cs := ⟨He.cls_ok (c.fact 29), He.noat_ok (c.fact 30), He.noat_ok (c.fact 31), He.noat_ok (c.fact 32), He.noat_ok (c.fact 33), He.noat_ok (c.fact 34)⟩
  c_Cr := ⟨He.cls_ok (c.fact 35), He.noat_ok (c.fact 36), He.noat_ok (c.fact 37), He.noat_ok (c.fact 38), He.noat_ok (c.fact 39)⟩
  c_Cj := ⟨He.cls_ok (c.fact 40), He.noat_ok (c.fact 41), He.noat_ok (c.fact 42), He.noat_ok (c.fact 43)⟩
  c_Ci := ⟨He.cls_ok (c.fact 44), He.noat_ok (c.fact 45)⟩
  F_f_answers := fx_of KX G c 0 rfl (c.fact 46)
  g_Instance := He.glo_ok KX G (c.fact 47)
  F_k_Instance := fxi_of c 1 rfl (c.fact 48)
  F_f_call_answer := fx_of KX G c 2 rfl (c.fact 49)
  F_f_create := fx_of KX G c 3 rfl (c.fact 50)
  F_m_create := fxm_of c 4 rfl (c.fact 51)
  F_m_is_created := fxm_of c 5 rfl (c.fact 52)
  F_f_refused := fx_of KX G c 6 rfl (c.fact 53)
  F_f_storing_answer := fx_of KX G c 7 rfl (c.fact 54)
  F_f_set_polynomial := fx_of KX G c 8 rfl (c.fact 55)
  F_m_lacks_slot := fxm_of c 9 rfl (c.fact 56)
  F_f_out_of_range := fx_of KX G c 10 rfl (c.fact 57)
  F_f_stored := fx_of KX G c 11 rfl (c.fact 58)
  F_m_store := fxm_of c 12 rfl (c.fact 59)
  F_f_as_numbers := fx_of KX G c 13 rfl (c.fact 60)
  F_f_from_numerators := fx_of KX G c 14 rfl (c.fact 61)
  F_f_lowest_terms := fx_of KX G c 15 rfl (c.fact 62)
  F_f_greatest_divisor := fx_of KX G c 16 rfl (c.fact 63)
  F_f_without_end_zeros := fx_of KX G c 17 rfl (c.fact 64)
  F_f_set_roots := fx_of KX G c 18 rfl (c.fact 65)
  F_f_from_roots := fx_of KX G c 19 rfl (c.fact 66)
  F_f_get_polynomial := fx_of KX G c 20 rfl (c.fact 67)
  F_m_polynomial_in := fxm_of c 21 rfl (c.fact 68)
  F_f_add_multiples := fx_of KX G c 22 rfl (c.fact 69)
  F_f_combination_refusal := fx_of KX G c 23 rfl (c.fact 70)
  F_f_stored_if_small := fx_of KX G c 24 rfl (c.fact 71)
  F_f_is_too_large := fx_of KX G c 25 rfl (c.fact 72)
  F_f_sum_of_multiples := fx_of KX G c 26 rfl (c.fact 73)
  F_f_coefficient_at := fx_of KX G c 27 rfl (c.fact 74)
  F_f_subtract_multiples := fx_of KX G c 28 rfl (c.fact 75)
  F_f_derivative := fx_of KX G c 29 rfl (c.fact 76)
  F_f_fraction_derivative := fx_of KX G c 30 rfl (c.fact 77)
  F_f_summary := fx_of KX G c 31 rfl (c.fact 78)
  F_f_placing_answer := fx_of KX G c 32 rfl (c.fact 79)
  F_f_first_large_lead := fx_of KX G c 33 rfl (c.fact 80)
  F_f_bits_refusal := fx_of KX G c 34 rfl (c.fact 81)
  F_f_slot_refusal := fx_of KX G c 35 rfl (c.fact 82)
  F_m_is_zero_in := fxm_of c 36 rfl (c.fact 83)
  F_f_joint_pairs := fx_of KX G c 37 rfl (c.fact 84)
  F_f_layer_chains := fx_of KX G c 38 rfl (c.fact 85)
  F_f_root_layers := fx_of KX G c 39 rfl (c.fact 86)
  F_f_primitive_part := fx_of KX G c 40 rfl (c.fact 87)
  F_f_degree_of := fx_of KX G c 41 rfl (c.fact 88)
  F_f_common_divisor := fx_of KX G c 42 rfl (c.fact 89)
  F_f_remainder_of := fx_of KX G c 43 rfl (c.fact 90)
  F_f_trimmed := fx_of KX G c 44 rfl (c.fact 91)
  F_f_shifted_difference := fx_of KX G c 45 rfl (c.fact 92)
  F_f_derivative_of := fx_of KX G c 46 rfl (c.fact 93)
  F_f_exact_quotient := fx_of KX G c 47 rfl (c.fact 94)
  F_f_sturm_chain := fx_of KX G c 48 rfl (c.fact 95)
  g_JointRoots := He.glo_ok KX G (c.fact 96)
  F_k_JointRoots := fxi_of c 49 rfl (c.fact 97)
  F_f_distinct_part := fx_of KX G c 50 rfl (c.fact 98)
  F_f_root_bound := fx_of KX G c 51 rfl (c.fact 99)
  F_m_single_spans := fxm_of c 52 rfl (c.fact 100)
  F_m_whole_span := fxm_of c 53 rfl (c.fact 101)
  F_m_joint_variations := fxm_of c 54 rfl (c.fact 102)
  F_f_total_variations := fx_of KX G c 55 rfl (c.fact 103)
  F_f_variations := fx_of KX G c 56 rfl (c.fact 104)
  F_f_scaled_value := fx_of KX G c 57 rfl (c.fact 105)
  g_Span := He.glo_ok KX G (c.fact 106)
  F_k_Span := fxi_of c 58 rfl (c.fact 107)
  F_m_halves := fxm_of c 59 rfl (c.fact 108)
  F_m_root_count := fxm_of c 60 rfl (c.fact 109)
  F_f_count_in_span := fx_of KX G c 61 rfl (c.fact 110)
  F_f_greatest_large_lead := fx_of KX G c 62 rfl (c.fact 111)
  F_f_leads := fx_of KX G c 63 rfl (c.fact 112)
  F_f_joint_root_floor := fx_of KX G c 64 rfl (c.fact 113)
  g_CountedRoots := He.glo_ok KX G (c.fact 114)
  F_k_CountedRoots := fxi_of c 65 rfl (c.fact 115)
  F_m_count_above := fxm_of c 66 rfl (c.fact 116)
  F_f_root_floor := fx_of KX G c 67 rfl (c.fact 117)
  F_m_count_below := fxm_of c 68 rfl (c.fact 118)
  F_m_whole_in := fxm_of c 69 rfl (c.fact 119)
  F_f_whole_multiple := fx_of KX G c 70 rfl (c.fact 120)
  F_f_least_multiple := fx_of KX G c 71 rfl (c.fact 121)
  F_f_min_root_gap := fx_of KX G c 72 rfl (c.fact 122)
  F_f_distinct_root_floors := fx_of KX G c 73 rfl (c.fact 123)
  F_f_interlacing_interval := fx_of KX G c 74 rfl (c.fact 124)
  F_f_commonly_interlaced := fx_of KX G c 75 rfl (c.fact 125)
  F_f_leads_within := fx_of KX G c 76 rfl (c.fact 126)
  F_f_real_rooted := fx_of KX G c 77 rfl (c.fact 127)
  F_f_asking_answer := fx_of KX G c 78 rfl (c.fact 128)
  F_f_is_real_rooted := fx_of KX G c 79 rfl (c.fact 129)
  F_f_truth_answer := fx_of KX G c 80 rfl (c.fact 130)
  F_f_joint_multiplicities := fx_of KX G c 81 rfl (c.fact 131)
  F_f_interlaces := fx_of KX G c 82 rfl (c.fact 132)
  F_f_second_interlaces_first := fx_of KX G c 83 rfl (c.fact 133)
  F_f_have_common_interlacing := fx_of KX G c 84 rfl (c.fact 134)
  F_f_all_have_common_interlacing := fx_of KX G c 85 rfl (c.fact 135)
  F_f_are_proportional := fx_of KX G c 86 rfl (c.fact 136)
  F_f_proportional := fx_of KX G c 87 rfl (c.fact 137)
  F_f_count_roots_above := fx_of KX G c 88 rfl (c.fact 138)
  F_f_argument_refusal := fx_of KX G c 89 rfl (c.fact 139)
  F_f_lead_above := fx_of KX G c 90 rfl (c.fact 140)
  F_f_compare_greatest_roots := fx_of KX G c 91 rfl (c.fact 141)
end
end Il
namespace Il
open PySem PySem.W PySem.Calls PyProof.Rows
theorem two_looks {A B C D : Type} {o : Option A} {f : A → B} {g : A → C} {h : A → D} {b : B} {c : C} {d : D} (x : o.map (fun s => (f s, g s)) = some (b, c)) (y : o.map h = some d) : o.map (fun s => (f s, g s, h s)) = some (b, c, d) := by
  cases o with
  | none => cases x
  | some s =>
    have x1 : (f s, g s) = (b, c) := Option.some.inj x
    have y1 : h s = d := Option.some.inj y
    obtain ⟨rfl, rfl⟩ := Prod.mk.inj x1
    subst y1
    rfl
theorem ranA (w : World) (os : OsState) : (HandSHeadRun.endF (HandSHeadRun.stepQ (HandSHeadRun.denQ HandSHeadRun.tabQ) RR.prog w) 6000 RR.prog w os).map (fun s => (HandSHeadRun.looksF RR.prog (boot_heap w.params) s.abs, HandSHeadRun.seenQ qv looseN (importedModules RR.prog.main.body) (fun s => xlAt qv [] s && recOk [] s) s.abs)) = some (true, openGood qv looseN) := by
  kernel_rfl
theorem ranB (w : World) (os : OsState) : (HandSHeadRun.endF (HandSHeadRun.stepQ (HandSHeadRun.denQ HandSHeadRun.tabQ) RR.prog w) 6000 RR.prog w os).map obK = some (hk.val w) := by
  kernel_rfl
theorem ran (w : World) : HandSHeadRun.RunEqS RR qv hk obK 6000 looseN w := by
  intro os
  exact two_looks (ranA w os) (ranB w os)
end Il
namespace Il
open PySem PySem.Spec PyProof.Rows L2
theorem said : RR.wellSaid = true := by decide +kernel
theorem no_tree : RR.prog.given.tree = none := rfl
theorem no_imports : PyProof.Rows.importsNone qv = true := by decide +kernel
theorem ans_name : dAns.name = ("answers" : Str) := by kernel_rfl
theorem walked : PySem.W.WalkOS qv looseN (PySem.W.XL qv []) hk.says RR dAns [] (fun f vs => PySem.call f vs) := by
  intro w sa sb mg mb G Y fa ob pm cd doc dV kV _ _ _ _ hmg hgen args vals ads asked lay _ wl _
  obtain ⟨z, z1, z2⟩ := PySem.W.os_pre_some asked
  obtain ⟨z3, z4⟩ := PySem.W.Codec.encAll_of_decAll RR.args args z z1
  subst z3
  obtain ⟨K, KX, c, ct⟩ := Y
  obtain ⟨K', S, KX', seer⟩ := seer_part KX (G.T.seer no_imports)
  have X0 := txt_of KX G.T.g c ct
  have X := X0.mono S (tb_kept S X0.tb)
  obtain ⟨f, fd, F, gf⟩ := X.F_f_answers.ex
  rw [ans_name, gf] at hmg
  cases hmg
  have bnd : ∀ (s : Shared) (us : List Value), us.length = (["calls"] : List Str).length → BindsTo s fd ⟨us, []⟩ ((["calls"] : List Str).zip us) := by
    obtain ⟨oc, od, kV', doc', pm', an, cdv, cot, osl, rfl, _, _⟩ := F.ex
    exact fun s us e => match us, e with | [_], _ => .of_eq rfl
  refine PySem.W.enter_call (codeAny_mono (spec_call (R := []) (cl := PySem.classAt sa.heap) (sp := spXx K') (CX := CX0) (k := 47) (ps := ["calls"]) (d0 := RR.ret.enc (PySem.W.Codec.app RR.args RR.f z)) KX' G.T.g G.T.b G.T.builtins G.T.nolimit hgen wl
    (pl_encAll _ _) (layable_weight lay) ⟨rfl, by decide, by decide⟩ (fun base hb _ => ok_answers X F (seer base hb) no_tree) bnd (by rw [encAll_len]; rfl) (fun H xs _ hS => ?_) fun _ _ _ q => q) fun r' s' got => ?_)
  · obtain ⟨L, u⟩ := z
    cases hS with
    | cons h1 h2 =>
      cases h2
      cases h1 with
      | lst hs ha =>
        have e := ints_dw L _ ha
        subst e
        exact ⟨_, L, rfl, hs, z2, fun H' p _ hp => .lst (SqL.of hp) (dw_ints _)⟩
  · obtain ⟨v, ad, rfl, g1, g2, g3, g4⟩ := got
    exact ⟨.inl ⟨v, _, ad, rfl, fun _ => rfl, g1, (PySem.W.OpenSpec.post_iff said z4 _ _).mpr rfl, fun q => Bool.noConfusion (show false = true from q)⟩, g2, g3, g4⟩
end Il
open PySem PySem.W PySem.Calls PyProof.Rows
set_option maxRecDepth 100000 in
set_option maxHeartbeats 8000000 in
theorem PySem.Challenge.cw_interlaced_s01_answers_holds : PySem.Challenge.rw_interlaced_s01_answers.Holds := by
  w_on
  refine HandSHeadRun.head_spec (r := PySem.Challenge.rw_interlaced_s01_answers) (q := Il.qv) (H := Il.hk) (ob := Il.obK) (M := 6000) (loose := Il.looseN) (d := Il.dAns) (kwd := []) Il.obK_eq (by kernel_rfl) (fun s => by kernel_rfl) Il.ran (by kernel_rfl) (by kernel_rfl) (by kernel_rfl) os_shapes Il.said (by decide +kernel) ⟨rfl, rfl, rfl, rfl, rfl, by decide +kernel⟩ ?hw ?hc
  case hw => exact ⟨[.list [.int 0]], by decide +kernel, by decide +kernel⟩
  case hc => exact Il.walked
#print axioms PySem.Challenge.cw_interlaced_s01_answers_holds
