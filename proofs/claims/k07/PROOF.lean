import PyProof.Rows.All
import Wide.All
import OpenK.AllK
import Wide.FinOn
import HandS.ForMost
import HandS.Wide
import HandS.Gcd
import HandS.IsInst
import HandS.TupAny
import HandS.Style
import PyProof.ReprRoads
import PyProof.ReprLen
import PyProof.Rows.SumAny
import PyProof.WalksMore
import PySem.Challenge.RW_wheelnines_k07_whole_balance
set_option Elab.async false
set_option linter.all false
set_option maxRecDepth 100000
set_option maxHeartbeats 4000000
/-! the mathematics: powers, remainders, pure parts, periods, heads -/
namespace Wn
theorem cop_pow {a b : Nat} (h : Nat.gcd a b = 1) (k : Nat) : Nat.gcd (a ^ k) b = 1 := Nat.Coprime.pow_left k h
theorem mod_iff {p a c : Nat} (h : a ≤ c) : a % p = c % p ↔ p ∣ c - a := by
  constructor
  · intro e
    exact Nat.dvd_of_mod_eq_zero (Nat.sub_mod_eq_zero_of_mod_eq e.symm)
  · rintro ⟨t, e⟩
    have : c = a + p * t := by omega
    rw [this, Nat.add_mul_mod_self_left]
/-! a pigeonhole -/
theorem nodup_le : ∀ (n : Nat) (l : List Nat), l.Nodup → (∀ x ∈ l, x < n) → l.length ≤ n := by
  intro n
  induction n with
  | zero =>
    intro l _ h
    cases l with
    | nil => exact Nat.le_refl _
    | cons x r => exact absurd (h x (List.mem_cons_self ..)) (Nat.not_lt_zero _)
  | succ n ih =>
    intro l nd h
    have h1 := ih (l.erase n) (nd.erase n) (fun x hx => by
      have hm := List.mem_of_mem_erase hx
      have hlt := h x hm
      have hne : x ≠ n := fun e => by
        subst e
        exact (List.Nodup.not_mem_erase nd) hx
      omega)
    by_cases hn : n ∈ l
    · rw [List.length_erase_of_mem hn] at h1
      omega
    · rw [List.erase_of_not_mem hn] at h1
      omega
/-- among n + 1 numbers below n two are the same -/
theorem pigeon (n : Nat) (f : Nat → Nat) (h : ∀ i, i ≤ n → f i < n) : ∃ i j, i < j ∧ j ≤ n ∧ f i = f j := by
  by_cases nd : ((List.range (n + 1)).map f).Nodup
  · have := nodup_le n _ nd (fun x hx => by
      obtain ⟨i, hi, e⟩ := List.mem_map.mp hx
      rw [← e]
      exact h i (by have := List.mem_range.mp hi; omega))
    rw [List.length_map, List.length_range] at this
    omega
  · rw [List.nodup_iff_pairwise_ne, List.pairwise_map] at nd
    apply Classical.byContradiction
    intro hc
    apply nd
    rw [List.pairwise_iff_getElem]
    intro i j hi hj hij e
    rw [List.getElem_range, List.getElem_range] at e
    rw [List.length_range] at hj
    exact hc ⟨i, j, hij, by omega, e⟩
/-! pure parts -/
def IsPure (b n p : Nat) : Prop := Nat.gcd b p = 1 ∧ ∃ q k, n = p * q ∧ q ∣ b ^ k
theorem cop_of_dvd_pow {b p q k : Nat} (h : Nat.gcd b p = 1) (hq : q ∣ b ^ k) : Nat.gcd p q = 1 := by
  have h1 : Nat.gcd (b ^ k) p = 1 := cop_pow h k
  have h2 : Nat.gcd p q ∣ Nat.gcd (b ^ k) p := Nat.dvd_gcd (Nat.dvd_trans (Nat.gcd_dvd_right p q) hq) (Nat.gcd_dvd_left p q)
  rw [h1] at h2
  exact Nat.dvd_one.mp h2
theorem IsPure.dvd {b n p p' : Nat} (h : IsPure b n p) (h' : IsPure b n p') : p ∣ p' := by
  obtain ⟨g, q, k, e, hq⟩ := h
  obtain ⟨g', q', k', e', hq'⟩ := h'
  have c : Nat.Coprime p q' := cop_of_dvd_pow g hq'
  refine c.dvd_of_dvd_mul_right ?_
  rw [← e', e]
  exact Nat.dvd_mul_right p q
theorem IsPure.uniq {b n p p' : Nat} (h : IsPure b n p) (h' : IsPure b n p') : p = p' := Nat.dvd_antisymm (h.dvd h') (h'.dvd h)
theorem IsPure.self {b n : Nat} (h : Nat.gcd b n = 1) : IsPure b n n := ⟨h, 1, 0, by simp, by simp⟩
/-! periods -/
def IsPer (b p d : Nat) : Prop := 1 ≤ d ∧ b ^ d % p = 1 % p ∧ ∀ j, 1 ≤ j → j < d → b ^ j % p ≠ 1 % p
theorem IsPer.uniq {b p d d' : Nat} (h : IsPer b p d) (h' : IsPer b p d') : d = d' := by
  obtain ⟨h1, h2, h3⟩ := h
  obtain ⟨g1, g2, g3⟩ := h'
  apply Nat.le_antisymm
  · apply Nat.le_of_not_lt
    intro l
    exact h3 d' g1 l g2
  · apply Nat.le_of_not_lt
    intro l
    exact g3 d h1 l h2
theorem least (P : Nat → Prop) [DecidablePred P] : ∀ n, P n → ∃ m, m ≤ n ∧ P m ∧ ∀ j, j < m → ¬ P j := by
  intro n
  induction n using Nat.strongRecOn with
  | _ n ih =>
    intro hn
    by_cases h : ∃ j, j < n ∧ P j
    · obtain ⟨j, hj, pj⟩ := h
      obtain ⟨m, hm, pm, q⟩ := ih j hj pj
      exact ⟨m, by omega, pm, q⟩
    · exact ⟨n, Nat.le_refl _, hn, fun j hj pj => h ⟨j, hj, pj⟩⟩
/-- a common factor that is pure may go: b ^ i * c ≡ b ^ i * d -/
theorem mod_cancel {p a c d : Nat} (g : Nat.gcd a p = 1) (h : a * c % p = a * d % p) : c % p = d % p := by
  have key : ∀ {c d : Nat}, c ≤ d → a * c % p = a * d % p → c % p = d % p := by
    intro c d hcd h
    have h1 : p ∣ a * (d - c) := by
      rw [Nat.mul_sub]
      exact (mod_iff (Nat.mul_le_mul_left a hcd)).mp h
    have h2 : p ∣ d - c := Nat.Coprime.dvd_of_dvd_mul_left (Nat.Coprime.symm g) h1
    exact (mod_iff hcd).mpr h2
  rcases Nat.le_total c d with l | l
  · exact key l h
  · exact (key l h.symm).symm
theorem per_exists {b p : Nat} (hp : 1 ≤ p) (g : Nat.gcd b p = 1) : ∃ d, d ≤ p ∧ IsPer b p d := by
  obtain ⟨i, j, hij, hj, e⟩ := pigeon p (fun k => b ^ k % p) (fun i _ => Nat.mod_lt _ hp)
  have e1 : b ^ (j - i) % p = 1 % p := by
    have e' : b ^ i * b ^ (j - i) % p = b ^ i * 1 % p := by
      rw [← Nat.pow_add, show i + (j - i) = j by omega, Nat.mul_one]
      exact e.symm
    exact mod_cancel (cop_pow g i) e'
  obtain ⟨m, hm, ⟨pm1, pm⟩, q⟩ := least (fun k => 1 ≤ k ∧ b ^ k % p = 1 % p) (j - i) ⟨by omega, e1⟩
  exact ⟨m, by omega, pm1, pm, fun k k1 kl z => q k kl ⟨k1, z⟩⟩
theorem pow_mod_step (b p k : Nat) : b ^ k % p * b % p = b ^ (k + 1) % p := by
  rw [Nat.mod_mul_mod, Nat.pow_succ]
theorem IsPer.mul {b p d : Nat} (h : IsPer b p d) (k : Nat) : b ^ (d * k) % p = 1 % p := by
  induction k with
  | zero => simp
  | succ k ih =>
    rw [Nat.mul_succ, Nat.pow_add, Nat.mul_mod, ih, h.2.1, ← Nat.mul_mod, Nat.mul_one]
theorem IsPer.iff {b p d : Nat} (h : IsPer b p d) (k : Nat) : b ^ k % p = 1 % p ↔ d ∣ k := by
  have e : b ^ k % p = b ^ (k % d) % p := by
    have := Nat.div_add_mod k d
    rw [show b ^ k = b ^ (d * (k / d) + k % d) by rw [this], Nat.pow_add, Nat.mul_mod, h.mul, ← Nat.mul_mod, Nat.one_mul]
  constructor
  · intro hk
    rw [e] at hk
    apply Nat.dvd_of_mod_eq_zero
    apply Classical.byContradiction
    intro hz
    exact h.2.2 (k % d) (by omega) (Nat.mod_lt _ h.1) hk
  · rintro ⟨m, rfl⟩
    exact h.mul m
/-! heads -/
def IsHead (b q h : Nat) : Prop := b ^ h % q = 0 ∧ ∀ j, j < h → b ^ j % q ≠ 0
theorem IsHead.uniq {b q h h' : Nat} (a : IsHead b q h) (c : IsHead b q h') : h = h' := by
  apply Nat.le_antisymm
  · apply Nat.le_of_not_lt
    intro l
    exact a.2 h' l c.1
  · apply Nat.le_of_not_lt
    intro l
    exact c.2 h l a.1
theorem head_exists {b q k : Nat} (h : q ∣ b ^ k) : ∃ m, m ≤ k ∧ IsHead b q m := by
  obtain ⟨m, hm, pm, r⟩ := least (fun j => b ^ j % q = 0) k (Nat.mod_eq_zero_of_dvd h)
  exact ⟨m, hm, pm, r⟩
theorem IsHead.iff {b q h : Nat} (a : IsHead b q h) (k : Nat) : q ∣ b ^ k ↔ h ≤ k := by
  constructor
  · intro d
    apply Nat.le_of_not_lt
    intro l
    exact a.2 k l (Nat.mod_eq_zero_of_dvd d)
  · intro l
    have d : q ∣ b ^ h := Nat.dvd_of_mod_eq_zero a.1
    rw [show k = h + (k - h) by omega, Nat.pow_add]
    exact Nat.dvd_trans d (Nat.dvd_mul_right _ _)
theorem head_le {b q h : Nat} (hq : 1 ≤ q) (a : IsHead b q h) : h ≤ q := by
  apply Nat.le_of_not_lt
  intro l
  -- among the first q + 1 remainders two are the same: then none is nought behind
  obtain ⟨i, j, hij, hj, e⟩ := pigeon q (fun k => b ^ k % q) (fun i _ => Nat.mod_lt _ hq)
  have key : ∀ k, b ^ (i + k) % q = b ^ (j + k) % q := by
    intro k
    rw [Nat.pow_add, Nat.pow_add, Nat.mul_mod, e, ← Nat.mul_mod]
  have hz : b ^ (j + (h - j)) % q = 0 := by
    rw [show j + (h - j) = h by omega]
    exact a.1
  rw [← key] at hz
  exact a.2 (i + (h - j)) (by omega) hz
/-! remainders -/
def rem (b n x i : Nat) : Nat := x * b ^ i % n
theorem rem_lt {b n x i : Nat} (h : 1 ≤ n) : rem b n x i < n := Nat.mod_lt _ h
theorem rem_succ (b n x i : Nat) : rem b n x i * b % n = rem b n x (i + 1) := by
  unfold rem
  rw [Nat.mod_mul_mod, Nat.pow_succ, Nat.mul_assoc]
theorem rem_zero {b n x : Nat} (h : x < n) : rem b n x 0 = x := by
  unfold rem
  rw [Nat.pow_zero, Nat.mul_one, Nat.mod_eq_of_lt h]
/-- THE RING: when remainders come again -/
theorem rem_eq {b n x p q h L i j : Nat} (gx : Nat.gcd x n = 1) (e : n = p * q) (gp : Nat.gcd b p = 1) (gq : Nat.gcd p q = 1) (hh : IsHead b q h) (hL : IsPer b p L) (hij : i < j) :
    rem b n x i = rem b n x j ↔ h ≤ i ∧ L ∣ j - i := by
  have hle : b ^ i ≤ b ^ j ∨ b = 0 := by
    rcases Nat.eq_zero_or_pos b with z | z
    · exact .inr z
    · exact .inl (Nat.pow_le_pow_right z (Nat.le_of_lt hij))
  have hs : b ^ j = b ^ i * b ^ (j - i) := by rw [← Nat.pow_add, show i + (j - i) = j by omega]
  unfold rem
  constructor
  · intro hr
    have h1 : b ^ i % n = b ^ j % n := mod_cancel gx hr
    have hp : b ^ i % p = b ^ j % p := by
      have := congrArg (· % p) h1
      rw [e, Nat.mod_mul_right_mod, Nat.mod_mul_right_mod] at this
      exact this
    have hq : b ^ i % q = b ^ j % q := by
      have := congrArg (· % q) h1
      rw [e, Nat.mod_mul_left_mod, Nat.mod_mul_left_mod] at this
      exact this
    have dL : L ∣ j - i := by
      rw [← hL.iff]
      refine mod_cancel (cop_pow gp i) ?_
      rw [← hs, Nat.mul_one]
      exact hp.symm
    refine ⟨?_, dL⟩
    rw [← hh.iff]
    -- q divides b ^ i * (b ^ (j - i) - 1), and b ^ (j - i) is a multiple that goes on: take many turns
    have key : ∀ k, b ^ i % q = b ^ (i + (j - i) * k) % q := by
      intro k
      induction k with
      | zero => simp
      | succ k ih =>
        rw [show i + (j - i) * (k + 1) = (j - i) + (i + (j - i) * k) by rw [Nat.mul_succ]; omega, Nat.pow_add, Nat.mul_mod, ← ih, ← Nat.mul_mod, ← Nat.pow_add, show (j - i) + i = j by omega]
        exact hq
    have hz : b ^ (i + (j - i) * h) % q = 0 := by
      apply Nat.mod_eq_zero_of_dvd
      rw [hh.iff]
      have : h ≤ (j - i) * h := Nat.le_mul_of_pos_left h (by omega)
      omega
    exact Nat.dvd_of_mod_eq_zero ((key h).trans hz)
  · rintro ⟨h1, h2⟩
    have hp : b ^ (j - i) % p = 1 % p := (hL.iff _).mpr h2
    have hqd : q ∣ b ^ i := (hh.iff i).mpr h1
    have hpd : b ^ i % p = b ^ j % p := by
      rw [hs, Nat.mul_mod, hp, ← Nat.mul_mod, Nat.mul_one]
    have both : b ^ i % n = b ^ j % n := by
      rcases hle with hle | hb
      · apply (mod_iff hle).mpr
        rw [e]
        refine Nat.Coprime.mul_dvd_of_dvd_of_dvd gq ?_ ?_
        · exact (mod_iff hle).mp hpd
        · rw [hs, ← Nat.mul_sub_one]
          exact Nat.dvd_trans hqd (Nat.dvd_mul_right _ _)
      · subst hb
        have hp1 : p = 1 := by rw [Nat.gcd_zero_left] at gp; exact gp
        subst hp1
        rw [Nat.one_mul] at e
        subst e
        rw [Nat.mod_eq_zero_of_dvd hqd, Nat.mod_eq_zero_of_dvd (by rw [hs]; exact Nat.dvd_trans hqd (Nat.dvd_mul_right _ _))]
    rw [Nat.mul_mod, both, ← Nat.mul_mod]
/-! all of a denominator in a base -/
structure Par (b n p q h L : Nat) : Prop where
  hp : IsPure b n p
  e : n = p * q
  hh : IsHead b q h
  hL : IsPer b p L
theorem pure_exists (b : Nat) : ∀ n, 1 ≤ n → ∃ p, IsPure b n p := by
  intro n
  induction n using Nat.strongRecOn with
  | _ n ih =>
    intro hn
    by_cases g : Nat.gcd b n = 1
    · exact ⟨n, IsPure.self g⟩
    · obtain ⟨c, hc⟩ := Nat.gcd_dvd_right b n
      have hg : 1 ≤ Nat.gcd b n := Nat.gcd_pos_of_pos_right b hn
      have hc1 : 1 ≤ c := by
        rcases Nat.eq_zero_or_pos c with z | z
        · rw [z] at hc
          omega
        · exact z
      have hcn : c < n := by
        have hg2 : 2 ≤ Nat.gcd b n := by omega
        have : 2 * c ≤ Nat.gcd b n * c := Nat.mul_le_mul_right c hg2
        omega
      obtain ⟨p, hp, q, k, e, d⟩ := ih c hcn hc1
      refine ⟨p, hp, Nat.gcd b n * q, k + 1, ?_, ?_⟩
      · conv => lhs; rw [hc, e]
        rw [Nat.mul_left_comm]
      · rw [Nat.pow_succ, Nat.mul_comm (b ^ k) b]
        exact Nat.mul_dvd_mul (Nat.gcd_dvd_left b n) d
theorem par_exists {b n : Nat} (hn : 1 ≤ n) : ∃ p q h L, Par b n p q h L := by
  obtain ⟨p, hp⟩ := pure_exists b n hn
  obtain ⟨g, q, k, e, d⟩ := id hp
  obtain ⟨h, _, hh⟩ := head_exists d
  have hp1 : 1 ≤ p := by
    rcases Nat.eq_zero_or_pos p with z | z
    · rw [z] at e
      omega
    · exact z
  obtain ⟨L, _, hL⟩ := per_exists hp1 g
  exact ⟨p, q, h, L, hp, e, hh, hL⟩
section
variable {b n p q h L : Nat}
theorem Par.p1 (P : Par b n p q h L) (hn : 1 ≤ n) : 1 ≤ p := by
  rcases Nat.eq_zero_or_pos p with z | z
  · have := P.e
    rw [z] at this
    omega
  · exact z
theorem Par.q1 (P : Par b n p q h L) (hn : 1 ≤ n) : 1 ≤ q := by
  rcases Nat.eq_zero_or_pos q with z | z
  · have := P.e
    rw [z] at this
    omega
  · exact z
theorem Par.pn (P : Par b n p q h L) (hn : 1 ≤ n) : p ≤ n := Nat.le_of_dvd hn ⟨q, P.e⟩
theorem Par.qn (P : Par b n p q h L) (hn : 1 ≤ n) : q ≤ n := Nat.le_of_dvd hn ⟨p, by rw [P.e, Nat.mul_comm]⟩
theorem Par.Ln (P : Par b n p q h L) (hn : 1 ≤ n) : L ≤ n := by
  obtain ⟨d, hd, hd'⟩ := per_exists (P.p1 hn) P.hp.1
  have := hd'.uniq P.hL
  have := P.pn hn
  omega
theorem Par.hn (P : Par b n p q h L) (hn : 1 ≤ n) : h ≤ n := Nat.le_trans (head_le (P.q1 hn) P.hh) (P.qn hn)
theorem Par.gq (P : Par b n p q h L) (hn : 1 ≤ n) : Nat.gcd p q = 1 := by
  obtain ⟨g, q', k, e, d⟩ := P.hp
  have : q' = q := by
    have := P.e
    rw [e] at this
    exact Nat.eq_of_mul_eq_mul_left (P.p1 hn) this
  subst this
  exact cop_of_dvd_pow g d
/-- the end of a row of remainders -/
theorem ring_end {x i j : Nat} (P : Par b n p q h L) (hn : 1 ≤ n) (gx : Nat.gcd x n = 1) (hd : ∀ u v, u < v → v < i → rem b n x u ≠ rem b n x v) (hj : j < i) (e : rem b n x j = rem b n x i) : i = h + L ∧ j = h := by
  have F := fun {u v : Nat} (l : u < v) => rem_eq (x := x) gx P.e P.hp.1 (P.gq hn) P.hh P.hL l
  obtain ⟨h1, h2⟩ := (F hj).mp e
  have hL1 := P.hL.1
  have hle := Nat.le_of_dvd (by omega) h2
  have hi : i ≤ h + L := by
    apply Nat.le_of_not_lt
    intro l
    exact hd h (h + L) (by omega) l ((F (by omega)).mpr ⟨Nat.le_refl _, by rw [show h + L - h = L by omega]; exact Nat.dvd_refl _⟩)
  omega
end
end Wn
namespace Wn
open PySem PySem.Spec PyProof.Rows L2
/-! a def of the text as it stands: where, its facts, its name -/
structure Dn (K : PySem.W.Frag) (mg : Str → Option Value) (x : Str) (st : Stmt) (ps : List Str) where
  f : Addr
  fd : FuncData
  F : Fun K x x st f fd
  e : ∀ us : List Value, us.length = ps.length → bindArgs fd ⟨us, []⟩ = pure (ps.zip us)
  m : mg x = some (.ref f)
theorem Dn.b {K : PySem.W.Frag} {mg : Str → Option Value} {x : Str} {st : Stmt} {ps : List Str} (D : Dn K mg x st ps) : Binds K D.fd ps [] := .all D.e
def Dn.of {K : PySem.W.Frag} {h : Heap} {mg : Str → Option Value} {x : Str} {st : Stmt} {ps : List Str} {f : Addr} {oc kV doc pm cdv ct : Value} {od an : Option Addr} {osl : Array (Option Value)} (X : K.In h) (G : h.Ns mainGlobals mg)
    (hb : ∀ us : List Value, us.length = ps.length → bindArgs (PySem.W.fnOf x x (defArgs st) (defBody st) (defScope st) .none kV doc pm an cdv ct) ⟨us, []⟩ = pure (ps.zip us))
    (a : PySem.W.nsIn K mainGlobals x = some (some (.ref f))) (l : K.lookup f = some ⟨oc, od, .func (PySem.W.fnOf x x (defArgs st) (defBody st) (defScope st) .none kV doc pm an cdv ct), osl⟩)
    (c : PySem.W.codeIn K cdv x = true) (k : PySem.W.keepIn K (.ref f) = true) : Dn K mg x st ps := ⟨f, _, fun_mk l c k, hb, PySem.W.mg_of X G a⟩
/-! all that stood stands, but what is at W -/
def Gr (W : List Addr) (H H' : Hp) : Prop := ∀ a o, a ∉ W → H a = some o → H' a = some o
theorem Gr.refl (W : List Addr) (H : Hp) : Gr W H H := fun _ _ _ h => h
theorem Gr.trans {W : List Addr} {H H1 H2 : Hp} (a : Gr W H H1) (b : Gr W H1 H2) : Gr W H H2 := fun x o n h => b x o n (a x o n h)
theorem Gr.new {W : List Addr} {H : Hp} {p : Addr} {o : HO} (h : H p = none) : Gr W H (upd H p o) := fun a u _ e => by
  rw [upd_ne (ne_of_none e h)]
  exact e
theorem Gr.wr {W : List Addr} {H : Hp} {p : Addr} {o : HO} (h : p ∈ W) : Gr W H (upd H p o) := fun a u n e => by
  have z : a ≠ p := fun z => by
    subst z
    exact n h
  rw [upd_ne z]
  exact e
theorem Gr.mono {W W' : List Addr} {H H' : Hp} (h : ∀ a, a ∈ W → a ∈ W') (g : Gr W H H') : Gr W' H H' := fun a o n e => g a o (fun z => n (h a z)) e
end Wn
namespace Wn
open PySem PySem.Spec PyProof.Rows L2
theorem CallR.imp {X : Cx} {f : Value} {r r' : List V → Hp → VK → Prop} (h : CallR X f r) (i : ∀ vs H Q, r' vs H Q → r vs H Q) : CallR X f r' :=
  fun pins s σ H vs us Q I rv x => h pins s σ H vs us Q I rv (i _ _ _ x)
/-! the built-in type of a value -/
def isB (T n : String) : Bool := T == n || (T == "bool" && n == "int")
def tyNames : List String := ["NoneType", "bool", "int", "str", "list", "tuple", "dict"]
def qyNames : List String := ["bool", "int", "str", "list", "tuple", "dict"]
theorem isB_ok : ∀ T ∈ tyNames, ∀ n ∈ qyNames, kitB T n = some (isB T n) := by decide +kernel
def rIs (K : PySem.W.Frag) : List V → Hp → VK → Prop := fun xs H Q => ∃ (x : V) (n : String), xs = [x, .ty n] ∧ ∃ T : String, (TyX K H x (.type T) ∧ T ∈ tyNames ∧ n ∈ qyNames) ∧ Q (.bl (isB T n)) H
theorem call_is {X : Cx} : CallR X (.builtin "isinstance") (rIs X.K) := CallR.imp call_isi fun vs H Q h => by
  obtain ⟨x, n, e, T, ⟨h1, h2, h3⟩, q⟩ := h
  exact ⟨x, .ty n, .type T, .type n, isB T n, e, .ty n, h1, kit_ty (isB_ok T h2 n h3), q⟩
theorem ty_int {K : PySem.W.Frag} {H : Hp} {i : Int} : TyX K H (.int i) (.type "int") := .base (.int i)
theorem ty_tup {K : PySem.W.Frag} {H : Hp} {a : Addr} {xs : List V} (h : H a = some (.tup xs)) : TyX K H (.ref a) (.type "tuple") := .base (.tup h)
theorem cxK {CX : CXT} {P : Program} {w : World} {K : PySem.W.Frag} {mg : Str → Option Value} {base : Heap} {N : List Str} {q : Str} {sc : Scope} {f : Addr} {cdv : Value} {A : Around} {outer : List Env} {s : Shared} {H : Hp} {E : XK} :
    (cxOf CX P w K mg base N q sc f cdv A outer s H E).nox.K = K := rfl
theorem cxK2 {CX : CXT} {P : Program} {w : World} {K : PySem.W.Frag} {mg : Str → Option Value} {base : Heap} {N : List Str} {q : Str} {sc : Scope} {f : Addr} {cdv : Value} {A : Around} {outer : List Env} {s : Shared} {H : Hp} {E : XK} :
    (cxOf CX P w K mg base N q sc f cdv A outer s H E).K = K := rfl
theorem start1 (x : Str) (N : List Str) (v : V) (vs : List V) : L2.start (x :: N) (v :: vs) = some v :: L2.start N vs := by
  unfold L2.start
  simp
theorem start2 (x : Str) (N : List Str) : L2.start (x :: N) [] = none :: L2.start N [] := by
  unfold L2.start
  simp [List.replicate_succ]
theorem start3 : L2.start [] [] = [] := rfl
theorem sq_tup {K : PySem.W.Frag} {H : Hp} {a : Addr} {xs : List V} (h : H a = some (.tup xs)) : SqT K H a xs := .inl (.inl h)
theorem sq_lst {K : PySem.W.Frag} {H : Hp} {a : Addr} {xs : List V} (h : H a = some (.lst xs)) : SqL K H a xs := .inl (.inl h)
theorem slA_of {K : PySem.W.Frag} {H : Hp} {a : Addr} {xs : List V} {lo hi : Option Int} {Q : VK} (h : H a = some (.tup xs)) (q : ∀ p H', Gr [] H H' → H' p = some (.tup (cutV xs lo hi)) → Q (.ref p) H') : rSlA K (.ref a) lo hi H Q := by
  refine ⟨a, xs, rfl, sq_tup h, ?_, ?_⟩
  · intro e
    refine q a H (Gr.refl _ _) ?_
    have z : cutV xs lo hi = xs := by
      unfold cutV
      rw [e.1, e.2, List.drop_zero, Nat.sub_zero, List.take_length]
    rw [z]
    exact h
  · intro _ p np
    exact q p _ (Gr.new np) upd_same
def rLn (K : PySem.W.Frag) : List V → Hp → VK → Prop := fun xs H Q => ∃ p ys, xs = [.ref p] ∧ (SqL K H p ys ∨ SqT K H p ys) ∧ Q (.int ys.length) H
theorem call_ln {X : Cx} : CallR X (.builtin "len") (rLn X.K) := call_len_seq
def rLsO (K : PySem.W.Frag) : List V → Hp → VK → Prop := fun xs H Q => ∃ p ys, xs = [.ref p] ∧ (SqL K H p ys ∨ SqT K H p ys) ∧ ∀ l, H l = none → Q (.ref l) (upd H l (.lst ys))
theorem call_lsO {X : Cx} : CallR X (.type "list") (rLsO X.K) := call_list_of
def rTpO (K : PySem.W.Frag) : List V → Hp → VK → Prop := fun xs H Q => ∃ p ys, xs = [.ref p] ∧ ((SqL K H p ys ∧ ∀ l, H l = none → Q (.ref l) (upd H l (.tup ys))) ∨ (SqT K H p ys ∧ Q (.ref p) H))
theorem call_tpO {X : Cx} : CallR X (.type "tuple") (rTpO X.K) := call_tuple_of
theorem cut_lo {xs : List V} {k : Nat} (h : k ≤ xs.length) : cutV xs none (some (k : Int)) = xs.take k := by
  unfold cutV
  rw [HT.sIx_nat, HT.sIx_none, List.drop_zero, Nat.sub_zero, Nat.min_eq_left h]
theorem cut_hi {xs : List V} {k : Nat} (h : k ≤ xs.length) : cutV xs (some (k : Int)) none = xs.drop k := by
  unfold cutV
  rw [HT.sIx_nat, HT.sIx_none, Nat.min_eq_left h]
  exact List.take_of_length_le (by rw [List.length_drop]; omega)
theorem icm (a b n : Nat) : (a : Int) * (b : Int) % (n : Int) = ((a * b % n : Nat) : Int) := by
  rw [← Int.natCast_mul, ← Int.natCast_emod]
theorem icd (a b n : Nat) : (a : Int) * (b : Int) / (n : Int) = ((a * b / n : Nat) : Int) := by
  rw [← Int.natCast_mul, ← Int.natCast_ediv]
local macro_rules | `(tactic| walk_at "vc") => `(tactic| simp only [cxK, cxK2, start1, start2, start3, tRet, tRetN, tSeq, tNext, tIfS, tAsg, gName, tDrop, tVar, tC, tOp, tUn, tTest, tB, tNot, tAnd, tOr, tAndV, tOrV, tNotV, tIf, tCons, tNil, tCB, tCall, tChain, tAug, ipI, rI, rI0, rU, rIs, rGcd, rEq, rNe, scal,
  List.getElem?_cons_zero, List.getElem?_cons_succ, List.set_cons_zero, List.set_cons_succ, Option.some.injEq, List.cons.injEq, V.int.injEq, V.bl.injEq, V.ref.injEq, V.str.injEq, and_true, true_and, exists_eq_left, exists_eq_left', exists_and_left, exists_and_right, List.append_nil, List.nil_append, List.cons_append, exists_eq_right, exists_eq_right', and_assoc, exists_const, V.ty.injEq, ↓reduceIte, Bool.false_eq_true, Bool.not_true, Bool.not_false, decide_eq_true_eq])
end Wn
/-! contracts where nothing is being shown (no repr runs around): for defs that ask repr of lists, tuples, dicts -/
namespace Wn
open PySem PySem.Spec PyProof.Rows L2
structure FnG (P : Program) (w : World) (K : PySem.W.Frag) (mg : Str → Option Value) (base : Heap) (CX : CXT) (k : Nat) (f : Addr) (fd : FuncData) (ps : List Str) (sp : Sp) : Prop where
  sz : ∀ vs H Q E, sp vs H Q E → vs.length = ps.length
  go : ∀ (A : Around), A.guards = some [] → Room k A → ∀ (outer : List Env) (s : Shared) (H : Hp) (args : Args) (us : List Value) (vs : List V) (Q : VK) (E : XK),
    Env0 P w K mg base A outer s H → BindsTo s fd args (ps.zip us) → Vals vs us → sp vs H Q E → codeAny (model P w) A (.call (.ref f) args) (CR CX outer P w H s Q E) s
section
variable {P : Program} {w : World} {K : PySem.W.Frag} {mg : Str → Option Value} {base : Heap} {CX : CXT} {k : Nat} {f : Addr} {fd : FuncData} {ps : List Str} {sp : Sp}
theorem FnG.of (F : FnOk P w K mg base CX k f fd ps sp) : FnG P w K mg base CX k f fd ps sp :=
  ⟨F.len, fun A _ hr outer s H args us vs Q E e b v h => F.run A outer s H args us vs Q E hr e b v h⟩
theorem FnG.up {j : Nat} (F : FnG P w K mg base CX j f fd ps sp) (h : j ≤ k) : FnG P w K mg base CX k f fd ps sp :=
  ⟨F.sz, fun A hg hr => F.go A hg (hr.mono h)⟩
/-- a def by its body -/
theorem fnG {x qual : Str} {st : Stmt} {N : List Str} (F : Fun K x qual st f fd) (S : FnScope N ps (defScope st)) (sz : ∀ vs H Q E, sp vs H Q E → vs.length = ps.length)
    (body : ∀ (cdv : Value) (A : Around) (outer : List Env) (s : Shared) (H : Hp) (vs : List V) (Q : VK) (E : XK), (A.deeper (envOfC qual (defScope st) s.heap.objs.size f cdv)).guards = some [] →
      Room k (A.deeper (envOfC qual (defScope st) s.heap.objs.size f cdv)) → sp vs H Q E →
      ∃ t, PSs (cxOf CX P w K mg base N qual (defScope st) f cdv A outer s H E) (defBody st) t ∧ t { nx := fun _ H' => Q .non H', rt := Q } (L2.start N vs) H) : FnG P w K mg base CX (k + 1) f fd ps sp := by
  obtain ⟨oc, od, kV, doc, pm, an, cdv, ct, osl, rfl, lk, hcd⟩ := F.ex
  refine ⟨sz, fun A hgd hr outer s H args us vs Q E e0 hb r h => ?_⟩
  have KI : K.In s.heap := e0.mod.kin.keeps fun b o e => (e0.bs b o e).1
  have NL : s.heap.NoLimit := e0.mod.nolimit.keeps fun b o e => (e0.bs b o e).1
  refine codeAny_call_function hr.depth (KI _ _ lk) rfl S.co S.gen rfl (PySem.W.codeRec_of KI hcd) (hb _ _ _ _ ?_)
  refine wpAny_newFunctionEnv_cells S.kind (fun y hy => ?_) fun env he s1 x => ?_
  · obtain ⟨n, v⟩ := y
    rcases S.par n (List.of_mem_zip hy).1 with q | q
    · exact .inl q
    · exact .inr ⟨q, PySem.W.cellsFrom_some _ _ _ (.inl q)⟩
  · subst he
    refine ⟨NL.keeps x.toInCall.keep, codeAny_func ?_⟩
    obtain ⟨t, ht, hq⟩ := body cdv A outer s H vs Q E hgd (hr.deeper _) h
    refine wpAny_mono (ht.run [] s1 _ H _ (inv_start S hr.hd e0 (sz _ _ _ _ h) r x) hq) (fun fl s' z => ?_) fun e s' z => z
    cases fl with
    | ret u =>
      obtain ⟨v, σ', H', J, rv, q⟩ := z
      exact ⟨v, H', J.os, J.bare, J.base, J.hok, rv, q⟩
    | next =>
      obtain ⟨σ', H', J, q⟩ := z
      exact ⟨.non, H', J.os, J.bare, J.base, J.hok, rfl, q⟩
    | brk =>
      obtain ⟨_, _, _, q⟩ := z
      exact q.elim
    | cont =>
      obtain ⟨_, _, _, q⟩ := z
      exact q.elim
/-- no exception leaves it -/
theorem fnG0 {x qual : Str} {st : Stmt} {N : List Str} (F : Fun K x qual st f fd) (S : FnScope N ps (defScope st)) (sz : ∀ vs H Q E, sp vs H Q E → vs.length = ps.length)
    (body : ∀ (cdv : Value) (A : Around) (outer : List Env) (s : Shared) (H : Hp) (vs : List V) (Q : VK) (E : XK), (A.deeper (envOfC qual (defScope st) s.heap.objs.size f cdv)).guards = some [] →
      Room k (A.deeper (envOfC qual (defScope st) s.heap.objs.size f cdv)) → sp vs H Q E →
      ∃ t, PSs (cxOf CX0 P w K mg base N qual (defScope st) f cdv A outer s H E).nox (defBody st) t ∧ t { nx := fun _ H' => Q .non H', rt := Q } (L2.start N vs) H) : FnG P w K mg base CX0 (k + 1) f fd ps sp :=
  fnG F S sz fun cdv A outer s H vs Q E g r h => let ⟨t, ht, q⟩ := body cdv A outer s H vs Q E g r h; ⟨t, ht.nox, q⟩
end
section
variable {X : Cx} {CX : CXT} {k : Nat} {f : Addr} {fd : FuncData} {ps : List Str} {sp : Sp} {dvs : List V} {ds : List Value} {E : XK} {x : Str} {p pos : Pos} {e : Expr} {es : List Expr} {t : TA}
theorem runG {pins : List (Addr × Obj)} {σ : L2.St} {H : Hp} {s : Shared} {Q : VK} {us : List Value} {vs : List V} (F : FnG X.prog X.w X.K X.mg X.base CX k f fd ps sp) (hgd : X.A.guards = some []) (hr : Room k X.A) (hb : Binds X.K fd ps ds) (hd : Vals dvs ds)
    (hx : Passes CX X E) (I : Inv X pins σ H s) (r : Vals vs us) (h : sp (vs ++ dvs) H Q E) : wpAny (model X.prog X.w) X.A (call (.ref f) us) (EP X pins σ Q) X.xe s := by
  have rr := r.append hd
  refine wpAny_call (codeAny_mono (F.go X.A hgd hr X.stack s H ⟨us, []⟩ (us ++ ds) (vs ++ dvs) Q E I.env0 (hb s us I.kIn (rr.length ▸ F.sz _ _ _ _ h)) rr h) fun z s' q => ?_)
  match z, q with
  | .error e, q => exact hx pins σ H s e s' I q
  | .ok (.ret u), q => exact I.after q
  | .ok .next, q => exact q.elim
  | .ok .brk, q => exact q.elim
  | .ok .cont, q => exact q.elim
theorem pe_callG (hgd : X.A.guards = some []) (F : FnG X.prog X.w X.K X.mg X.base CX k f fd ps sp) (hr : Room k X.A) (hg : Gl X x) (hm : X.mg x = some (.ref f)) (hk : PySem.W.keepIn X.K (.ref f) = true) (hb : Binds X.K fd ps ds) (hd : Vals dvs ds) (hx : Passes CX X E)
    (ha : PA X (e :: es) t) (hdb : (x == ("__debug__" : Str)) = false := by decide) (he : starEach (e :: es) X.env = (false, eval e X.env) :: starEach es X.env := by rfl) (hpl : (backTo pos (starEach es X.env)).any (·.1) = false := by rfl) :
    PE X (.Call (.Name x p) (e :: es) [] pos) (tCall sp dvs E t) :=
  ⟨fun pins s σ H Q I h => wpAny_Call_Name_kw (ld_glob I hg hm (PySem.W.callWith_K (h₀ := X.base) I.ok.mod.kin hk (thn (ha.run pos pins s σ H _ I h) fun us s1 ⟨vs, H1, I1, r, q⟩ => ⟨I1.kIn, runG F hgd hr hb hd hx I1 r q⟩) he hpl) hdb)⟩
theorem pe_callG0 (hgd : X.A.guards = some []) (F : FnG X.prog X.w X.K X.mg X.base CX k f fd ps sp) (hr : Room k X.A) (hg : Gl X x) (hm : X.mg x = some (.ref f)) (hk : PySem.W.keepIn X.K (.ref f) = true) (hb : Binds X.K fd ps ds) (hd : Vals dvs ds) (hx : Passes CX X E)
    (hdb : (x == ("__debug__" : Str)) = false := by decide) : PE X (.Call (.Name x p) [] [] pos) (tCall sp dvs E tNil) :=
  ⟨fun pins s σ H Q I h => wpAny_Call_Name_kw (ld_glob I hg hm (PySem.W.callWith_K0 I.kIn hk (runG (us := []) F hgd hr hb hd hx I .nil h)) hdb)⟩
end
/-! the law's own head -/
theorem law_callG {P : Program} {w : World} {K : PySem.W.Frag} {mg mb : Str → Option Value} {CX : CXT} {k : Nat} {fa a : Addr} {fd : FuncData} {x : Str} {sp : Sp} {s1 : Shared} {vs : List Value} {ns : List Int}
    (KX : K.In s1.heap) (hns : s1.heap.Ns mainGlobals mg) (hb : s1.heap.Ns builtinsNs mb) (hbb : ∀ x : Str, x ≠ "__name__" → mb x = bootBuiltins x) (hlim : s1.heap.NoLimit) (hg : s1.gens = #[])
    (ha : s1.heap.get? a = some { cls := .type "list", data := .seq vs.toArray }) (hi : IntsAre vs ns) (hl : ns.length ≤ sizeLine) (hr : Room k callerA)
    (F : ∀ base : Heap, K.In base → base.Ns mainGlobals mg → FnG P w K mg base CX k fa fd [x] sp) (hbind : ∀ (s : Shared) (u : Value), BindsTo s fd ⟨[u], []⟩ [(x, u)])
    (hsp : ∀ H : Hp, Only H → SqL K H a (ns.map V.int) → sp [.ref a] H (fun v _ => v = .bl true) fun _ _ _ => False)
    (hCX : ∀ H e s', CX [] H s1 (fun _ _ _ => False) e s' → False) :
    codeAny (model P w) callerA (.call (.ref fa) ⟨[.ref a], []⟩) (fun r s' => r = .ok (.ret (.bool true)) ∧ OldK s1.heap s'.heap ∧ s'.os = s1.os ∧ AllBare s'.gens) s1 := by
  -- the script is tracked, unless it is one of the text's own objects
  obtain ⟨H, hH⟩ : ∃ H : Hp, H = fun b => if b = a ∧ K.lookup a = none then some (.frz { cls := .type "list", data := .seq vs.toArray } (.lst (ns.map V.int))) else none := ⟨_, rfl⟩
  have at_ : ∀ b u, H b = some u → b = a ∧ K.lookup a = none ∧ u = .frz { cls := .type "list", data := .seq vs.toArray } (.lst (ns.map V.int)) := fun b u z => by
    rw [hH] at z
    dsimp only at z
    split at z
    · rename_i c
      exact ⟨c.1, c.2, (Option.some.inj z).symm⟩
    · cases z
  have off : ∀ b o, s1.heap.get? b = some o → (∀ q, K.lookup b = some q → True) → (∀ n, o.data ≠ .seq vs.toArray n) → H b = none := fun b o e _ d => by
    cases z : H b with
    | none => rfl
    | some u =>
      obtain ⟨rfl, _, _⟩ := at_ b u z
      rw [ha] at e
      cases e
      exact absurd rfl (d _)
  have kb : ∀ b o, K.lookup b = some o → H b = none := fun b o e => by
    cases z : H b with
    | none => rfl
    | some u =>
      obtain ⟨rfl, z2, _⟩ := at_ b u z
      rw [z2] at e
      cases e
  have ok : HOk P w H s1.heap := fun b u z => by
    obtain ⟨rfl, _, rfl⟩ := at_ b u z
    exact ⟨ha, by rw [List.length_map]; exact hl, vs, _, vals_ints hi, ha⟩
  have sq : SqL K H a (ns.map V.int) := by
    cases z : K.lookup a with
    | none =>
      refine .inl (.inr ⟨{ cls := .type "list", data := .seq vs.toArray }, ?_⟩)
      rw [hH]
      exact if_pos ⟨rfl, z⟩
    | some o =>
      have e := KX a o z
      rw [ha] at e
      cases e
      exact .inr ⟨_, vs.toArray, _, z, rfl, rfl, rfl, by rw [List.size_toArray, hi.length]; exact hl, by simpa using vals_ints hi⟩
  have only : Only H := fun b => by
    cases z : H b with
    | none => exact .inl rfl
    | some u =>
      obtain ⟨_, _, rfl⟩ := at_ b u z
      exact .inr ⟨_, _, rfl⟩
  have nsB : ∀ {b : Addr} {m : Str → Option Value}, s1.heap.Ns b m → (hidT s1.heap H).Ns b m := fun {b m} ⟨o, es, ep, e, d, r⟩ => ⟨o, es, ep, hidT_get e (off b o e (fun _ _ => trivial) fun n z => by rw [d] at z; cases z), d, r⟩
  have KB : K.In (hidT s1.heap H) := fun b o e => hidT_get (KX b o e) (kb b o e)
  have M : Mod K mg (hidT s1.heap H) := ⟨KB, nsB hns, ⟨mb, nsB hb, hbb⟩, let ⟨mc, h1, h2⟩ := hlim; ⟨mc, nsB h1, h2⟩⟩
  have E0' : Env0 P w K mg (hidT s1.heap H) callerA [] s1 H := ⟨rfl, M, fun b o e => of_hidT e, Nat.le_of_eq (hidT_size _ _), trivial, fun b z => absurd (show b ∈ ([] : List Addr) from z) (by simp), ok, .of_eq hg⟩
  refine codeAny_mono ((F _ KB (nsB hns)).go callerA rfl hr [] s1 H ⟨[.ref a], []⟩ [.ref a] [.ref a] _ _ E0' (hbind s1 (.ref a)) (.cons rfl .nil) (hsp H only sq)) fun r s' z => ?_
  match r, z with
  | .error e, z => exact (hCX H e s' z).elim
  | .ok .next, z => exact z.elim
  | .ok .brk, z => exact z.elim
  | .ok .cont, z => exact z.elim
  | .ok (.ret u), z =>
    obtain ⟨v, H', os, bare, un, ok', rv, q⟩ := z
    obtain rfl : v = .bl true := q
    obtain rfl : u = Value.bool true := rv
    refine ⟨rfl, OldK.of_keep fun b o e => ?_, os, bare⟩
    cases y : H b with
    | none => exact un.keep b o e y (fun c => absurd (show b ∈ ([] : List Addr) from c) (by simp)) (by simp)
    | some u =>
      obtain ⟨rfl, _, rfl⟩ := at_ b u y
      rw [ha] at e
      cases e
      exact (ok' _ _ (un.frzs _ _ _ y)).1
theorem walkG {l : PySem.W.OpenLaw} {n k : Nat} {q : Program} {loose : List Str} {XP : (Str → Option Value) → Heap → Prop} {YP : World → Heap → Prop} {d : DefRec} {K : Params → PySem.W.Frag} {sp : World → Sp} {x : Str}
    (hn : l.most = some n) (hn2 : n ≤ sizeLine) (hdf : d.params.defaults = []) (hr : Room k callerA) (hY : ∀ (w : World) (h : Heap), YP w h → (K w.params).In h)
    (F : ∀ (w : World) (mg : Str → Option Value) (fa : Addr) (h : Heap), (K w.params).In h → h.Ns mainGlobals mg → mg d.name = some (.ref fa) →
      ∃ fd : FuncData, (∀ (s : Shared) (u : Value), BindsTo s fd ⟨[u], []⟩ [(x, u)]) ∧ ∀ base : Heap, (K w.params).In base → base.Ns mainGlobals mg → FnG l.prog w (K w.params) mg base CX0 k fa fd [x] (sp w))
    (hsp : ∀ (w : World) (H : Hp) (a : Addr) (ns : List Int), ns.length ≤ n → Only H → SqL (K w.params) H a (ns.map V.int) → sp w [.ref a] H (fun v _ => v = .bl true) fun _ _ _ => False) :
    PySem.W.WalkO q loose XP YP l.row.toRowW d [] (fun f vs => PySem.call f vs) :=
  Att.attach_call hn hdf fun w s0 s1 mg mb fa o pm cd doc a vs ns G Y ho hd hcd hmg hobj hints hlen hg => by
    obtain ⟨fd, hb, hF⟩ := F w mg fa _ (hY w _ Y) G.T.g hmg
    exact law_callG (hY w _ Y) G.T.g G.T.b G.T.builtins G.T.nolimit hg hobj hints (Nat.le_trans hlen hn2) hr hF hb (fun H hO hS => hsp w H a ns hlen hO hS) fun H e s' z => z
end Wn
/-! repr of data -/
namespace Wn
open PySem PySem.Spec PyProof.Rows L2
/-- data that repr takes: leaves of at most B signs, weight at most W, depth at most D -/
structure Sm (d : PyData) (B D W : Nat) : Prop where
  show_ : d.showable = true
  leaf : d.leavesShort B = true
  nod : d.hasDict = false
  lay : d.canLay0 = true
  dep : d.depth ≤ D
  wei : d.weight ≤ W
theorem Sm.all : ∀ {xs : List PyData} {B D W : Nat}, (∀ x ∈ xs, Sm x B D W) → PyData.showableAll xs = true ∧ PyData.leavesShortAll B xs = true ∧ PyData.hasDictAll xs = false ∧ PyData.canLayAll0 xs = true ∧ PyData.depthAll xs ≤ D ∧ PyData.weightAll xs ≤ xs.length * (W + 1)
  | [], _, _, _, _ => ⟨rfl, rfl, rfl, rfl, Nat.zero_le _, Nat.zero_le _⟩
  | x :: xs, B, D, W, h => by
    obtain ⟨h1, h2, h3, h6, h4, h5⟩ := Sm.all (xs := xs) fun y hy => h y (List.mem_cons_of_mem _ hy)
    have hx := h x (List.mem_cons_self ..)
    refine ⟨?_, ?_, ?_, ?_, ?_, ?_⟩
    · show (x.showable && PyData.showableAll xs) = true
      rw [hx.show_, h1]
      rfl
    · show (x.leavesShort B && PyData.leavesShortAll B xs) = true
      rw [hx.leaf, h2]
      rfl
    · show (x.hasDict || PyData.hasDictAll xs) = false
      rw [hx.nod, h3]
      rfl
    · show (x.canLay0 && PyData.canLayAll0 xs) = true
      rw [hx.lay, h6]
      rfl
    · show max x.depth (PyData.depthAll xs) ≤ D
      exact Nat.max_le.mpr ⟨hx.dep, h4⟩
    · show x.weight + 1 + PyData.weightAll xs ≤ (xs.length + 1) * (W + 1)
      rw [Nat.succ_mul]
      have := hx.wei
      omega
theorem Sm.lst {xs : List PyData} {B D W : Nat} (n : Nat) (h : ∀ x ∈ xs, Sm x B D W) (hn : xs.length ≤ n) : Sm (.list xs) B (D + 1) (n * (W + 1)) := by
  obtain ⟨h1, h2, h3, h6, h4, h5⟩ := Sm.all h
  exact ⟨h1, h2, h3, h6, Nat.succ_le_succ h4, Nat.le_trans h5 (Nat.mul_le_mul_right _ hn)⟩
theorem Sm.tup {xs : List PyData} {B D W : Nat} (n : Nat) (h : ∀ x ∈ xs, Sm x B D W) (hn : xs.length ≤ n) : Sm (.tuple xs) B (D + 1) (n * (W + 1)) := by
  obtain ⟨h1, h2, h3, h6, h4, h5⟩ := Sm.all h
  exact ⟨h1, h2, h3, h6, Nat.succ_le_succ h4, Nat.le_trans h5 (Nat.mul_le_mul_right _ hn)⟩
theorem Sm.mono {d : PyData} {B D W D' W' : Nat} (h : Sm d B D W) (h1 : D ≤ D') (h2 : W ≤ W') : Sm d B D' W' := ⟨h.show_, h.leaf, h.nod, h.lay, Nat.le_trans h.dep h1, Nat.le_trans h.wei h2⟩
theorem log2_lt {a k : Nat} (hk : 1 ≤ k) (h : a < 2 ^ k) : a.log2 < k := by
  rcases Nat.eq_zero_or_pos a with z | z
  · rw [z, Nat.log2_zero]
    exact hk
  · exact (Nat.log2_lt (by omega)).mpr h
/-- a whole number below 10 ^ 12 and below 2 ^ k -/
theorem Sm.int {i : Int} {k : Nat} (hk : 1 ≤ k) (h : i.natAbs < 2 ^ k) (hk2 : k ≤ 39) : Sm (.int i) 13 0 k := by
  have hl := log2_lt hk h
  have h12 : i.natAbs < 10 ^ 12 := Nat.lt_of_lt_of_le h (Nat.le_trans (Nat.pow_le_pow_right (by decide) hk2) (by decide))
  refine ⟨?_, ?_, rfl, rfl, Nat.le_refl _, ?_⟩
  · show decide (i.natAbs.log2 < 1920) = true
    exact decide_eq_true (by omega)
  · show decide ((PyData.shown (.int i)).length ≤ 13) = true
    exact decide_eq_true (PyData.shown_int_le h12)
  · show (if i == 0 then 0 else i.natAbs.log2 + 1) ≤ k
    split <;> omega
def Fits (d : PyData) : Prop := ∃ B D W, Sm d B D W ∧ 8 ≤ B ∧ D ≤ 100 ∧ (B + 2) * W + B ≤ 16777216
theorem Fits.len {d : PyData} (h : Fits d) : d.shown.length ≤ sizeLine := by
  obtain ⟨B, D, W, s, h1, h2, h3⟩ := h
  have := PyData.shown_le B h1 d s.leaf
  rw [sizeLine_eq]
  have : (B + 2) * d.weight ≤ (B + 2) * W := Nat.mul_le_mul_left _ s.wei
  omega
theorem Fits.shaped {d : PyData} (h : d.canLay0 = true) (h2 : d.depth ≤ 64) : SeqAt.shaped d = true := by
  unfold SeqAt.shaped
  rw [h, decide_eq_true h2]
  rfl
theorem Sm.fits {d : PyData} {D W : Nat} (h : Sm d 13 D W) (h1 : D ≤ 64 := by decide) (h2 : W ≤ 1100000 := by decide) : Fits d := ⟨13, D, W, h, by decide, by omega, by omega⟩
theorem Sm.shaped {d : PyData} {B D W : Nat} (h : Sm d B D W) (h1 : D ≤ 64 := by decide) : SeqAt.shaped d = true := Fits.shaped h.lay (Nat.le_trans h.dep h1)
/-! data stands while lists and tuples stand -/
def Kp (H H' : Hp) : Prop := (∀ a xs, H a = some (.lst xs) → H' a = some (.lst xs)) ∧ (∀ a xs, H a = some (.tup xs) → H' a = some (.tup xs)) ∧ ∀ a o u, H a = some (.frz o u) → H' a = some (.frz o u)
theorem Kp.of {H H' : Hp} (g : Gr [] H H') : Kp H H' := ⟨fun a _ e => g a _ (by simp) e, fun a _ e => g a _ (by simp) e, fun a _ _ e => g a _ (by simp) e⟩
theorem Kp.ofM {H H' : Hp} {d : Addr} (g : Gr [d] H H') (h : ∃ kvs, H d = some (.dK kvs)) : Kp H H' := by
  obtain ⟨kvs, h⟩ := h
  have ne : ∀ {a o}, H a = some o → (∀ k, o ≠ .dK k) → a ∉ [d] := fun {a o} e k z => by
    rw [List.mem_singleton] at z
    subst z
    rw [h] at e
    exact k _ (Option.some.inj e).symm
  exact ⟨fun a _ e => g a _ (ne e fun _ z => by cases z) e, fun a _ e => g a _ (ne e fun _ z => by cases z) e, fun a _ _ e => g a _ (ne e fun _ z => by cases z) e⟩
theorem Kp.trans {H H1 H2 : Hp} (a : Kp H H1) (b : Kp H1 H2) : Kp H H2 := ⟨fun x _ e => b.1 x _ (a.1 x _ e), fun x _ e => b.2.1 x _ (a.2.1 x _ e), fun x _ _ e => b.2.2 x _ _ (a.2.2 x _ _ e)⟩
theorem Kp.sqL {K : PySem.W.Frag} {H H' : Hp} {a : Addr} {xs : List V} (k : Kp H H') (h : SqL K H a xs) : SqL K H' a xs := by
  rcases h with (h | ⟨o, h⟩) | h
  · exact .inl (.inl (k.1 _ _ h))
  · exact .inl (.inr ⟨o, k.2.2 _ _ _ h⟩)
  · exact .inr h
theorem Kp.sqT {K : PySem.W.Frag} {H H' : Hp} {a : Addr} {xs : List V} (k : Kp H H') (h : SqT K H a xs) : SqT K H' a xs := by
  rcases h with (h | ⟨o, h⟩) | h
  · exact .inl (.inl (k.2.1 _ _ h))
  · exact .inl (.inr ⟨o, k.2.2 _ _ _ h⟩)
  · exact .inr h
mutual
theorem Dp.kp {K : PySem.W.Frag} {H H' : Hp} (k : Kp H H') : ∀ {v : V} {d : PyData}, Dp K H v d → Dp K H' v d
  | _, _, .non => .non
  | _, _, .bl b => .bl b
  | _, _, .int i => .int i
  | _, _, .str x => .str x
  | _, _, .lst h1 h2 => .lst (k.sqL h1) (DpAll.kp k h2)
  | _, _, .tup h1 h2 => .tup (k.sqT h1) (DpAll.kp k h2)
theorem DpAll.kp {K : PySem.W.Frag} {H H' : Hp} (k : Kp H H') : ∀ {vs : List V} {ds : List PyData}, DpAll K H vs ds → DpAll K H' vs ds
  | _, _, .nil => .nil
  | _, _, .cons h1 h2 => .cons (Dp.kp k h1) (DpAll.kp k h2)
end
theorem dpAll_ints {K : PySem.W.Frag} {H : Hp} : ∀ ns : List Int, DpAll K H (ns.map V.int) (ns.map PyData.int)
  | [] => .nil
  | n :: r => .cons (.int n) (dpAll_ints r)
theorem dp_lst {K : PySem.W.Frag} {H : Hp} {a : Addr} {xs : List V} {ds : List PyData} (h : H a = some (.lst xs)) (h2 : DpAll K H xs ds) : Dp K H (.ref a) (.list ds) := .lst (sq_lst h) h2
theorem dp_tup {K : PySem.W.Frag} {H : Hp} {a : Addr} {xs : List V} {ds : List PyData} (h : H a = some (.tup xs)) (h2 : DpAll K H xs ds) : Dp K H (.ref a) (.tuple ds) := .tup (sq_tup h) h2
def rRepr (K : PySem.W.Frag) : List V → Hp → VK → Prop := fun xs H Q => ∃ (x : V) (d : PyData), xs = [x] ∧ Dp K H x d ∧ Fits d ∧ Q (.str d.shown) H
theorem call_repr {X : Cx} (hg : X.A.guards = some []) (hu : X.A.units + 200 < cLine) : CallR X (.builtin "repr") (rRepr X.K) := by
  intro pins s σ H xs us Q I r h
  obtain ⟨x, d, rfl, hd, hf, q⟩ := h
  obtain ⟨u, rfl, rx⟩ := vals1 r
  have fin : ∀ tk' tk, EP X pins σ Q (.str d.shown tk) { s with toks := tk' } := fun tk' tk => ⟨.str _, H, I.tok _, ⟨_, rfl⟩, q⟩
  have hl := hf.len
  cases hd with
  | non =>
    obtain rfl : u = Value.none := rx
    exact PySem.P.repr_of_none (fin _ _)
  | bl b =>
    obtain rfl : u = Value.bool b := rx
    exact PySem.P.repr_of_bool (fin _ _)
  | int i =>
    obtain ⟨t, rfl⟩ := rx
    obtain ⟨B, D, W, sm, _⟩ := hf
    exact PySem.P.repr_of_int (of_decide_eq_true sm.show_) (fin _ _)
  | str y =>
    obtain ⟨t, rfl⟩ := rx
    exact PySem.P.repr_of_str (fin _ _) hl
  | lst h1 h2 =>
    rename_i a xs ds
    obtain rfl : u = Value.ref a := rx
    obtain ⟨as, rd⟩ := Dp.reads I (.list ds) (.ref a) (.ref a) (.lst h1 h2) rfl
    obtain ⟨B, D, W, sm, _, hD, _⟩ := hf
    have := sm.dep
    refine repr_of_reads' rd sm.show_ (fun z => absurd (sm.nod.symm.trans z) (by decide)) hg (by omega) (fun _ _ e => e) (fun h' u tk k => ⟨.str _, H, I.un (Un.kept k) (I.hok.kept k), ⟨_, rfl⟩, q⟩) hl
  | tup h1 h2 =>
    rename_i a xs ds
    obtain rfl : u = Value.ref a := rx
    obtain ⟨as, rd⟩ := Dp.reads I (.tuple ds) (.ref a) (.ref a) (.tup h1 h2) rfl
    obtain ⟨B, D, W, sm, _, hD, _⟩ := hf
    have := sm.dep
    refine repr_of_reads' rd sm.show_ (fun z => absurd (sm.nod.symm.trans z) (by decide)) hg (by omega) (fun _ _ e => e) (fun h' u tk k => ⟨.str _, H, I.un (Un.kept k) (I.hok.kept k), ⟨_, rfl⟩, q⟩) hl
theorem gu_of {A : Around} {k : Nat} (hr : Room k A) : A.units + 200 < cLine := by
  have := hr.un
  omega
end Wn
/-! expressions that give data and leave all as it was -/
namespace Wn
open PySem PySem.Spec PyProof.Rows L2
section
variable {K : PySem.W.Frag} {σ : L2.St} {H : Hp}
def EvD (K : PySem.W.Frag) (te : TE) (σ : L2.St) (H : Hp) (d : PyData) : Prop := ∀ H1, Gr [] H H1 → ∀ Q : VK, (∀ v H2, Gr [] H1 H2 → Dp K H2 v d → Q v H2) → te σ H1 Q
def EvS (K : PySem.W.Frag) (ta : TA) (σ : L2.St) (H : Hp) (ds : List PyData) : Prop := ∀ H1, Gr [] H H1 → ∀ Q : List V → Hp → Prop, (∀ vs H2, Gr [] H1 H2 → DpAll K H2 vs ds → Q vs H2) → ta σ H1 Q
/-- a list that stands as such -/
def EvL (K : PySem.W.Frag) (te : TE) (σ : L2.St) (H : Hp) (ds : List PyData) : Prop := ∀ H1, Gr [] H H1 → ∀ Q : VK, (∀ p xs H2, Gr [] H1 H2 → H2 p = some (.lst xs) → DpAll K H2 xs ds → Q (.ref p) H2) → te σ H1 Q
theorem EvD.on {te : TE} {d : PyData} {H' : Hp} (h : EvD K te σ H d) (g : Gr [] H H') : EvD K te σ H' d := fun H1 g1 Q q => h H1 (g.trans g1) Q q
theorem EvL.d {te : TE} {ds : List PyData} (h : EvL K te σ H ds) : EvD K te σ H (.list ds) := fun H1 g Q q => h H1 g Q fun p xs H2 g2 e a => q _ H2 g2 (dp_lst e a)
theorem ev_var {i : Nat} {v : V} {d : PyData} (e : σ[i]? = some (some v)) (h : Dp K H v d) : EvD K (tVar i) σ H d := fun H1 g Q q => ⟨v, e, q v H1 (Gr.refl _ _) (Dp.kp (Kp.of g) h)⟩
theorem ev_varL {i : Nat} {p : Addr} {xs : List V} {ds : List PyData} (e : σ[i]? = some (some (.ref p))) (h : H p = some (.lst xs)) (a : DpAll K H xs ds) : EvL K (tVar i) σ H ds :=
  fun H1 g Q q => ⟨_, e, q p xs H1 (Gr.refl _ _) (g _ _ (by simp) h) (DpAll.kp (Kp.of g) a)⟩
theorem ev_int {i : Int} : EvD K (tC (.int i)) σ H (.int i) := fun H1 _ Q q => q _ H1 (Gr.refl _ _) (.int i)
theorem ev_bl {i : Bool} : EvD K (tC (.bl i)) σ H (.bool i) := fun H1 _ Q q => q _ H1 (Gr.refl _ _) (.bl i)
theorem ev_str {i : Str} : EvD K (tC (.str i)) σ H (.str i) := fun H1 _ Q q => q _ H1 (Gr.refl _ _) (.str i)
theorem ev_non : EvD K (tC .non) σ H .none := fun H1 _ Q q => q _ H1 (Gr.refl _ _) .non
theorem es_nil : EvS K tNil σ H [] := fun H1 _ Q q => q _ H1 (Gr.refl _ _) .nil
theorem es_cons {te : TE} {ta : TA} {d : PyData} {ds : List PyData} (h : EvD K te σ H d) (r : EvS K ta σ H ds) : EvS K (tCons te ta) σ H (d :: ds) := fun H1 g Q q =>
  h H1 g _ fun v H2 g2 dv => r H2 (g.trans g2) _ fun vs H3 g3 dvs => q _ H3 (g2.trans g3) (.cons (Dp.kp (Kp.of g3) dv) dvs)
theorem dpAll_len {H : Hp} : ∀ {vs : List V} {ds : List PyData}, DpAll K H vs ds → vs.length = ds.length
  | _, _, .nil => rfl
  | _, _, .cons _ t => congrArg (· + 1) (dpAll_len t)
theorem ev_tup {ta : TA} {ds : List PyData} (h : EvS K ta σ H ds) (hz : ds.length ≤ 1000 := by exact Nat.le_of_ble_eq_true rfl) : EvD K (tTup ta) σ H (.tuple ds) := fun H1 g Q q =>
  h H1 g _ fun vs H2 g2 a => ⟨by rw [dpAll_len a]; exact Nat.le_of_lt (small1000 hz), fun p np => q _ _ (g2.trans (Gr.new np)) (dp_tup upd_same (DpAll.kp (Kp.of (Gr.new np)) a))⟩
theorem el_lst {ta : TA} {ds : List PyData} (h : EvS K ta σ H ds) (hz : ds.length ≤ 1000 := by exact Nat.le_of_ble_eq_true rfl) : EvL K (tLst ta) σ H ds := fun H1 g Q q =>
  h H1 g _ fun vs H2 g2 a => ⟨by rw [dpAll_len a]; exact Nat.le_of_lt (small1000 hz), fun p np => q _ _ _ (g2.trans (Gr.new np)) upd_same (DpAll.kp (Kp.of (Gr.new np)) a)⟩
theorem ev_lst {ta : TA} {ds : List PyData} (h : EvS K ta σ H ds) (hz : ds.length ≤ 1000 := by exact Nat.le_of_ble_eq_true rfl) : EvD K (tLst ta) σ H (.list ds) := (el_lst h hz).d
theorem dpAll_append {H : Hp} : ∀ {vs ws : List V} {ds es : List PyData}, DpAll K H vs ds → DpAll K H ws es → DpAll K H (vs ++ ws) (ds ++ es)
  | _, _, _, _, .nil, b => b
  | _, _, _, _, .cons h t, b => .cons h (dpAll_append t b)
theorem el_cat {ta tb : TE} {ds es : List PyData} (h1 : EvL K ta σ H ds) (h2 : EvL K tb σ H es) (hz : ds.length + es.length ≤ 1000 := by exact Nat.le_of_ble_eq_true rfl) : EvL K (tOp rCat ta tb) σ H (ds ++ es) := fun H1 g Q q =>
  h1 H1 g _ fun p xs H2 g2 e2 a2 => h2 H2 (g.trans g2) _ fun p3 ys H3 g3 e3 a3 => by
    have e2' := g3 _ _ (by simp) e2
    refine ⟨p, p3, xs, ys, rfl, rfl, e2', e3, by rw [dpAll_len a2, dpAll_len a3]; exact Nat.le_of_lt (small1000 hz), fun p4 np => ?_⟩
    exact q p4 _ _ ((g2.trans g3).trans (Gr.new np)) upd_same (dpAll_append (DpAll.kp (Kp.of (g3.trans (Gr.new np))) a2) (DpAll.kp (Kp.of (Gr.new np)) a3))
/-! two data compared -/
theorem ev_eq {ta tb : TE} {d e : PyData} (h1 : EvD K ta σ H d) (h2 : EvD K tb σ H e) (s1 : SeqAt.shaped d = true) (s2 : SeqAt.shaped e = true) : EvD K (tOp (rEqD K) ta tb) σ H (.bool (PyData.eqv d e)) := fun H1 g Q q =>
  h1 H1 g _ fun v H2 g2 a => h2 H2 (g.trans g2) _ fun w H3 g3 b => ⟨d, e, Dp.kp (Kp.of g3) a, b, s1, s2, q _ H3 (g2.trans g3) (.bl _)⟩
theorem ev_ne {ta tb : TE} {d e : PyData} (h1 : EvD K ta σ H d) (h2 : EvD K tb σ H e) (s1 : SeqAt.shaped d = true) (s2 : SeqAt.shaped e = true) : EvD K (tOp (rNeD K) ta tb) σ H (.bool (!PyData.eqv d e)) := fun H1 g Q q =>
  h1 H1 g _ fun v H2 g2 a => h2 H2 (g.trans g2) _ fun w H3 g3 b => ⟨d, e, Dp.kp (Kp.of g3) a, b, s1, s2, q _ H3 (g2.trans g3) (.bl _)⟩
theorem iteFb {b : Bool} {A B : Prop} (h : b = false) (x : B) : if b = true then A else B := by
  rw [h]
  exact iteF x
theorem iteTb {b : Bool} {A B : Prop} (h : b = true) (x : A) : if b = true then A else B := by
  rw [h]
  exact iteT x
/-! statements over them -/
theorem st_asgD {te : TE} {i : Nat} {d : PyData} {D : Ends} (h : EvD K te σ H d) (k : ∀ v H2, Gr [] H H2 → Dp K H2 v d → D.nx (σ.set i (some v)) H2) : tAsg te (gName i) D σ H := h H (Gr.refl _ _) _ k
theorem st_asgL {te : TE} {i : Nat} {ds : List PyData} {D : Ends} (h : EvL K te σ H ds) (k : ∀ p xs H2, Gr [] H H2 → H2 p = some (.lst xs) → DpAll K H2 xs ds → D.nx (σ.set i (some (.ref p))) H2) : tAsg te (gName i) D σ H := h H (Gr.refl _ _) _ k
theorem dp_bool {H : Hp} {v : V} {b : Bool} (h : Dp K H v (.bool b)) : v = .bl b := by cases h; rfl
theorem dp_int {H : Hp} {v : V} {b : Int} (h : Dp K H v (.int b)) : v = .int b := by cases h; rfl
theorem st_retB {te : TE} {b : Bool} {D : Ends} (h : EvD K te σ H (.bool b)) (k : ∀ H2, Gr [] H H2 → D.rt (.bl b) H2) : tRet te D σ H := h H (Gr.refl _ _) _ fun v H2 g e => by rw [dp_bool e]; exact k H2 g
/-- a test that is data -/
theorem tt_of {te : TE} {b : Bool} {H1 : Hp} {Q : Bool → Hp → Prop} (h : EvD K te σ H (.bool b)) (g : Gr [] H H1) (q : ∀ H2, Gr [] H1 H2 → Q b H2) : tTest te σ H1 Q := h H1 g _ fun v H2 g2 e => ⟨b, dp_bool e, q H2 g2⟩
theorem tb_of {te : TE} {b : Bool} {H1 : Hp} {Q : Bool → Hp → Prop} (h : EvD K te σ H (.bool b)) (g : Gr [] H H1) (q : ∀ H2, Gr [] H1 H2 → Q b H2) : tB te σ H1 Q := h H1 g _ fun v H2 g2 e => ⟨b, dp_bool e, q H2 g2⟩
theorem ev_andV {ta tb : TE} {a b : Bool} (h1 : EvD K ta σ H (.bool a)) (h2 : EvD K tb σ H (.bool b)) : EvD K (tAndV ta tb) σ H (.bool (a && b)) := fun H1 g Q q =>
  h1 H1 g _ fun v H2 g2 e => ⟨a, dp_bool e, by
    cases a with
    | true => exact iteT (h2 H2 (g.trans g2) _ fun w H3 g3 e3 => q w H3 (g2.trans g3) e3)
    | false => exact iteF (q _ H2 g2 (.bl false))⟩
end
end Wn
/-! sum of a tuple of whole numbers -/
namespace Wn
open PySem PySem.Spec PyProof.Rows L2
section
variable {prog : Program} {w : World} {A : Around} {E : Value → Shared → Prop} {s : Shared} {l : Addr} {its : List Value} {ns : List Int} {Q : Value → Shared → Prop}
theorem sum_tup0 {xs : Array (Int × Tok)} (hh : A.handled = none) (hl : s.heap.IsTuple l (intItems xs))
    (h : ∀ h' tk t', (∀ b o, s.heap.get? b = some o → h'.get? b = some o) → Q (.int (preSum (numAt xs) xs.size) t') { s with heap := h', toks := tk }) : wpAny (model prog w) A (call (.builtin "sum") [.ref l]) Q E s := by
  refine call_sum_walkG (wpAny_pyIter_tuple hl ?_)
  obtain ⟨o, ho, hc, n, hd⟩ := hl
  have lt : l < s.heap.objs.size := Heap.lt_size ho
  have kp : ∀ b u, s.heap.get? b = some u → (s.heap.push { cls := .type "tuple_iterator", data := .fields #[.ref l, .int 0 0] }).get? b = some u := fun b u e => Heap.get?_push_of_some _ e
  refine ⟨s.heap.objs.size, _, _, _, _, _, numAt xs, rfl, Walks.tuple (A := A.in1) hh s.heap.objs.size l (Nat.ne_of_lt lt) (intItems xs), ⟨⟨_, Heap.get?_push_size _ rfl, rfl, rfl⟩, ⟨o, kp _ _ ho, hc, n, hd⟩⟩, fun b hb => ?_, fun _ _ => intItems_at, fun h' tk t' hk => ?_⟩
  · have hz : (s.heap.push { cls := .type "tuple_iterator", data := .fields #[.ref l, .int 0 0] }).objs.size = s.heap.objs.size + 1 := by simp [Heap.push]
    simp only [List.mem_cons, List.not_mem_nil, or_false] at hb
    show b < (s.heap.push _).objs.size
    rw [hz]
    rcases hb with rfl | rfl
    · exact Nat.lt_succ_self _
    · exact Nat.lt_succ_of_lt lt
  · have := h h' tk t' (fun b u e => hk b u (by
      rw [List.mem_singleton]
      exact Nat.ne_of_lt (Heap.lt_size e)) (kp b u e))
    simpa [intItems] using this
theorem sum_tup (hh : A.handled = none) (hl : s.heap.IsTuple l its.toArray) (hi : IntsAre its ns)
    (h : ∀ h' tk t', (∀ b o, s.heap.get? b = some o → h'.get? b = some o) → Q (.int ns.sum t') { s with heap := h', toks := tk }) : wpAny (model prog w) A (call (.builtin "sum") [.ref l]) Q E s := by
  obtain ⟨xs, e⟩ := hi.allInts.items
  have hn : numsOf (intItems xs).toList = ns := by
    rw [← e]
    exact hi.numsOf
  rw [nums_intItems] at hn
  rw [e] at hl
  refine sum_tup0 hh hl fun h' tk t' hk => ?_
  have := h h' tk t' hk
  rw [preSum_eq, List.take_of_length_le (by simp), hn]
  exact this
end
def rSumT (K : PySem.W.Frag) : List V → Hp → VK → Prop := fun vs H Q => ∃ (a : Addr) (ns : List Int), vs = [V.ref a] ∧ SqT K H a (ns.map V.int) ∧ Q (.int ns.sum) H
theorem cr_sumT {X : Cx} (hc : X.calm = true) : CallR X (.builtin "sum") (rSumT X.K) := by
  intro pins s σ H vs us Q I r h
  obtain ⟨a, ns, rfl, hs, q⟩ := h
  obtain ⟨its, rv, hl, _⟩ := I.tuple hs
  rw [Vals.ref1 r]
  exact sum_tup (I.ok.hd hc) hl rv.ints fun h' tk t' hk => ⟨.int _, H, I.kept hk, ⟨_, rfl⟩, q⟩
end Wn
/-! a list with a step: xs[::k] -/
namespace Wn
open PySem PySem.Spec PyProof.Rows L2
def stepV (xs : List V) (k : Nat) : List V := (List.range ((xs.length + k - 1) / k)).filterMap fun i => xs[k * i]?
theorem vals_picks {xs : List V} {us : List Value} (r : Vals xs us) (f : Nat → Nat) : ∀ js : List Nat, Vals (js.filterMap fun i => xs[f i]?) (js.filterMap fun i => us[f i]?)
  | [] => .nil
  | j :: js => by
    have ih := vals_picks r f js
    cases e : xs[f j]? with
    | none =>
      have e2 := r.none_of e
      rw [List.filterMap_cons, List.filterMap_cons, e, e2]
      exact ih
    | some x =>
      obtain ⟨u, e2, h⟩ := r.get e
      rw [List.filterMap_cons, List.filterMap_cons, e, e2]
      exact .cons h ih
theorem pick_step (us : List Value) {k : Nat} (hk : 1 ≤ k) : slicePick us.toArray none none (some (k : Int)) = ((List.range ((us.length + k - 1) / k)).filterMap fun i => us[k * i]?).toArray := by
  have e : sliceBounds none none (some (k : Int)) us.toArray.size = ((0 : Int), (us.length : Int), (k : Int)) := by
    have h : (k : Int) > 0 := by omega
    simp only [sliceBounds, Option.getD_some, h, if_true, List.size_toArray]
  unfold slicePick
  rw [e]
  show (List.filterMap (fun i => us.toArray[i]?) (sliceRange 0 (us.length : Int) (k : Int))).toArray = _
  congr 1
  have e2 : sliceRange 0 (us.length : Int) (k : Int) = (List.range ((us.length + k - 1) / k)).map fun i => k * i := by
    unfold sliceRange
    have h : (k : Int) > 0 := by omega
    rw [if_pos h]
    have c : (if (0 : Int) < (us.length : Int) then ((us.length : Int) - 0 + k - 1) / k else 0).toNat = (us.length + k - 1) / k := by
      by_cases z : (0 : Int) < (us.length : Int)
      · rw [if_pos z, show ((us.length : Int) - 0 + k - 1) = ((us.length + k - 1 : Nat) : Int) by omega, ← Int.natCast_ediv]
        rfl
      · rw [if_neg z]
        have : us.length = 0 := by omega
        rw [this, Nat.zero_add, Nat.div_eq_of_lt (by omega)]
        rfl
    dsimp only
    rw [c]
    apply List.map_congr_left
    intro i _
    rw [Int.zero_add, ← Int.natCast_mul]
    rfl
  rw [e2, List.filterMap_map]
  congr 1
  funext i
  simp
theorem stepV_len (xs : List V) (k : Nat) (hk : 1 ≤ k) : (stepV xs k).length ≤ xs.length := by
  unfold stepV
  refine Nat.le_trans (List.length_filterMap_le _ _) ?_
  rw [List.length_range]
  rcases Nat.eq_zero_or_pos xs.length with z | z
  · rw [z, Nat.zero_add, Nat.div_eq_of_lt (by omega)]
    exact Nat.le_refl _
  · refine Nat.lt_succ_iff.mp ((Nat.div_lt_iff_lt_mul (by omega)).mpr ?_)
    have : xs.length * 1 ≤ xs.length * k := Nat.mul_le_mul_left _ hk
    rw [Nat.succ_mul]
    omega
def rStL (K : PySem.W.Frag) : V → V → Hp → VK → Prop := fun x y H Q => ∃ (a : Addr) (xs : List V) (k : Nat), x = .ref a ∧ y = .int k ∧ 1 ≤ k ∧ SqL K H a xs ∧ ∀ p, H p = none → Q (.ref p) (upd H p (.lst (stepV xs k)))
def tStL (r : R2) (te ts : TE) : TE := fun σ H Q => te σ H fun x H1 => ts σ H1 fun y H2 => r x y H2 Q
variable {X : Cx} {e st : Expr} {te ts : TE} {pos p2 : Pos}
theorem pe_stepL {r : R2} (he : PE X e te) (hs : PE X st ts) (hr : r = rStL X.K := by rfl) : PE X (.Subscript e (.Slice none none (some st) p2) pos) (tStL r te ts) := by
  subst hr
  refine ⟨fun pins s σ H Q I h => ?_⟩
  refine Subscript_ (thn (he.run pins s σ H _ I h) fun v s1 ⟨x, H1, I1, r1, q1⟩ => ?_)
  refine wpAny_Slice ?_
  rw [evalPart_none]
  refine wpAny_pure (wpAny_pure ?_)
  rw [evalPart_some]
  refine thn (hs.run pins s1 σ H1 _ I1 q1) fun vs s3 ⟨y, H3, I3, ry, q3⟩ => ?_
  obtain ⟨a, xs, k, rfl, rfl, hk, hx, q⟩ := q3
  cases r1
  obtain ⟨t, rfl⟩ := ry
  have I4 : Inv X pins σ H3 { s3 with heap := s3.heap.push { cls := .type "slice", data := .fields #[.none, .none, .int k t] } } := I3.kept (t' := s3.toks) fun b ob q => Heap.get?_push_of_some _ q
  obtain ⟨its, r, ht, hz⟩ := I4.list hx
  have hlen := r.length
  have hg : wpAny (model X.prog X.w) X.A (getItem (.ref a) (.ref s3.heap.objs.size)) (EP X pins σ Q) X.xe { s3 with heap := s3.heap.push { cls := .type "slice", data := .fields #[.none, .none, .int k t] } } := by
    refine wpAny_getItem_list_slice (st := some (k : Int)) ht.isList (Heap.IsSliceOf.new ..) .none .none (.int _ _) (by intro z; have := Option.some.inj z; omega) ?_ (by rw [List.size_toArray] <;> omega)
    rw [pick_step its hk, ← hlen]
    refine ⟨.ref _, _, I4.laid (t' := s3.toks) (o := .lst (stepV xs k)) (fun b ob q => Heap.get?_push_of_some _ q) (Nat.le_refl _) ?_, rfl, q _ (I4.hok.fresh (Nat.le_refl _))⟩
    exact ⟨Nat.le_trans (stepV_len xs k hk) hz, _, 0, vals_picks r _ _, Heap.get?_push_size _ rfl⟩
  show wpAny (model X.prog X.w) X.A (subscriptTail e (.Slice none none (some st) p2) (.ref a) (.ref s3.heap.objs.size)) (EP X pins σ Q) X.xe { s3 with heap := s3.heap.push { cls := .type "slice", data := .fields #[.none, .none, .int k t] } }
  exact tail_any (ops := [.ref a, .ref s3.heap.objs.size]) ht.isList.typeIs slot_list_getitem.lookup hg (by with_unfolding_all rfl)
end Wn
/-! sums of powers, and which cuts balance -/
namespace Wn
open PySem PySem.Spec PyProof.Rows L2
def geo (g : Nat) : Nat → Nat
  | 0 => 0
  | c + 1 => geo g c + g ^ c
theorem geo_add (g a : Nat) : ∀ d, geo g (a + d) = geo g a + g ^ a * geo g d
  | 0 => by simp [geo]
  | d + 1 => by
    rw [← Nat.add_assoc]
    show geo g (a + d) + g ^ (a + d) = geo g a + g ^ a * (geo g d + g ^ d)
    rw [geo_add g a d, Nat.mul_add, Nat.pow_add, Nat.add_assoc]
theorem geo_mul (g m : Nat) : ∀ c, geo g (m * c) = geo g m * geo (g ^ m) c
  | 0 => by simp [geo]
  | c + 1 => by
    show geo g (m * c + m) = geo g m * (geo (g ^ m) c + (g ^ m) ^ c)
    rw [geo_add, geo_mul g m c, Nat.mul_add, ← Nat.pow_mul, Nat.mul_comm (g ^ (m * c))]
theorem geo_tel (g : Nat) : ∀ c, geo g c * g + 1 = geo g c + g ^ c
  | 0 => by simp [geo]
  | c + 1 => by
    show (geo g c + g ^ c) * g + 1 = geo g c + g ^ c + g ^ (c + 1)
    rw [Nat.add_mul, Nat.pow_succ]
    have := geo_tel g c
    omega
def restSum (b n x s c : Nat) : Nat := ((List.range c).map fun i => rem b n x (s * i)).sum
theorem restSum_succ (b n x s c : Nat) : restSum b n x s (c + 1) = restSum b n x s c + rem b n x (s * c) := by
  unfold restSum
  rw [List.range_succ, List.map_append, List.sum_append]
  simp
theorem restSum_mod (b n x s : Nat) : ∀ c, restSum b n x s c % n = x * geo (b ^ s) c % n
  | 0 => by simp [restSum, geo]
  | c + 1 => by
    rw [restSum_succ, Nat.add_mod, restSum_mod b n x s c]
    show (_ + rem b n x (s * c) % n) % n = x * (geo (b ^ s) c + (b ^ s) ^ c) % n
    rw [Nat.mul_add, Nat.add_mod (x * _)]
    unfold rem
    rw [Nat.mod_mod, Nat.pow_mul]
def bal (b n s c : Nat) : Bool := decide (restSum b n 1 s c % n = 0)
theorem bal_iff {b n s c : Nat} : bal b n s c = true ↔ n ∣ geo (b ^ s) c := by
  unfold bal
  rw [decide_eq_true_eq, restSum_mod, Nat.one_mul]
  exact (Nat.dvd_iff_mod_eq_zero ..).symm
theorem bal_mul {b n s c m : Nat} (h : bal b n (m * s) c = true) : bal b n s (m * c) = true := by
  rw [bal_iff] at h ⊢
  rw [geo_mul, ← Nat.pow_mul, Nat.mul_comm s m]
  exact Nat.dvd_trans h (Nat.dvd_mul_left _ _)
theorem bal_prime {b n s c L : Nat} (hb : 1 ≤ b) (hn : 2 ≤ n) (hp : ∀ k, 2 ≤ k → k < n → ¬ n % k = 0) (hL : IsPer b n L) (hc : 2 ≤ c) (hs : 1 ≤ s) (e : L = s * c) : bal b n s c = true := by
  rw [bal_iff]
  have hsL : s < L := by
    rw [e]
    have : s * 2 ≤ s * c := Nat.mul_le_mul_left _ hc
    omega
  have g1 : 1 ≤ b ^ s := Nat.one_le_pow _ _ hb
  have h1 : (b ^ s) ^ c % n = 1 % n := by
    rw [← Nat.pow_mul, ← e]
    exact hL.2.1
  have h2 : ¬ n ∣ b ^ s - 1 := fun z => hL.2.2 s hs hsL ((mod_iff g1).mpr z).symm
  have t := geo_tel (b ^ s) c
  have t2 : geo (b ^ s) c * (b ^ s - 1) = (b ^ s) ^ c - 1 := by
    rw [Nat.mul_sub, Nat.mul_one]
    omega
  have h3 : n ∣ geo (b ^ s) c * (b ^ s - 1) := by
    rw [t2]
    exact (mod_iff (Nat.one_le_pow _ _ g1)).mp h1.symm
  have hd : Nat.gcd n (b ^ s - 1) ∣ n := Nat.gcd_dvd_left _ _
  have hdn := Nat.le_of_dvd (by omega) hd
  have hd0 : 1 ≤ Nat.gcd n (b ^ s - 1) := Nat.gcd_pos_of_pos_left _ (by omega)
  have hd1 : Nat.gcd n (b ^ s - 1) = 1 := by
    rcases Nat.lt_or_eq_of_le hdn with z | z
    · rcases Nat.lt_or_eq_of_le hd0 with y | y
      · exact absurd (Nat.mod_eq_zero_of_dvd hd) (hp _ y z)
      · exact y.symm
    · exact absurd (z ▸ Nat.gcd_dvd_right n (b ^ s - 1)) h2
  exact Nat.Coprime.dvd_of_dvd_mul_right hd1 h3
/-! which cuts -/
def from2 (k : Nat) : List Nat := (List.range k).map (2 + ·)
theorem from2_succ (k : Nat) : from2 (k + 1) = from2 k ++ [2 + k] := by
  unfold from2
  rw [List.range_succ, List.map_append]
  rfl
theorem mem_from2 {k c : Nat} : c ∈ from2 k ↔ 2 ≤ c ∧ c < 2 + k := by
  unfold from2
  rw [List.mem_map]
  constructor
  · rintro ⟨i, hi, rfl⟩
    rw [List.mem_range] at hi
    omega
  · rintro ⟨h1, h2⟩
    exact ⟨c - 2, List.mem_range.mpr (by omega), by omega⟩
def splitsL (L : Nat) : List Nat := (from2 (L - 1)).filter fun c => decide (L % c = 0)
theorem mem_splits {L c : Nat} (hL : 1 ≤ L) : c ∈ splitsL L ↔ 2 ≤ c ∧ c ∣ L := by
  unfold splitsL
  rw [List.mem_filter, mem_from2, decide_eq_true_eq]
  constructor
  · rintro ⟨⟨h1, h2⟩, h3⟩
    exact ⟨h1, Nat.dvd_of_mod_eq_zero h3⟩
  · rintro ⟨h1, h2⟩
    have := Nat.le_of_dvd hL h2
    exact ⟨⟨h1, by omega⟩, Nat.mod_eq_zero_of_dvd h2⟩
def dueL (b n L : Nat) : List Nat := (splitsL L).filter fun c => bal b n (L / c) c
def below (xs : List Nat) (c : Nat) : List Nat := xs.filter fun k => decide (k < c) && decide (c % k = 0)
def isLeast (xs : List Nat) (c : Nat) : Bool := (below xs c).isEmpty
def leastL (xs : List Nat) : List Nat := xs.filter (isLeast xs)
theorem asc_splits (L : Nat) : (splitsL L).Pairwise (· < ·) := by
  unfold splitsL from2
  refine List.Pairwise.filter _ ?_
  rw [List.pairwise_map]
  exact List.Pairwise.imp (fun h => by omega) List.pairwise_lt_range
theorem asc_due (b n L : Nat) : (dueL b n L).Pairwise (· < ·) := (asc_splits L).filter _
theorem isLeast_iff {xs : List Nat} {c : Nat} : isLeast xs c = true ↔ ∀ k ∈ xs, k < c → ¬ c % k = 0 := by
  unfold isLeast below
  rw [List.isEmpty_iff, List.filter_eq_nil_iff]
  constructor
  · intro h k hk hc hm
    exact h k hk (by rw [decide_eq_true hc, decide_eq_true hm]; rfl)
  · intro h k hk hm
    rw [Bool.and_eq_true, decide_eq_true_eq, decide_eq_true_eq] at hm
    exact h k hk hm.1 hm.2
theorem least_under {xs : List Nat} (h2 : ∀ k ∈ xs, 1 ≤ k) : ∀ (m k : Nat), k ≤ m → k ∈ xs → ∃ k0 ∈ xs, k0 ∣ k ∧ isLeast xs k0 = true
  | 0, k, hm, hk => absurd (h2 k hk) (by omega)
  | m + 1, k, hm, hk => by
    by_cases h : isLeast xs k = true
    · exact ⟨k, hk, Nat.dvd_refl k, h⟩
    · rw [isLeast_iff] at h
      have : ∃ j, j ∈ xs ∧ j < k ∧ k % j = 0 := by
        apply Classical.byContradiction
        intro z
        exact h fun j hj hl hm' => z ⟨j, hj, hl, hm'⟩
      obtain ⟨j, hj, hl, hm'⟩ := this
      obtain ⟨k0, h0, hd, hs⟩ := least_under h2 m j (by omega) hj
      exact ⟨k0, h0, Nat.dvd_trans hd (Nat.dvd_of_mod_eq_zero hm'), hs⟩
/-- the look at the least ones found so far -/
theorem least_step {xs : List Nat} (h2 : ∀ k ∈ xs, 1 ≤ k) (asc : xs.Pairwise (· < ·)) {i : Nat} (hi : i < xs.length) :
    (((xs.take i).filter (isLeast xs)).map fun k => !decide (xs[i] % k = 0)).all id = isLeast xs xs[i] := by
  rw [Bool.eq_iff_iff, List.all_map, List.all_eq_true, isLeast_iff]
  have lt : ∀ k ∈ xs.take i, k < xs[i] := fun k hk => by
    obtain ⟨j, hj, rfl⟩ := List.mem_iff_getElem.mp hk
    rw [List.length_take] at hj
    rw [List.getElem_take]
    exact List.pairwise_iff_getElem.mp asc j i (by omega) hi (by omega)
  have back : ∀ k ∈ xs, k < xs[i] → k ∈ xs.take i := fun k hk hl => by
    obtain ⟨j, hj, rfl⟩ := List.mem_iff_getElem.mp hk
    rw [List.mem_iff_getElem]
    have hji : j < i := by
      rcases Nat.lt_trichotomy j i with z | z | z
      · exact z
      · subst z
        omega
      · have := List.pairwise_iff_getElem.mp asc i j hi hj z
        omega
    exact ⟨j, by rw [List.length_take]; omega, by rw [List.getElem_take]⟩
  constructor
  · intro h k hk hl hm
    obtain ⟨k0, h0, hd, hs⟩ := least_under h2 k k (Nat.le_refl _) hk
    have hk0 : k0 < xs[i] := Nat.lt_of_le_of_lt (Nat.le_of_dvd (h2 k hk) hd) hl
    have := h k0 (List.mem_filter.mpr ⟨back k0 h0 hk0, hs⟩)
    rw [Function.comp_apply, id_eq, Bool.not_eq_true', decide_eq_false_iff_not] at this
    exact this (Nat.mod_eq_zero_of_dvd (Nat.dvd_trans hd (Nat.dvd_of_mod_eq_zero hm)))
  · intro h k hk
    obtain ⟨hk1, hk2⟩ := List.mem_filter.mp hk
    rw [Function.comp_apply, id_eq, Bool.not_eq_true', decide_eq_false_iff_not]
    exact h k (List.mem_of_mem_take hk1) (lt k hk1)
theorem due_mul {b n L c k : Nat} (hL : 1 ≤ L) (hc : c ∈ dueL b n L) (hk : k ∈ splitsL L) (hd : k % c = 0) : k ∈ dueL b n L := by
  obtain ⟨hc1, hc2⟩ := List.mem_filter.mp hc
  refine List.mem_filter.mpr ⟨hk, ?_⟩
  obtain ⟨k1, k2⟩ := (mem_splits hL).mp hk
  obtain ⟨c1, c2⟩ := (mem_splits hL).mp hc1
  obtain ⟨m, rfl⟩ := Nat.dvd_of_mod_eq_zero hd
  obtain ⟨s, rfl⟩ := k2
  have hm : 1 ≤ m := by
    rcases Nat.eq_zero_or_pos m with z | z
    · subst z
      omega
    · exact z
  have e1 : c * m * s / c = m * s := by
    rw [Nat.mul_assoc]
    exact Nat.mul_div_cancel_left _ (by omega)
  have e2 : c * m * s / (c * m) = s := Nat.mul_div_cancel_left _ (by omega)
  rw [e1] at hc2
  rw [e2, Nat.mul_comm c m]
  exact bal_mul hc2
theorem due_prime {b n L : Nat} (hb : 1 ≤ b) (hn : 2 ≤ n) (hp : ∀ k, 2 ≤ k → k < n → ¬ n % k = 0) (hL : IsPer b n L) : dueL b n L = splitsL L := by
  unfold dueL
  rw [List.filter_eq_self]
  intro c hc
  obtain ⟨h1, s, e⟩ := (mem_splits hL.1).mp hc
  have hs : 1 ≤ s := by
    rcases Nat.eq_zero_or_pos s with z | z
    · rw [z, Nat.mul_zero] at e
      have := hL.1
      omega
    · exact z
  have : L / c = s := by
    rw [e]
    exact Nat.mul_div_cancel_left _ (by omega)
  rw [this]
  exact bal_prime hb hn hp hL h1 hs (by rw [e, Nat.mul_comm])
/-! lists of whole numbers from 0 on -/
def vn (xs : List Nat) : List V := xs.map fun k => V.int (k : Nat)
def ni (xs : List Nat) : List Int := xs.map fun k => ((k : Nat) : Int)
theorem vn_ni (xs : List Nat) : vn xs = (ni xs).map V.int := by
  unfold vn ni
  rw [List.map_map]
  rfl
theorem vn_len (xs : List Nat) : (vn xs).length = xs.length := by simp [vn]
theorem vn_snoc (xs : List Nat) (k : Nat) : vn xs ++ [V.int (k : Nat)] = vn (xs ++ [k]) := by simp [vn]
theorem vn_get {xs : List Nat} {i : Nat} {y : V} (h : (vn xs)[i]? = some y) : ∃ hi : i < xs.length, y = V.int (xs[i] : Nat) := by
  unfold vn at h
  rw [List.getElem?_map] at h
  cases e : xs[i]? with
  | none =>
    rw [e] at h
    cases h
  | some n =>
    rw [e] at h
    obtain ⟨hi, e2⟩ := List.getElem?_eq_some_iff.mp e
    subst e2
    exact ⟨hi, (Option.some.inj h).symm⟩
theorem ni_sum : ∀ xs : List Nat, (ni xs).sum = ((xs.sum : Nat) : Int)
  | [] => rfl
  | x :: r => by
    show (x : Int) + (ni r).sum = ((x + r.sum : Nat) : Int)
    rw [ni_sum r]
    omega
theorem filt_yes {xs : List Nat} {g : Nat → Bool} {i : Nat} (hi : i < xs.length) (h : g xs[i] = true) : (xs.take (i + 1)).filter g = (xs.take i).filter g ++ [xs[i]] := by
  rw [List.take_succ_eq_append_getElem hi, List.filter_append, List.filter_cons, if_pos h]
  rfl
theorem filt_no {xs : List Nat} {g : Nat → Bool} {i : Nat} (hi : i < xs.length) (h : g xs[i] = false) : (xs.take (i + 1)).filter g = (xs.take i).filter g := by
  rw [List.take_succ_eq_append_getElem hi, List.filter_append, List.filter_cons, if_neg (by rw [h]; decide)]
  simp
theorem from2_len (k : Nat) : (from2 k).length = k := by simp [from2]
theorem from2_get {k i : Nat} (h : i < k) : (from2 k)[i]'(by rw [from2_len]; exact h) = 2 + i := by simp [from2]
theorem eqv_niL (ys : List Nat) : PyData.eqv (.list ((ni ys).map PyData.int)) (.list []) = ys.isEmpty := by
  cases ys with
  | nil => rfl
  | cons y r => rfl
theorem inV_ni (k : Nat) : ∀ xs : List Nat, inV (.int (k : Nat)) (vn xs) = decide (k ∈ xs) := by
  intro xs
  induction xs with
  | nil => rfl
  | cons y r ih =>
    show ((((y : Nat) : Int) == ((k : Nat) : Int)) || inV (.int (k : Nat)) (vn r)) = _
    rw [ih, Bool.eq_iff_iff, Bool.or_eq_true, beq_iff_eq, decide_eq_true_eq, decide_eq_true_eq, List.mem_cons]
    constructor
    · rintro (h | h)
      · exact .inl (by omega)
      · exact .inr h
    · rintro (h | h)
      · exact .inl (by omega)
      · exact .inr h
theorem flat_ni : ∀ xs : List Nat, (vn xs).all flatV = true
  | [] => rfl
  | _ :: r => flat_ni r
theorem blkOk_of {N N0 : List Str} {sc sc0 scope : Scope} {own : List (Str × Nat)} (hN : N = N0) (hs : sc = sc0) (h : blkC N0 sc0 scope own = true) : BlkOk N sc scope own := by
  subst hN hs
  exact blkOk_by h
end Wn
/-! values of digits, and the sum of the pieces -/
namespace Wn
open PySem PySem.Spec PyProof.Rows L2
def wrt (b : Nat) (ds : List Nat) : Nat := ds.foldl (fun f d => f * b + d) 0
theorem wrt_snoc (b : Nat) (ds : List Nat) (d : Nat) : wrt b (ds ++ [d]) = wrt b ds * b + d := by simp [wrt]
def dg (b n x lo c : Nat) : List Nat := (List.range c).map fun i => rem b n x (lo + i) * b / n
theorem dg_len (b n x lo c : Nat) : (dg b n x lo c).length = c := by simp [dg]
theorem dg_succ (b n x lo c : Nat) : dg b n x lo (c + 1) = dg b n x lo c ++ [rem b n x (lo + c) * b / n] := by
  unfold dg
  rw [List.range_succ, List.map_append]
  rfl
theorem wrt_dg (b n x lo : Nat) : ∀ c, n * wrt b (dg b n x lo c) + rem b n x (lo + c) = rem b n x lo * b ^ c
  | 0 => by simp [dg, wrt]
  | c + 1 => by
    have ih := wrt_dg b n x lo c
    have dm := Nat.div_add_mod (rem b n x (lo + c) * b) n
    rw [rem_succ] at dm
    rw [dg_succ, wrt_snoc, Nat.pow_succ, ← Nat.mul_assoc, ← ih, Nat.mul_add, Nat.add_mul, ← Nat.mul_assoc]
    have e : lo + (c + 1) = lo + c + 1 := rfl
    rw [e]
    omega
/-- the value of piece number j of k digits -/
def pce (b n x k j : Nat) : Nat := wrt b (dg b n x (k * j) k)
def pcs (b n x k c : Nat) : List Nat := (List.range c).map (pce b n x k)
theorem pcs_len (b n x k c : Nat) : (pcs b n x k c).length = c := by simp [pcs]
theorem pcs_succ (b n x k c : Nat) : pcs b n x k (c + 1) = pcs b n x k c ++ [pce b n x k c] := by
  unfold pcs
  rw [List.range_succ, List.map_append]
  rfl
theorem pcs_sum (b n x k : Nat) : ∀ c, n * (pcs b n x k c).sum + restSum b n x k c + rem b n x (k * c) = b ^ k * restSum b n x k c + rem b n x 0
  | 0 => by simp [pcs, restSum]
  | c + 1 => by
    have ih := pcs_sum b n x k c
    have w := wrt_dg b n x (k * c) k
    have e : k * (c + 1) = k * c + k := rfl
    rw [e, pcs_succ, List.sum_append, restSum_succ, Nat.mul_add, Nat.mul_add]
    have e2 : ([pce b n x k c] : List Nat).sum = pce b n x k c := by simp
    rw [e2]
    unfold pce
    rw [Nat.mul_comm (b ^ k) (rem b n x (k * c)), ← w]
    omega
theorem pcs_all {b n x k c : Nat} (hb : 1 ≤ b) (h : rem b n x (k * c) = rem b n x 0) : n * (pcs b n x k c).sum = (b ^ k - 1) * restSum b n x k c := by
  have e := pcs_sum b n x k c
  rw [h] at e
  have h1 : 1 ≤ b ^ k := Nat.one_le_pow _ _ hb
  rw [Nat.sub_mul, Nat.one_mul]
  omega
theorem pcs_quot {b n x k c : Nat} (hb : 2 ≤ b) (hk : 1 ≤ k) (hn : 1 ≤ n) (h : rem b n x (k * c) = rem b n x 0) :
    ((pcs b n x k c).sum % (b ^ k - 1) = 0 ↔ restSum b n x k c % n = 0) ∧ (restSum b n x k c % n = 0 → (pcs b n x k c).sum / (b ^ k - 1) = restSum b n x k c / n) := by
  have e := pcs_all (b := b) (n := n) (x := x) (k := k) (c := c) (by omega) h
  have h1 : 2 ≤ b ^ k := Nat.le_trans hb (Nat.le_self_pow (by omega) b)
  generalize (pcs b n x k c).sum = S at e ⊢
  generalize restSum b n x k c = R at e ⊢
  generalize hm : b ^ k - 1 = m at e ⊢
  have m1 : 1 ≤ m := by omega
  refine ⟨⟨fun z => ?_, fun z => ?_⟩, fun z => ?_⟩
  · obtain ⟨q, rfl⟩ := Nat.dvd_of_mod_eq_zero z
    have : m * R = m * (n * q) := by rw [← e, Nat.mul_left_comm]
    rw [Nat.eq_of_mul_eq_mul_left m1 this]
    exact Nat.mul_mod_right _ _
  · obtain ⟨q, rfl⟩ := Nat.dvd_of_mod_eq_zero z
    have : n * S = n * (m * q) := by rw [e, Nat.mul_left_comm]
    rw [Nat.eq_of_mul_eq_mul_left hn this]
    exact Nat.mul_mod_right _ _
  · obtain ⟨q, rfl⟩ := Nat.dvd_of_mod_eq_zero z
    have : n * S = n * (m * q) := by rw [e, Nat.mul_left_comm]
    rw [Nat.eq_of_mul_eq_mul_left hn this, Nat.mul_div_cancel_left _ m1, Nat.mul_div_cancel_left _ hn]
theorem pce_lt {b n x k j : Nat} (hb : 1 ≤ b) (hn : 1 ≤ n) : pce b n x k j < b ^ k := by
  have w := wrt_dg b n x (k * j) k
  have r := rem_lt (b := b) (n := n) (x := x) (i := k * j) hn
  unfold pce
  have h1 : n * wrt b (dg b n x (k * j) k) ≤ rem b n x (k * j) * b ^ k := by omega
  have h2 : rem b n x (k * j) * b ^ k < n * b ^ k := Nat.mul_lt_mul_of_pos_right r (Nat.pow_pos hb)
  exact Nat.lt_of_mul_lt_mul_left (Nat.lt_of_le_of_lt h1 h2)
theorem rem_period {b n x L : Nat} (h : b ^ L % n = 1 % n) : rem b n x L = rem b n x 0 := by
  unfold rem
  rw [Nat.mul_mod, h, ← Nat.mul_mod, Nat.pow_zero]
/-! whole numbers of more signs -/
theorem Sm.intB {i : Int} {k : Nat} (hk : 1 ≤ k) (h : i.natAbs < 2 ^ k) (hk2 : k ≤ 1000) : Sm (.int i) 303 0 k := by
  have hl := log2_lt hk h
  have h12 : i.natAbs < 10 ^ 302 := Nat.lt_of_lt_of_le h (Nat.le_trans (Nat.pow_le_pow_right (by decide) hk2) (by decide +kernel))
  refine ⟨?_, ?_, rfl, rfl, Nat.le_refl _, ?_⟩
  · show decide (i.natAbs.log2 < 1920) = true
    exact decide_eq_true (by omega)
  · show decide ((PyData.shown (.int i)).length ≤ 303) = true
    refine decide_eq_true ?_
    have e := int_text_length_le10 (k := 302) (by decide) h12
    show (Str.ofString (toString i)).length ≤ 303
    rw [PySem.ofString_length]
    exact e
  · show (if i == 0 then 0 else i.natAbs.log2 + 1) ≤ k
    split <;> omega
end Wn
/-! the primes of a number, as the law takes them out -/
namespace Wn
open PySem PySem.Spec PyProof.Rows L2
def strip (k : Nat) : Nat → Nat → Nat → Nat × Nat
  | 0, left, part => (left, part)
  | f + 1, left, part => if left % k = 0 then strip k f (left / k) (part * k) else (left, part)
def prs : Nat → Nat → Nat → List (Nat × Nat)
  | 0, _, _ => []
  | f + 1, left, k => if left ≤ 1 then [] else
    (if (strip k left left 1).2 ≤ 1 then [] else [(k, (strip k left left 1).2)]) ++ prs f (strip k left left 1).1 (k + 1)
theorem prs_done : ∀ f left k, left ≤ 1 → prs f left k = []
  | 0, _, _, _ => rfl
  | f + 1, left, k, h => by
    unfold prs
    rw [if_pos h]
theorem prs_step {f left k : Nat} (h : ¬ left ≤ 1) : prs (f + 1) left k = (if (strip k left left 1).2 ≤ 1 then [] else [(k, (strip k left left 1).2)]) ++ prs f (strip k left left 1).1 (k + 1) := by
  rw [show prs (f + 1) left k = if left ≤ 1 then [] else (if (strip k left left 1).2 ≤ 1 then [] else [(k, (strip k left left 1).2)]) ++ prs f (strip k left left 1).1 (k + 1) from rfl, if_neg h]
theorem strip_step {k f left part : Nat} (h : left % k = 0) : strip k (f + 1) left part = strip k f (left / k) (part * k) := by
  rw [show strip k (f + 1) left part = if left % k = 0 then strip k f (left / k) (part * k) else (left, part) from rfl, if_pos h]
theorem strip_no {k : Nat} : ∀ {f left part : Nat}, ¬ left % k = 0 → strip k f left part = (left, part)
  | 0, _, _, _ => rfl
  | f + 1, left, part, h => by
    rw [show strip k (f + 1) left part = if left % k = 0 then strip k f (left / k) (part * k) else (left, part) from rfl, if_neg h]
/-- what is left: it divides what was there, and k divides it no more -/
theorem strip_facts {k : Nat} (hk : 2 ≤ k) : ∀ (f left part : Nat), left ≤ f → 1 ≤ left → 1 ≤ part → (strip k f left part).1 ∣ left ∧ 1 ≤ (strip k f left part).1 ∧ ¬ (strip k f left part).1 % k = 0 ∧ 1 ≤ (strip k f left part).2 ∧ (strip k f left part).1 * (strip k f left part).2 = left * part
  | 0, left, part, h, h1, _ => absurd h1 (by omega)
  | f + 1, left, part, h, h1, h2 => by
    by_cases z : left % k = 0
    · rw [strip_step z]
      obtain ⟨q, rfl⟩ := Nat.dvd_of_mod_eq_zero z
      have hq : k * q / k = q := Nat.mul_div_cancel_left _ (by omega)
      have q1 : 1 ≤ q := by
        rcases Nat.eq_zero_or_pos q with e | e
        · rw [e] at h1
          omega
        · exact e
      have : 2 * q ≤ k * q := Nat.mul_le_mul_right _ hk
      rw [hq]
      have p1 : 1 * 1 ≤ part * k := Nat.mul_le_mul h2 (by omega)
      obtain ⟨a, b, c, d, e⟩ := strip_facts hk f q (part * k) (by omega) q1 (by omega)
      refine ⟨Nat.dvd_trans a (Nat.dvd_mul_left _ _), b, c, d, ?_⟩
      rw [e, ← Nat.mul_assoc, Nat.mul_comm q part, Nat.mul_comm (k * q) part, Nat.mul_comm k q, Nat.mul_assoc]
    · rw [strip_no z]
      exact ⟨Nat.dvd_refl _, h1, z, h2, rfl⟩
def primesL (n : Nat) : List (Nat × Nat) := prs n n 2
def goalN (p c far : Nat) : Nat := if p = 2 ∧ far % 4 = 3 then (if c % 2 = 0 then (far + 1) * c / 2 else 1) else c
def byP (n c far : Nat) : Bool := (primesL n).all fun r => !decide ((far - 1) % r.1 = 0) || decide (goalN r.1 c far % r.2 = 0)
/-- the same, of one quotient of great numbers -/
def balQ (b n s c : Nat) : Bool := decide ((b ^ (s * c) - 1) / (b ^ s - 1) % n = 0)
theorem geo_quot {g : Nat} (h : 2 ≤ g) (c : Nat) : (g ^ c - 1) / (g - 1) = geo g c := by
  have t := geo_tel g c
  have t2 : (g - 1) * geo g c = g ^ c - 1 := by
    rw [Nat.mul_comm, Nat.mul_sub, Nat.mul_one]
    omega
  rw [← t2]
  exact Nat.mul_div_cancel_left _ (by omega)
theorem bal_Q {b n s c : Nat} (hb : 2 ≤ b) (hs : 1 ≤ s) : bal b n s c = balQ b n s c := by
  have h1 : 2 ≤ b ^ s := Nat.le_trans hb (Nat.le_self_pow (by omega) b)
  unfold balQ
  rw [Nat.pow_mul, geo_quot h1, Bool.eq_iff_iff, bal_iff, decide_eq_true_eq]
  exact Nat.dvd_iff_mod_eq_zero ..
def chk (B N : Nat) : Bool := (List.range B).all fun b => (List.range N).all fun n => (List.range (N + 2)).all fun L => L == 0 || !((2 + b) ^ L % (2 + n) == 1) ||
  (List.range L).all fun i => !(L % (i + 1) == 0) || i == 0 || balQ (2 + b) (2 + n) (L / (i + 1)) (i + 1) == byP (2 + n) (i + 1) ((2 + b) ^ (L / (i + 1)))

end Wn
namespace Wn
open PySem PySem.Spec PyProof.Rows L2
local macro_rules | `(tactic| walk_at "vc") => `(tactic| simp only [cxK, cxK2, start1, start2, start3, tRet, tRetN, tSeq, tNext, tIfS, tAsg, gName, tDrop, tVar, tC, tOp, tUn, tTest, tB, tNot, tAnd, tOr, tAndV, tOrV, tNotV, tIf, tCons, tNil, tCB, tCall, tChain, tAug, ipI, rI, rI0, rU, rIs, rGcd, rEq, rNe, scal,
  List.getElem?_cons_zero, List.getElem?_cons_succ, List.set_cons_zero, List.set_cons_succ, Option.some.injEq, List.cons.injEq, V.int.injEq, V.bl.injEq, V.ref.injEq, V.str.injEq, and_true, true_and, exists_eq_left, exists_eq_left', exists_and_left, exists_and_right, List.append_nil, List.nil_append, List.cons_append, exists_eq_right, exists_eq_right', and_assoc, exists_const, V.ty.injEq, ↓reduceIte, Bool.false_eq_true, Bool.not_true, Bool.not_false, decide_eq_true_eq])
def topS (i : Nat) : Stmt := PySem.Challenge.pw_wheelnines_k07_whole_balance.main.body.getD i (.Pass ⟨0, 0, 0, 0⟩)
abbrev s_is_integer : Stmt := topS 10
theorem sc_is_integer : FnScope ["value"] ["value"] (defScope s_is_integer) := ⟨rfl, rfl, rfl, by decide +kernel, rfl, by decide +kernel, by decide +kernel⟩
abbrev s_is_within : Stmt := topS 11
theorem sc_is_within : FnScope ["value", "low", "high"] ["value", "low", "high"] (defScope s_is_within) := ⟨rfl, rfl, rfl, by decide +kernel, rfl, by decide +kernel, by decide +kernel⟩
abbrev s_need_base : Stmt := topS 12
theorem sc_need_base : FnScope ["value"] ["value"] (defScope s_need_base) := ⟨rfl, rfl, rfl, by decide +kernel, rfl, by decide +kernel, by decide +kernel⟩
abbrev s_need_denominator : Stmt := topS 13
theorem sc_need_denominator : FnScope ["value"] ["value"] (defScope s_need_denominator) := ⟨rfl, rfl, rfl, by decide +kernel, rfl, by decide +kernel, by decide +kernel⟩
abbrev s_need_fraction : Stmt := topS 14
theorem sc_need_fraction : FnScope ["value", "numerator", "denominator"] ["value"] (defScope s_need_fraction) := ⟨rfl, rfl, rfl, by decide +kernel, rfl, by decide +kernel, by decide +kernel⟩
abbrev s_need_pure : Stmt := topS 15
theorem sc_need_pure : FnScope ["base", "denominator"] ["base", "denominator"] (defScope s_need_pure) := ⟨rfl, rfl, rfl, by decide +kernel, rfl, by decide +kernel, by decide +kernel⟩
abbrev s_need_pure_fraction : Stmt := topS 16
theorem sc_need_pure_fraction : FnScope ["base", "fraction"] ["base", "fraction"] (defScope s_need_pure_fraction) := ⟨rfl, rfl, rfl, by decide +kernel, rfl, by decide +kernel, by decide +kernel⟩
abbrev s_pure_part : Stmt := topS 17
theorem sc_pure_part : FnScope ["base", "denominator", "pure", "common"] ["base", "denominator"] (defScope s_pure_part) := ⟨rfl, rfl, rfl, by decide +kernel, rfl, by decide +kernel, by decide +kernel⟩
abbrev s_period : Stmt := topS 18
theorem sc_period : FnScope ["base", "denominator", "pure", "one", "rest", "size"] ["base", "denominator"] (defScope s_period) := ⟨rfl, rfl, rfl, by decide +kernel, rfl, by decide +kernel, by decide +kernel⟩
abbrev s_power_rest : Stmt := topS 19
theorem sc_power_rest : FnScope ["number", "exponent", "divisor", "rest", "square", "left"] ["number", "exponent", "divisor"] (defScope s_power_rest) := ⟨rfl, rfl, rfl, by decide +kernel, rfl, by decide +kernel, by decide +kernel⟩
abbrev s_piece_size : Stmt := topS 21
theorem sc_piece_size : FnScope ["base", "denominator", "cut", "size"] ["base", "denominator", "cut"] (defScope s_piece_size) := ⟨rfl, rfl, rfl, by decide +kernel, rfl, by decide +kernel, by decide +kernel⟩
abbrev s_spaced : Stmt := topS 22
theorem sc_spaced : FnScope ["base", "fraction", "size", "count", "numerator", "denominator", "step", "rests", "rest", "_"] ["base", "fraction", "size", "count"] (defScope s_spaced) := ⟨rfl, rfl, rfl, by decide +kernel, rfl, by decide +kernel, by decide +kernel⟩
abbrev s_quotient : Stmt := topS 23
theorem sc_quotient : FnScope ["base", "fraction", "cut", "size", "total"] ["base", "fraction", "cut"] (defScope s_quotient) := ⟨rfl, rfl, rfl, by decide +kernel, rfl, by decide +kernel, by decide +kernel⟩
abbrev s_is_balanced_with : Stmt := topS 24
theorem sc_is_balanced_with : FnScope ["base", "denominator", "size", "cut"] ["base", "denominator", "size", "cut"] (defScope s_is_balanced_with) := ⟨rfl, rfl, rfl, by decide +kernel, rfl, by decide +kernel, by decide +kernel⟩
abbrev s_is_balanced : Stmt := topS 25
theorem sc_is_balanced : FnScope ["base", "denominator", "cut"] ["base", "denominator", "cut"] (defScope s_is_balanced) := ⟨rfl, rfl, rfl, by decide +kernel, rfl, by decide +kernel, by decide +kernel⟩
abbrev s_law_begun : Stmt := topS 27
theorem sc_law_begun : FnScope ["script", "great", "cell"] ["script"] (defScope s_law_begun) := ⟨rfl, rfl, rfl, by decide +kernel, rfl, by decide +kernel, by decide +kernel⟩
abbrev s_law_draw : Stmt := topS 28
theorem sc_law_draw : FnScope ["m", "limit", "found", "spot", "cell", "mixed"] ["m", "limit"] (defScope s_law_draw) := ⟨rfl, rfl, rfl, by decide +kernel, rfl, by decide +kernel, by decide +kernel⟩
abbrev s_law_of : Stmt := topS 29
theorem sc_law_of : FnScope ["m", "some"] ["m", "some"] (defScope s_law_of) := ⟨rfl, rfl, rfl, by decide +kernel, rfl, by decide +kernel, by decide +kernel⟩
abbrev s_law_divisor : Stmt := topS 30
theorem sc_law_divisor : FnScope ["one", "other"] ["one", "other"] (defScope s_law_divisor) := ⟨rfl, rfl, rfl, by decide +kernel, rfl, by decide +kernel, by decide +kernel⟩
abbrev s_law_pure : Stmt := topS 31
theorem sc_law_pure : FnScope ["m", "b", "most", "n"] ["m", "b", "most"] (defScope s_law_pure) := ⟨rfl, rfl, rfl, by decide +kernel, rfl, by decide +kernel, by decide +kernel⟩
abbrev s_law_ring : Stmt := topS 33
theorem sc_law_ring : FnScope ["b", "part", "x", "n", "row", "spots"] ["b", "part"] (defScope s_law_ring) := ⟨rfl, rfl, rfl, by decide +kernel, rfl, by decide +kernel, by decide +kernel⟩
abbrev s_law_spread : Stmt := topS 34
theorem sc_law_spread : FnScope ["b", "part", "row", "begin", "figs", "x"] ["b", "part"] (defScope s_law_spread) := ⟨rfl, rfl, rfl, by decide +kernel, rfl, by decide +kernel, by decide +kernel⟩
abbrev s_law_worth : Stmt := topS 35
theorem sc_law_worth : FnScope ["b", "figs", "found", "fig"] ["b", "figs"] (defScope s_law_worth) := ⟨rfl, rfl, rfl, by decide +kernel, rfl, by decide +kernel, by decide +kernel⟩
abbrev s_law_power : Stmt := topS 36
theorem sc_law_power : FnScope ["b", "many", "found", "k"] ["b", "many"] (defScope s_law_power) := ⟨rfl, rfl, rfl, by decide +kernel, rfl, by decide +kernel, by decide +kernel⟩
abbrev s_law_splits : Stmt := topS 37
theorem sc_law_splits : FnScope ["b", "n", "size", "cut"] ["b", "n"] (defScope s_law_splits) := ⟨rfl, rfl, rfl, by decide +kernel, rfl, by decide +kernel, by decide +kernel⟩
abbrev s_law_sliced : Stmt := topS 38
theorem sc_law_sliced : FnScope ["b", "part", "cut", "figs", "size", "k"] ["b", "part", "cut"] (defScope s_law_sliced) := ⟨rfl, rfl, rfl, by decide +kernel, rfl, by decide +kernel, by decide +kernel⟩
abbrev s_law_tops : Stmt := topS 39
theorem sc_law_tops : FnScope ["n", "x"] ["n"] (defScope s_law_tops) := ⟨rfl, rfl, rfl, by decide +kernel, rfl, by decide +kernel, by decide +kernel⟩
abbrev s_law_primes : Stmt := topS 40
theorem sc_law_primes : FnScope ["n", "found", "left", "k", "part"] ["n"] (defScope s_law_primes) := ⟨rfl, rfl, rfl, by decide +kernel, rfl, by decide +kernel, by decide +kernel⟩
abbrev s_law_by_primes : Stmt := topS 41
theorem sc_law_by_primes : FnScope ["n", "cut", "far", "prime", "part", "goal"] ["n", "cut", "far"] (defScope s_law_by_primes) := ⟨rfl, rfl, rfl, by decide +kernel, rfl, by decide +kernel, by decide +kernel⟩
abbrev s_law_right : Stmt := topS 42
theorem sc_law_right : FnScope ["b", "n", "cut", "size", "far", "sums", "tops", "x", "told", "due", "odd", "total", "now", "k", "one", "other"] ["b", "n", "cut", "size"] (defScope s_law_right) := ⟨rfl, rfl, rfl, by decide +kernel, rfl, by decide +kernel, by decide +kernel⟩
abbrev s_law : Stmt := topS 43
theorem sc_law : FnScope ["script", "m", "lap", "b", "n", "size", "some", "cut", "rows", "told"] ["script"] (defScope s_law) := ⟨rfl, rfl, rfl, by decide +kernel, rfl, by decide +kernel, by decide +kernel⟩
structure Txt (K : PySem.W.Frag) (mg : Str → Option Value) where
  d_is_integer : Dn K mg "is_integer" s_is_integer ["value"]
  d_is_within : Dn K mg "is_within" s_is_within ["value", "low", "high"]
  d_need_base : Dn K mg "need_base" s_need_base ["value"]
  d_need_denominator : Dn K mg "need_denominator" s_need_denominator ["value"]
  d_need_fraction : Dn K mg "need_fraction" s_need_fraction ["value"]
  d_need_pure : Dn K mg "need_pure" s_need_pure ["base", "denominator"]
  d_need_pure_fraction : Dn K mg "need_pure_fraction" s_need_pure_fraction ["base", "fraction"]
  d_pure_part : Dn K mg "pure_part" s_pure_part ["base", "denominator"]
  d_period : Dn K mg "period" s_period ["base", "denominator"]
  d_power_rest : Dn K mg "power_rest" s_power_rest ["number", "exponent", "divisor"]
  d_piece_size : Dn K mg "piece_size" s_piece_size ["base", "denominator", "cut"]
  d_spaced : Dn K mg "spaced" s_spaced ["base", "fraction", "size", "count"]
  d_quotient : Dn K mg "quotient" s_quotient ["base", "fraction", "cut"]
  d_is_balanced_with : Dn K mg "is_balanced_with" s_is_balanced_with ["base", "denominator", "size", "cut"]
  d_is_balanced : Dn K mg "is_balanced" s_is_balanced ["base", "denominator", "cut"]
  d_law_begun : Dn K mg "_law_begun" s_law_begun ["script"]
  d_law_draw : Dn K mg "_law_draw" s_law_draw ["m", "limit"]
  d_law_of : Dn K mg "_law_of" s_law_of ["m", "some"]
  d_law_divisor : Dn K mg "_law_divisor" s_law_divisor ["one", "other"]
  d_law_pure : Dn K mg "_law_pure" s_law_pure ["m", "b", "most"]
  d_law_ring : Dn K mg "_law_ring" s_law_ring ["b", "part"]
  d_law_spread : Dn K mg "_law_spread" s_law_spread ["b", "part"]
  d_law_worth : Dn K mg "_law_worth" s_law_worth ["b", "figs"]
  d_law_power : Dn K mg "_law_power" s_law_power ["b", "many"]
  d_law_splits : Dn K mg "_law_splits" s_law_splits ["b", "n"]
  d_law_sliced : Dn K mg "_law_sliced" s_law_sliced ["b", "part", "cut"]
  d_law_tops : Dn K mg "_law_tops" s_law_tops ["n"]
  d_law_primes : Dn K mg "_law_primes" s_law_primes ["n"]
  d_law_by_primes : Dn K mg "_law_by_primes" s_law_by_primes ["n", "cut", "far"]
  d_law_right : Dn K mg "_law_right" s_law_right ["b", "n", "cut", "size"]
  d_law : Dn K mg "law" s_law ["script"]
  b_isinstance : mg "isinstance" = none
  b_int : mg "int" = none
  b_bool : mg "bool" = none
  b_len : mg "len" = none
  b_range : mg "range" = none
  b_tuple : mg "tuple" = none
  b_list : mg "list" = none
  b_sum : mg "sum" = none
  b_min : mg "min" = none
  b_gcd : mg "gcd" = some (.builtin "math.gcd")
  t_MOST_BASE : Tok
  c_MOST_BASE : mg "MOST_BASE" = some (.int 1000 t_MOST_BASE)
  t_MOST_DENOMINATOR : Tok
  c_MOST_DENOMINATOR : mg "MOST_DENOMINATOR" = some (.int 5000 t_MOST_DENOMINATOR)
section
variable {P : Program} {w : World} {K : PySem.W.Frag} {mg : Str → Option Value} {base : Heap}

def BN (b n : Nat) : Prop := 2 ≤ b ∧ b ≤ 1000 ∧ 1 ≤ n ∧ n ≤ 5000
def sp_is_integer : Sp := fun vs H Q _ => ∃ i : Int, vs = [.int i] ∧ Q (.bl true) H
def sp_is_within : Sp := fun vs H Q _ => ∃ i lo hi : Int, vs = [.int i, .int lo, .int hi] ∧ (lo ≤ i ∧ i ≤ hi) ∧ Q (.bl true) H
def sp_need_base : Sp := fun vs H Q _ => ∃ i : Int, vs = [.int i] ∧ (2 ≤ i ∧ i ≤ 1000) ∧ Q (.int i) H
def sp_need_denominator : Sp := fun vs H Q _ => ∃ i : Int, vs = [.int i] ∧ (1 ≤ i ∧ i ≤ 5000) ∧ Q (.int i) H
def sp_need_fraction : Sp := fun vs H Q _ => ∃ (a : Addr) (x n : Nat), vs = [.ref a] ∧ H a = some (.tup [.int x, .int n]) ∧ (x < n ∧ n ≤ 5000 ∧ Nat.gcd x n = 1) ∧ Q (.ref a) H
def sp_pure_part : Sp := fun vs H Q _ => ∃ b n : Nat, vs = [.int b, .int n] ∧ BN b n ∧ ∀ p : Nat, IsPure b n p → Q (.int p) H
def sp_period : Sp := fun vs H Q _ => ∃ b n : Nat, vs = [.int b, .int n] ∧ BN b n ∧ ∀ p d : Nat, IsPure b n p → IsPer b p d → Q (.int d) H
def sp_head_size : Sp := fun vs H Q _ => ∃ b n : Nat, vs = [.int b, .int n] ∧ BN b n ∧ ∀ p q h : Nat, IsPure b n p → n = p * q → IsHead b q h → Q (.int h) H
theorem ok_is_integer (T : Txt K mg) : FnOk P w K mg base CX0 1 T.d_is_integer.f T.d_is_integer.fd ["value"] sp_is_integer := by
  refine T.d_is_integer.F.ok sc_is_integer (fun vs H Q E h => ?_) (fun cdv A outer s H vs Q E hr h => ?_)
  · obtain ⟨i, rfl, _⟩ := h; rfl
  · have hu := hu_of hr
    refine ⟨_, (pss_one (ps_ret (pe_and (pe_callB (r := rIs K) call_is (by rfl) T.b_isinstance (by decide +kernel) (pa_cons (pv 0) (pa_cons (pe_bltn (v := .ty "int") (by rfl) T.b_int (by decide +kernel) rfl) pa_nil))) (pe_one (pe_not (pe_callB (r := rIs K) call_is (by rfl) T.b_isinstance (by decide +kernel) (pa_cons (pv 0) (pa_cons (pe_bltn (v := .ty "bool") (by rfl) T.b_bool (by decide +kernel) rfl) pa_nil)))))))), ?_⟩
    obtain ⟨i, rfl, q⟩ := h
    walk_at "vc"
    refine ⟨"int", ty_int, by decide, by decide, iteT ⟨"int", ty_int, by decide, by decide, q⟩⟩
theorem ok_is_within (T : Txt K mg) : FnOk P w K mg base CX0 2 T.d_is_within.f T.d_is_within.fd ["value", "low", "high"] sp_is_within := by
  refine T.d_is_within.F.ok sc_is_within (fun vs H Q E h => ?_) (fun cdv A outer s H vs Q E hr h => ?_)
  · obtain ⟨i, lo, hi, rfl, _⟩ := h; rfl
  · have hu := hu_of hr
    refine ⟨_, (pss_one (ps_ret (pe_and (pe_call (ok_is_integer T) (hr.mono (by decide)) (by rfl) T.d_is_integer.m T.d_is_integer.F.kp T.d_is_integer.b .nil pass0 (pa_cons (pv 0) pa_nil)) (pe_one (pe_chain op_le op_le (pv 1) (pv 0) (pv 2)))))), ?_⟩
    obtain ⟨i, lo, hi, rfl, ⟨h1, h2⟩, q⟩ := h
    refine ⟨_, rfl, i, rfl, true, rfl, iteT ?_⟩
    walk_at "vc"
    rw [if_pos h1, decide_eq_true h2]
    exact q
theorem ok_need_base (T : Txt K mg) : FnOk P w K mg base CX0 3 T.d_need_base.f T.d_need_base.fd ["value"] sp_need_base := by
  refine T.d_need_base.F.ok sc_need_base (fun vs H Q E h => ?_) (fun cdv A outer s H vs Q E hr h => ?_)
  · obtain ⟨i, rfl, _⟩ := h; rfl
  · have hu := hu_of hr
    refine ⟨_, (pss_cons (ps_if (pt_not (pt_val (pe_call (ok_is_within T) (hr.mono (by decide)) (by rfl) T.d_is_within.m T.d_is_within.F.kp T.d_is_within.b .nil pass0 (pa_cons (pv 0) (pa_cons pe_int (pa_cons (pe_glob (v := .int 1000) (by rfl) T.c_MOST_BASE ⟨_, rfl⟩) pa_nil)))))) (pss_one ps_never) pss_nil)
      (pss_one (ps_ret (pv 0)))), ?_⟩
    obtain ⟨i, rfl, ⟨h1, h2⟩, q⟩ := h
    refine ⟨_, rfl, i, _, _, rfl, ⟨h1, h2⟩, true, rfl, iteF ?_⟩
    exact ⟨_, rfl, q⟩
theorem ok_need_denominator (T : Txt K mg) : FnOk P w K mg base CX0 3 T.d_need_denominator.f T.d_need_denominator.fd ["value"] sp_need_denominator := by
  refine T.d_need_denominator.F.ok sc_need_denominator (fun vs H Q E h => ?_) (fun cdv A outer s H vs Q E hr h => ?_)
  · obtain ⟨i, rfl, _⟩ := h; rfl
  · have hu := hu_of hr
    refine ⟨_, (pss_cons (ps_if (pt_not (pt_val (pe_call (ok_is_within T) (hr.mono (by decide)) (by rfl) T.d_is_within.m T.d_is_within.F.kp T.d_is_within.b .nil pass0 (pa_cons (pv 0) (pa_cons pe_int (pa_cons (pe_glob (v := .int 5000) (by rfl) T.c_MOST_DENOMINATOR ⟨_, rfl⟩) pa_nil)))))) (pss_one ps_never) pss_nil)
      (pss_one (ps_ret (pv 0)))), ?_⟩
    obtain ⟨i, rfl, ⟨h1, h2⟩, q⟩ := h
    refine ⟨_, rfl, i, _, _, rfl, ⟨h1, h2⟩, true, rfl, iteF ?_⟩
    exact ⟨_, rfl, q⟩
theorem ok_need_fraction (T : Txt K mg) : FnOk P w K mg base CX0 3 T.d_need_fraction.f T.d_need_fraction.fd ["value"] sp_need_fraction := by
  refine T.d_need_fraction.F.ok sc_need_fraction (fun vs H Q E h => ?_) (fun cdv A outer s H vs Q E hr h => ?_)
  · obtain ⟨a, x, n, rfl, _⟩ := h; rfl
  · have hu := hu_of hr
    refine ⟨_, (pss_cons (ps_if (PW.pt (pw_or (pt_not (pt_val (pe_callB (r := rIs K) call_is (by rfl) T.b_isinstance (by decide +kernel) (pa_cons (pv 0) (pa_cons (pe_bltn (v := .ty "tuple") (by rfl) T.b_tuple (by decide +kernel) rfl) pa_nil))))) (pw_or1 (pt_cmpR op_ne (pe_callB (r := rLn K) call_ln (by rfl) T.b_len PySem.boot_len (pa_cons (pv 0) pa_nil)) pe_int (nomark _))))) (pss_one ps_never) pss_nil)
      (pss_cons (ps_asg (pv 0) (pg_tup (by rfl) (pgs_cons (pg_name (i := 1) sc_need_fraction.nd rfl (by first | exact .inl rfl | exact .inr rfl)) (pgs_cons (pg_name (i := 2) sc_need_fraction.nd rfl (by first | exact .inl rfl | exact .inr rfl)) pgs_nil))))
      (pss_cons (ps_if (PW.pt (pw_or (pt_not (pt_val (pe_call (ok_is_within T) (hr.mono (by decide)) (by rfl) T.d_is_within.m T.d_is_within.F.kp T.d_is_within.b .nil pass0 (pa_cons (pv 2) (pa_cons pe_int (pa_cons (pe_glob (v := .int 5000) (by rfl) T.c_MOST_DENOMINATOR ⟨_, rfl⟩) pa_nil)))))) (pw_or1 (pt_not (pt_val (pe_call (ok_is_within T) (hr.mono (by decide)) (by rfl) T.d_is_within.m T.d_is_within.F.kp T.d_is_within.b .nil pass0 (pa_cons (pv 1) (pa_cons pe_int (pa_cons (pe_op op_sub (pv 2) pe_int) pa_nil))))))))) (pss_one ps_never) pss_nil)
      (pss_cons (ps_if (pt_cmpR op_ne (pe_callBfun cr_gcd (by rfl) T.b_gcd (pa_cons (pv 1) (pa_cons (pv 2) pa_nil))) pe_int (nomark _)) (pss_one ps_never) pss_nil)
      (pss_one (ps_ret (pv 0))))))), ?_⟩
    obtain ⟨a, x, n, rfl, ha, ⟨h1, h2, h3⟩, q⟩ := h
    refine ⟨_, rfl, _, "tuple", rfl, "tuple", ⟨ty_tup ha, by decide, by decide⟩, true, rfl, ?_⟩
    refine iteF ⟨_, rfl, a, _, rfl, .inr (sq_tup ha), rfl, _, rfl, ?_⟩
    refine iteF ?_
    refine ⟨_, rfl, a, _, rfl, sq_tup ha, rfl, _, _, rfl, _, _, rfl, rfl, ?_⟩
    refine ⟨_, rfl, n, _, _, rfl, ⟨by omega, by omega⟩, true, rfl, iteF ?_⟩
    refine ⟨_, rfl, _, rfl, n, 1, rfl, rfl, x, _, _, rfl, ⟨by omega, by omega⟩, true, rfl, iteF ?_⟩
    refine ⟨_, rfl, _, rfl, x, n, rfl, rfl, _, rfl, ?_⟩
    have e : (!decide (V.int ((Nat.gcd (x : Int).natAbs (n : Int).natAbs : Nat) : Int) = V.int 1)) = false := by
      rw [Int.natAbs_natCast, Int.natAbs_natCast, h3]
      rfl
    rw [e]
    exact iteF ⟨_, rfl, q⟩
theorem ok_pure_part (T : Txt K mg) : FnOk P w K mg base CX0 4 T.d_pure_part.f T.d_pure_part.fd ["base", "denominator"] sp_pure_part := by
  refine T.d_pure_part.F.ok sc_pure_part (fun vs H Q E h => ?_) (fun cdv A outer s H vs Q E hr h => ?_)
  · obtain ⟨b, n, rfl, _⟩ := h; rfl
  · have hu := hu_of hr
    refine ⟨_, (pss_cons (ps_expr (pe_call (ok_need_base T) (hr.mono (by decide)) (by rfl) T.d_need_base.m T.d_need_base.F.kp T.d_need_base.b .nil pass0 (pa_cons (pv 0) pa_nil)))
      (pss_cons (ps_expr (pe_call (ok_need_denominator T) (hr.mono (by decide)) (by rfl) T.d_need_denominator.m T.d_need_denominator.F.kp T.d_need_denominator.b .nil pass0 (pa_cons (pv 1) pa_nil)))
      (pss_cons (ps_set (i := 2) sc_pure_part.nd rfl (by first | exact .inl rfl | exact .inr rfl) (pv 1))
      (pss_cons (ps_set (i := 3) sc_pure_part.nd rfl (by first | exact .inl rfl | exact .inr rfl) (pe_callBfun cr_gcd (by rfl) T.b_gcd (pa_cons (pv 0) (pa_cons (pv 2) pa_nil))))
      (pss_cons (ps_while PassesOwn.never (pt_cmpR op_gt (pv 3) pe_int (nomark _)) (pss_cons (ps_set (i := 2) sc_pure_part.nd rfl (by first | exact .inl rfl | exact .inr rfl) (pe_op op_fdiv (pv 2) (pv 3)))
      (pss_one (ps_set (i := 3) sc_pure_part.nd rfl (by first | exact .inl rfl | exact .inr rfl) (pe_callBfun cr_gcd (by rfl) T.b_gcd (pa_cons (pv 0) (pa_cons (pv 2) pa_nil)))))))
      (pss_one (ps_ret (pv 2)))))))), ?_⟩
    obtain ⟨b, n, rfl, ⟨hb1, hb2, hn1, hn2⟩, q⟩ := h
    refine ⟨_, rfl, b, rfl, ⟨by omega, by omega⟩, ?_⟩
    refine ⟨_, rfl, n, rfl, ⟨by omega, by omega⟩, ?_⟩
    refine ⟨_, rfl, _, rfl, _, rfl, b, n, rfl, ?_⟩
    refine ⟨fun m σ H' => H' = H ∧ ∃ p r k : Nat, m = p ∧ σ = [some (.int b), some (.int n), some (.int p), some (.int (Nat.gcd b p : Nat))] ∧ 1 ≤ p ∧ n = p * r ∧ r ∣ b ^ k, ⟨n, rfl, n, 1, 0, rfl, rfl, hn1, by simp, by simp⟩, ?_⟩
    rintro m σ H' ⟨rfl, p, r, k, rfl, rfl, hp, hn, hr'⟩
    have hpn : m ≤ 5000 := by
      have : m ∣ n := ⟨r, hn⟩
      have := Nat.le_of_dvd hn1 this
      omega
    have hgm : Nat.gcd b m ≤ m := Nat.gcd_le_right b hp
    have hg1 : 1 ≤ Nat.gcd b m := Nat.gcd_pos_of_pos_right b hp
    refine ⟨_, rfl, _, 1, rfl, rfl, _, rfl, ?_⟩
    by_cases hc : (1 : Int) < ((Nat.gcd b m : Nat) : Int)
    · rw [decide_eq_true hc]
      refine iteT ⟨fun σ' H2 => H2 = H' ∧ ∃ p r k : Nat, p < m ∧ σ' = [some (.int b), some (.int n), some (.int p), some (.int (Nat.gcd b p : Nat))] ∧ 1 ≤ p ∧ n = p * r ∧ r ∣ b ^ k, ?_, ?_⟩
      · rintro σ' H2 ⟨rfl, p, r, k, h1, h2, h3, h4, h5⟩
        exact ⟨p, h1, rfl, p, r, k, rfl, h2, h3, h4, h5⟩
      · refine ⟨_, rfl, _, rfl, m, Nat.gcd b m, rfl, rfl, ⟨by omega, by omega⟩, ?_⟩
        dsimp only
        rw [← Int.natCast_ediv]
        refine ⟨_, rfl, _, rfl, b, ((m / Nat.gcd b m : Nat) : Int), rfl, ?_⟩
        obtain ⟨c, hc'⟩ := Nat.gcd_dvd_right b m
        have hq : m / Nat.gcd b m = c := by
          rw [Nat.div_eq_iff_eq_mul_right hg1 (Nat.gcd_dvd_right b m)]
          exact hc'
        have hc1 : 1 ≤ c := by
          rcases Nat.eq_zero_or_pos c with z | z
          · rw [z] at hc'
            omega
          · exact z
        have hcl : c < m := by
          have hg2 : 2 ≤ Nat.gcd b m := by omega
          have : 2 * c ≤ Nat.gcd b m * c := Nat.mul_le_mul_right c hg2
          omega
        refine ⟨rfl, c, Nat.gcd b m * r, k + 1, hcl, ?_, hc1, ?_, ?_⟩
        · rw [hq]
          rfl
        · rw [hn]
          conv => lhs; rw [hc']
          rw [Nat.mul_comm (Nat.gcd b m) c, Nat.mul_assoc]
        · rw [Nat.pow_succ, Nat.mul_comm (b ^ k) b]
          exact Nat.mul_dvd_mul (Nat.gcd_dvd_left b m) hr'
    · rw [decide_eq_false hc]
      refine iteF ⟨_, rfl, ?_⟩
      exact q m ⟨by omega, r, k, hn, hr'⟩
theorem ok_period (T : Txt K mg) : FnOk P w K mg base CX0 5 T.d_period.f T.d_period.fd ["base", "denominator"] sp_period := by
  refine T.d_period.F.ok sc_period (fun vs H Q E h => ?_) (fun cdv A outer s H vs Q E hr h => ?_)
  · obtain ⟨b, n, rfl, _⟩ := h; rfl
  · have hu := hu_of hr
    refine ⟨_, (pss_cons (ps_set (i := 2) sc_period.nd rfl (by first | exact .inl rfl | exact .inr rfl) (pe_call (ok_pure_part T) (hr.mono (by decide)) (by rfl) T.d_pure_part.m T.d_pure_part.F.kp T.d_pure_part.b .nil pass0 (pa_cons (pv 0) (pa_cons (pv 1) pa_nil))))
      (pss_cons (ps_set (i := 3) sc_period.nd rfl (by first | exact .inl rfl | exact .inr rfl) (pe_op op_mod pe_int (pv 2)))
      (pss_cons (ps_set (i := 4) sc_period.nd rfl (by first | exact .inl rfl | exact .inr rfl) (pe_op op_mod (pv 0) (pv 2)))
      (pss_cons (ps_set (i := 5) sc_period.nd rfl (by first | exact .inl rfl | exact .inr rfl) pe_int)
      (pss_cons (ps_while PassesOwn.never (pt_cmpR op_ne (pv 4) (pv 3) (nomark _)) (pss_cons (ps_set (i := 4) sc_period.nd rfl (by first | exact .inl rfl | exact .inr rfl) (pe_op op_mod (pe_op op_mul (pv 4) (pv 0)) (pv 2)))
      (pss_one (ps_aug (i := 5) sc_period.nd rfl (by first | exact .inl rfl | exact .inr rfl) pe_int ip_add))))
      (pss_one (ps_ret (pv 5)))))))), ?_⟩
    obtain ⟨b, n, rfl, hbn, q⟩ := h
    have hbn' := id hbn
    obtain ⟨hb1, hb2, hn1, hn2⟩ := hbn
    refine ⟨_, rfl, _, rfl, b, n, rfl, hbn', fun p hp => ?_⟩
    obtain ⟨g0, r0, k0, e0, d0⟩ := id hp
    have hp1 : 1 ≤ p := by
      rcases Nat.eq_zero_or_pos p with z | z
      · rw [z] at e0
        omega
      · exact z
    have hpn : p ≤ 5000 := by
      have : p ∣ n := ⟨r0, e0⟩
      have := Nat.le_of_dvd hn1 this
      omega
    obtain ⟨d, hdp, hd⟩ := per_exists hp1 g0
    refine ⟨_, rfl, 1, p, rfl, rfl, (show (0 : Int) < (p : Int) by omega), ?_⟩
    refine ⟨_, rfl, _, rfl, b, p, rfl, rfl, (show (0 : Int) < (p : Int) by omega), ?_⟩
    have e1 : (1 : Int) % (p : Int) = ((1 % p : Nat) : Int) := by rw [Int.natCast_emod]; rfl
    have e2 : (b : Int) % (p : Int) = ((b ^ 1 % p : Nat) : Int) := by rw [Int.natCast_emod, Nat.pow_one]
    refine ⟨fun m σ H' => H' = H ∧ ∃ k : Nat, m = d - k ∧ σ = [some (.int b), some (.int n), some (.int p), some (.int (1 % p : Nat)), some (.int (b ^ k % p : Nat)), some (.int k)] ∧ 1 ≤ k ∧ k ≤ d, ⟨d - 1, rfl, 1, rfl, ?_, Nat.le_refl _, hd.1⟩, ?_⟩
    · rw [← e1, ← e2]
      rfl
    rintro m σ H' ⟨rfl, k, rfl, rfl, hk1, hk2⟩
    refine ⟨_, rfl, _, rfl, rfl, _, rfl, ?_⟩
    by_cases hc : b ^ k % p = 1 % p
    · have hkd : k = d := by
        apply Nat.le_antisymm hk2
        apply Nat.le_of_not_lt
        intro l
        exact hd.2.2 k hk1 l hc
      rw [decide_eq_true (show V.int ((b ^ k % p : Nat) : Int) = V.int ((1 % p : Nat) : Int) by rw [hc])]
      refine iteF ⟨_, rfl, ?_⟩
      rw [hkd]
      exact q p d hp hd
    · rw [decide_eq_false (show ¬ V.int ((b ^ k % p : Nat) : Int) = V.int ((1 % p : Nat) : Int) from fun z => hc (by have := V.int.inj z; omega))]
      have hkd : k < d := by
        rcases Nat.lt_or_eq_of_le hk2 with l | l
        · exact l
        · subst l
          exact absurd hd.2.1 hc
      refine iteT ⟨fun σ' H2 => H2 = H' ∧ σ' = [some (.int b), some (.int n), some (.int p), some (.int (1 % p : Nat)), some (.int (b ^ (k + 1) % p : Nat)), some (.int (k + 1 : Nat))], ?_, ?_⟩
      · rintro σ' H2 ⟨rfl, rfl⟩
        exact ⟨d - (k + 1), by omega, rfl, k + 1, rfl, rfl, by omega, hkd⟩
      · have hlt : b ^ k % p < p := Nat.mod_lt _ hp1
        refine ⟨_, rfl, _, rfl, _, b, rfl, rfl, .inl ⟨by omega, by omega⟩, _, rfl, _, p, rfl, rfl, (show (0 : Int) < (p : Int) by omega), ?_⟩
        dsimp only
        rw [icm, pow_mod_step]
        exact ⟨_, rfl, _, _, rfl, rfl, rfl, rfl⟩

/-- the digits of a division that has come to x: so many of them -/
def dgs (b n x c : Nat) : List V := (List.range c).map fun i => V.int ((rem b n x i * b / n : Nat) : Int)
def sp_divided : Sp := fun vs H Q _ => ∃ b x n c : Nat, vs = [.int b, .int x, .int n, .int c] ∧ (BN b n ∧ x < n ∧ c ≤ 10000) ∧ ∀ t H', Gr [] H H' → H' t = some (.tup (dgs b n x c)) → Q (.ref t) H'

def dgf (b n x lo c : Nat) : List V := (List.range c).map fun i => V.int ((rem b n x (lo + i) * b / n : Nat) : Int)
structure Exp (H : Hp) (r : Addr) (b x n h L : Nat) : Prop where
  at_ : ∃ a c, H r = some (.tup [.ref a, .ref c]) ∧ H a = some (.tup (dgf b n x 0 h)) ∧ H c = some (.tup (dgf b n x h L))
def sp_expansion : Sp := fun vs H Q _ => ∃ (b x n : Nat) (a : Addr), vs = [.int b, .ref a] ∧ H a = some (.tup [.int x, .int n]) ∧ (BN b n ∧ x < n ∧ Nat.gcd x n = 1) ∧
  ∀ p q h L t H', IsPure b n p → n = p * q → IsHead b q h → IsPer b p L → Gr [] H H' → Exp H' t b x n h L → Q (.ref t) H'

/-! the state of the draws -/
def mkv (c : Addr) (l s : Int) : List (Key × V) := [(Sum.inr "cells", .ref c), (Sum.inr "left", .int l), (Sum.inr "spot", .int s)]
theorem k_cl : ¬ (("cells" : Str) = "left") := by decide +kernel
theorem k_cs : ¬ (("cells" : Str) = "spot") := by decide +kernel
theorem k_ls : ¬ (("left" : Str) = "spot") := by decide +kernel
theorem k_sl : ¬ (("spot" : Str) = "left") := by decide +kernel
theorem k_lc : ¬ (("left" : Str) = "cells") := by decide +kernel
theorem k_sc : ¬ (("spot" : Str) = "cells") := by decide +kernel
theorem mv_c (c : Addr) (l s : Int) : valV (mkv c l s) (Sum.inr "cells" : Key) = some (.ref c) := by
  unfold mkv
  rw [valV_pos rfl]
theorem mv_l (c : Addr) (l s : Int) : valV (mkv c l s) (Sum.inr "left" : Key) = some (.int l) := by
  unfold mkv
  rw [valV_neg (by intro z; exact k_cl (Sum.inr.inj z)), valV_pos rfl]
theorem mv_s (c : Addr) (l s : Int) : valV (mkv c l s) (Sum.inr "spot" : Key) = some (.int s) := by
  unfold mkv
  rw [valV_neg (by intro z; exact k_cs (Sum.inr.inj z)), valV_neg (by intro z; exact k_ls (Sum.inr.inj z)), valV_pos rfl]
theorem mp_l (c : Addr) (l s l' : Int) : putK (mkv c l s) (Sum.inr "left" : Key) (.int l') = mkv c l' s := by
  unfold mkv putK
  simp [k_cl, k_sl]
theorem mp_s (c : Addr) (l s s' : Int) : putK (mkv c l s) (Sum.inr "spot" : Key) (.int s') = mkv c l s' := by
  unfold mkv putK
  simp [k_cs, k_ls]
theorem mm (c : Addr) (l s : Int) : mergeK [] (mkv c l s) = mkv c l s := by
  unfold mkv mergeK putK
  simp [k_cs, k_ls, k_cl]
theorem dg_c {H : Hp} {d c : Addr} {l s : Int} (h : H d = some (.dK (mkv c l s))) : DGet H d (.str "cells") (some (.ref c)) := by
  rw [← mv_c c l s]
  exact DGet.k (k := Sum.inr "cells") h
theorem dg_l {H : Hp} {d c : Addr} {l s : Int} (h : H d = some (.dK (mkv c l s))) : DGet H d (.str "left") (some (.int l)) := by
  rw [← mv_l c l s]
  exact DGet.k (k := Sum.inr "left") h
theorem dg_s {H : Hp} {d c : Addr} {l s : Int} (h : H d = some (.dK (mkv c l s))) : DGet H d (.str "spot") (some (.int s)) := by
  rw [← mv_s c l s]
  exact DGet.k (k := Sum.inr "spot") h
theorem dp_l {H : Hp} {d c : Addr} {l s l' : Int} (h : H d = some (.dK (mkv c l s))) : DPut H d (.str "left") (.int l') (upd H d (.dK (mkv c l' s))) := by
  rw [← mp_l c l s l']
  exact DPut.k (k := Sum.inr "left") h (by show 3 < sizeLine; decide)
theorem dp_s {H : Hp} {d c : Addr} {l s s' : Int} (h : H d = some (.dK (mkv c l s))) : DPut H d (.str "spot") (.int s') (upd H d (.dK (mkv c l s'))) := by
  rw [← mp_s c l s s']
  exact DPut.k (k := Sum.inr "spot") h (by show 3 < sizeLine; decide)
def MOk (H : Hp) (d : Addr) (n : Nat) : Prop := ∃ (c : Addr) (xs : List Int) (l s : Int), H d = some (.dK (mkv c l s)) ∧ H c = some (.lst (xs.map V.int)) ∧ xs ≠ [] ∧ 0 ≤ s ∧ s ≤ (n : Int)
theorem MOk.gr {H H' : Hp} {d : Addr} {n : Nat} (h : MOk H d n) (g : Gr [] H H') : MOk H' d n := by
  obtain ⟨c, xs, l, s, h1, h2, h3⟩ := h
  exact ⟨c, xs, l, s, g d _ (by simp) h1, g c _ (by simp) h2, h3⟩
theorem MOk.mono {H : Hp} {d : Addr} {n n' : Nat} (h : MOk H d n) (g : n ≤ n') : MOk H d n' := by
  obtain ⟨c, xs, l, s, h1, h2, h3, h4, h5⟩ := h
  exact ⟨c, xs, l, s, h1, h2, h3, h4, by omega⟩
theorem MOk.ne {H : Hp} {d a : Addr} {n : Nat} {o : HO} (h : MOk H d n) (e : H a = some o) (k : ∀ kvs, o ≠ .dK kvs) : a ∉ [d] := by
  obtain ⟨c, xs, l, s, h1, _⟩ := h
  intro z
  rw [List.mem_singleton] at z
  subst z
  rw [h1] at e
  exact k _ (Option.some.inj e).symm
/-! what draws leave as it was: lists, tuples -/
theorem MOk.lst {H H' : Hp} {d a : Addr} {n : Nat} {xs : List V} (h : MOk H d n) (g : Gr [d] H H') (e : H a = some (.lst xs)) : H' a = some (.lst xs) := g a _ (h.ne e (fun _ z => by cases z)) e
theorem MOk.tup {H H' : Hp} {d a : Addr} {n : Nat} {xs : List V} (h : MOk H d n) (g : Gr [d] H H') (e : H a = some (.tup xs)) : H' a = some (.tup xs) := g a _ (h.ne e (fun _ z => by cases z)) e
def sp_law_draw : Sp := fun vs H Q _ => ∃ (d : Addr) (lim n : Nat), vs = [.ref d, .int lim] ∧ MOk H d n ∧ (1 ≤ lim ∧ lim ≤ 1000000000 ∧ n ≤ 1000000000000) ∧
  ∀ (r : Nat) H', r < lim → Gr [d] H H' → MOk H' d (n + 1) → Q (.int r) H'
theorem imod_nat (x : Int) (lim : Nat) (h : 1 ≤ lim) : ∃ r : Nat, x % (lim : Int) = (r : Int) ∧ r < lim := by
  have h1 := Int.emod_nonneg x (show (lim : Int) ≠ 0 by omega)
  have h2 := Int.emod_lt_of_pos x (show (0 : Int) < (lim : Int) by omega)
  exact ⟨(x % (lim : Int)).toNat, by omega, by omega⟩
theorem ok_law_draw (T : Txt K mg) : FnOk P w K mg base CX0 1 T.d_law_draw.f T.d_law_draw.fd ["m", "limit"] sp_law_draw := by
  refine T.d_law_draw.F.ok sc_law_draw (fun vs H Q E h => ?_) (fun cdv A outer s H vs Q E hr h => ?_)
  · obtain ⟨d, lim, n, rfl, _⟩ := h; rfl
  · have hu := hu_of hr
    refine ⟨_, (pss_cons (ps_if (pt_cmpR op_gt (pe_dget hu (pv 0) pe_str (fun _ _ => rfl)) pe_int (nomark _)) (pss_cons (ps_set (i := 2) sc_law_draw.nd rfl (by first | exact .inl rfl | exact .inr rfl) (pe_op op_mod (pe_callTy call_int1 (by rfl) T.b_int (by decide +kernel) (pa_cons (pe_dget hu (pv 0) pe_str (fun _ _ => rfl)) pa_nil)) (pv 1)))
      (pss_cons (ps_dput hu (pv 0) pe_str (pe_op op_fdiv (pe_dget hu (pv 0) pe_str (fun _ _ => rfl)) (pv 1)) rfl)
      (pss_one (ps_ret (pv 2))))) pss_nil)
      (pss_cons (ps_set (i := 3) sc_law_draw.nd rfl (by first | exact .inl rfl | exact .inr rfl) (pe_op op_add (pe_dget hu (pv 0) pe_str (fun _ _ => rfl)) pe_int))
      (pss_cons (ps_dput hu (pv 0) pe_str (pv 3) rfl)
      (pss_cons (ps_set (i := 4) sc_law_draw.nd rfl (by first | exact .inl rfl | exact .inr rfl) (pe_ix (r := rIxL K) ix_list (pe_dget hu (pv 0) pe_str (fun _ _ => rfl)) (pe_op op_mod (pe_callTy call_int1 (by rfl) T.b_int (by decide +kernel) (pa_cons (pv 3) pa_nil)) (pe_callB (r := rLn K) call_ln (by rfl) T.b_len PySem.boot_len (pa_cons (pe_dget hu (pv 0) pe_str (fun _ _ => rfl)) pa_nil))) (fun _ _ => rfl)))
      (pss_cons (ps_set (i := 5) sc_law_draw.nd rfl (by first | exact .inl rfl | exact .inr rfl) (pe_op op_mul (pe_callTy call_int1 (by rfl) T.b_int (by decide +kernel) (pa_cons (pe_op op_add (pe_op op_add (pe_op op_mod (pe_callTy call_int1 (by rfl) T.b_int (by decide +kernel) (pa_cons (pv 4) pa_nil)) pe_int) (pe_op op_mul pe_int (pv 3))) (pe_op op_mul (pe_op op_mul pe_int (pv 3)) (pv 3))) pa_nil)) pe_int))
      (pss_cons (ps_set (i := 5) sc_law_draw.nd rfl (by first | exact .inl rfl | exact .inr rfl) (pe_op op_mul (pe_callTy call_int1 (by rfl) T.b_int (by decide +kernel) (pa_cons (pe_op op_add (pe_op op_mod (pe_callTy call_int1 (by rfl) T.b_int (by decide +kernel) (pa_cons (pv 5) pa_nil)) pe_int) (pe_op op_mul pe_int (pv 3))) pa_nil)) pe_int))
      (pss_one (ps_ret (pe_op op_mod (pe_callTy call_int1 (by rfl) T.b_int (by decide +kernel) (pa_cons (pe_op op_fdiv (pe_op op_mod (pe_callTy call_int1 (by rfl) T.b_int (by decide +kernel) (pa_cons (pv 5) pa_nil)) pe_int) pe_int) pa_nil)) (pv 1)))))))))), ?_⟩
    obtain ⟨d, lim, n, rfl, ⟨c, xs, l, z, hd, hc, hx, hz0, hzn⟩, ⟨h1, h2, h3⟩, q⟩ := h
    have hdc : d ≠ c := ne_of hd hc (by intro q; cases q)
    refine ⟨_, rfl, d, _, rfl, dg_l hd, l, 0, rfl, rfl, _, rfl, ?_⟩
    have hl0 : (0 : Int) < (lim : Int) := by omega
    by_cases hl : (0 : Int) < l
    · rw [decide_eq_true hl]
      refine iteT ⟨_, rfl, d, _, rfl, dg_l hd, .inl ⟨l, rfl, _, rfl, l, lim, rfl, rfl, hl0, ?_⟩⟩
      obtain ⟨r, er, hr1⟩ := imod_nat l lim h1
      dsimp only
      rw [er]
      refine ⟨_, rfl, d, _, rfl, dg_l hd, _, rfl, l, lim, rfl, rfl, ⟨hl0, by omega⟩, _, rfl, d, _, rfl, dp_l hd, _, rfl, ?_⟩
      refine q r _ hr1 (Gr.wr (by simp)) ⟨c, xs, l / lim, z, upd_same, ?_, hx, hz0, by omega⟩
      rw [upd_ne hdc.symm]
      exact hc
    · rw [decide_eq_false hl]
      refine iteF ?_
      refine ⟨_, rfl, d, _, rfl, dg_s hd, z, 1, rfl, rfl, ?_⟩
      refine ⟨_, rfl, _, rfl, d, _, rfl, dp_s hd, ?_⟩
      have hd' : (upd H d (.dK (mkv c l (z + 1)))) d = some (.dK (mkv c l (z + 1))) := upd_same
      have hc' : (upd H d (.dK (mkv c l (z + 1)))) c = some (.lst (xs.map V.int)) := by
        rw [upd_ne hdc.symm]
        exact hc
      have hxl : 1 ≤ xs.length := by
        cases xs with
        | nil => exact absurd rfl hx
        | cons x r => simp
      refine ⟨_, rfl, d, _, rfl, dg_c hd', _, rfl, .inl ⟨z + 1, rfl, _, rfl, d, _, rfl, dg_c hd', c, _, rfl, .inl (sq_lst hc'), _, _, rfl, rfl, ?_, ?_⟩⟩
      · rw [List.length_map]
        omega
      rw [List.length_map]
      obtain ⟨j, ej, hj⟩ := imod_nat (z + 1) xs.length hxl
      dsimp only
      refine ⟨c, _, _, .int xs[j], rfl, rfl, sq_lst hc', ?_, ?_⟩
      · rw [ej]
        refine atI_nat ?_
        rw [List.getElem?_map, List.getElem?_eq_getElem hj]
        rfl
      refine ⟨_, rfl, .inl ⟨_, rfl, _, _, rfl, rfl, (by show (0 : Int) < 2147483629; decide), _, rfl, _, _, rfl, rfl, .inl ⟨by decide, by decide⟩, _, _, rfl, rfl, _, rfl, _, _, rfl, rfl, .inl ⟨by decide, by decide⟩, _, rfl, _, _, rfl, rfl, .inr ⟨by omega, by omega⟩, _, _, rfl, rfl, ?_⟩⟩
      refine .inl ⟨_, rfl, _, _, rfl, rfl, .inr ⟨by decide, by decide⟩, ?_⟩
      refine ⟨_, rfl, .inl ⟨_, rfl, _, _, rfl, rfl, (by show (0 : Int) < 2147483647; decide), _, rfl, _, _, rfl, rfl, .inl ⟨by decide, by decide⟩, _, _, rfl, rfl, ?_⟩⟩
      refine .inl ⟨_, rfl, _, _, rfl, rfl, .inr ⟨by decide, by decide⟩, ?_⟩
      refine ⟨_, rfl, .inl ⟨_, rfl, _, _, rfl, rfl, (by show (0 : Int) < 2147483587; decide), _, _, rfl, rfl, ⟨by decide, by decide⟩, ?_⟩⟩
      refine .inl ⟨_, rfl, _, rfl, _, _, rfl, rfl, hl0, ?_⟩
      dsimp only
      obtain ⟨r, er, hr1⟩ := imod_nat _ lim h1
      rw [er]
      exact q r _ hr1 (Gr.wr (by simp)) ⟨c, xs, l, z + 1, hd', hc', hx, by omega, by omega⟩

def sp_law_of (K : PySem.W.Frag) : Sp := fun vs H Q _ => ∃ (d a : Addr) (n : Nat) (xs : List V), vs = [.ref d, .ref a] ∧ MOk H d n ∧ H a = some (.lst xs) ∧ (xs ≠ [] ∧ xs.length ≤ 100000 ∧ n ≤ 1000000000000) ∧
  ∀ v H', v ∈ xs → Gr [d] H H' → MOk H' d (n + 1) → Q v H'
theorem ok_law_of (T : Txt K mg) : FnOk P w K mg base CX0 2 T.d_law_of.f T.d_law_of.fd ["m", "some"] (sp_law_of K) := by
  refine T.d_law_of.F.ok sc_law_of (fun vs H Q E h => ?_) (fun cdv A outer s H vs Q E hr h => ?_)
  · obtain ⟨d, a, n, xs, rfl, _⟩ := h; rfl
  · have hu := hu_of hr
    refine ⟨_, (pss_one (ps_ret (pe_ix (r := rIxL K) ix_list (pv 1) (pe_call (ok_law_draw T) (hr.mono (by decide)) (by rfl) T.d_law_draw.m T.d_law_draw.F.kp T.d_law_draw.b .nil pass0 (pa_cons (pv 0) (pa_cons (pe_callB (r := rLn K) call_ln (by rfl) T.b_len PySem.boot_len (pa_cons (pv 1) pa_nil)) pa_nil))) (fun _ _ => rfl)))), ?_⟩
    obtain ⟨d, a, n, xs, rfl, M, ha, ⟨h1, h2, h3⟩, q⟩ := h
    have hl : 1 ≤ xs.length := by
      cases xs with
      | nil => exact absurd rfl h1
      | cons x r => simp
    refine ⟨_, rfl, _, rfl, _, rfl, a, _, rfl, .inl (sq_lst ha), ?_⟩
    refine ⟨d, xs.length, n, rfl, M, ⟨hl, by omega, h3⟩, fun r H' hr g M' => ?_⟩
    have ha' := M.lst g ha
    exact ⟨a, xs, r, xs[r], rfl, rfl, sq_lst ha', atI_nat (by rw [List.getElem?_eq_getElem hr]), q _ _ (List.getElem_mem _) g M'⟩

def sp_law_divisor : Sp := fun vs H Q _ => ∃ a c : Nat, vs = [.int a, .int c] ∧ Q (.int (Nat.gcd a c : Nat)) H
theorem ok_law_divisor (T : Txt K mg) : FnOk P w K mg base CX0 1 T.d_law_divisor.f T.d_law_divisor.fd ["one", "other"] sp_law_divisor := by
  refine T.d_law_divisor.F.ok sc_law_divisor (fun vs H Q E h => ?_) (fun cdv A outer s H vs Q E hr h => ?_)
  · obtain ⟨a, c, rfl, _⟩ := h; rfl
  · have hu := hu_of hr
    refine ⟨_, (pss_cons (ps_while PassesOwn.never (pt_cmpR op_gt (pv 1) pe_int (nomark _)) (pss_one (ps_par (i := 0) (j := 1) (by rfl) sc_law_divisor.nd rfl rfl (by decide) rfl rfl (pa_cons (pv 1) (pa_cons (pe_op op_mod (pv 0) (pv 1)) pa_nil)) (by rfl))))
      (pss_one (ps_ret (pv 0)))), ?_⟩
    obtain ⟨a, c, rfl, q⟩ := h
    refine ⟨fun m σ H' => H' = H ∧ ∃ u : Nat, σ = [some (.int u), some (.int m)] ∧ Nat.gcd u m = Nat.gcd a c, ⟨c, rfl, a, rfl, rfl⟩, ?_⟩
    rintro m σ H' ⟨rfl, u, rfl, e⟩
    refine ⟨_, rfl, _, _, rfl, rfl, _, rfl, ?_⟩
    by_cases hc : (0 : Int) < (m : Int)
    · rw [decide_eq_true hc]
      refine iteT ⟨fun σ' H2 => H2 = H' ∧ σ' = [some (.int m), some (.int (u % m : Nat))], ?_, ?_⟩
      · rintro σ' H2 ⟨rfl, rfl⟩
        refine ⟨u % m, Nat.mod_lt _ (by omega), rfl, m, rfl, ?_⟩
        rw [← e, Nat.gcd_comm m, ← Nat.gcd_rec, Nat.gcd_comm]
      · refine ⟨_, rfl, _, rfl, _, rfl, _, _, rfl, rfl, hc, ?_⟩
        exact ⟨_, _, rfl, rfl, by dsimp only; rw [← Int.natCast_emod]; rfl⟩
    · rw [decide_eq_false hc]
      refine iteF ⟨_, rfl, ?_⟩
      have z : m = 0 := by omega
      subst z
      rw [← e, Nat.gcd_zero_right]  at q
      exact q

def sp_law_base (lo hi : Nat) : Sp := fun vs H Q _ => ∃ (d : Addr) (n : Nat), vs = [.ref d] ∧ MOk H d n ∧ n ≤ 1000000000 ∧ ∀ (b : Nat) H', 2 ≤ b → b ≤ 1000 → Gr [d] H H' → MOk H' d (n + 3) → Q (.int b) H'

def sp_law_part : Sp := fun vs H Q _ => ∃ (d : Addr) (most n : Nat), vs = [.ref d, .int most] ∧ MOk H d n ∧ (1 ≤ most ∧ most ≤ 5000 ∧ n ≤ 1000000000) ∧
  ∀ (a : Addr) (x k : Nat) H', H' a = some (.tup [.int x, .int k]) → x < k → k ≤ most → Nat.gcd x k = 1 → Gr [d] H H' → MOk H' d (n + 2) → Q (.ref a) H'

theorem val_none : ∀ {kvs : List (Key × V)} {k : Key}, (∀ kv ∈ kvs, kv.1 ≠ k) → valV kvs k = none
  | [], _, _ => rfl
  | p :: r, k, h => by
    rw [valV_neg (h p (List.mem_cons_self ..))]
    exact val_none fun kv hk => h kv (List.mem_cons_of_mem _ hk)
theorem val_some : ∀ {kvs : List (Key × V)} {k : Key} {v : V} (i : Nat), kvs[i]? = some (k, v) → (∀ j, j < i → ∀ kv, kvs[j]? = some kv → kv.1 ≠ k) → valV kvs k = some v
  | [], _, _, i, h, _ => by simp at h
  | p :: r, k, v, 0, h, _ => by
    have e : p = (k, v) := Option.some.inj h
    subst e
    exact valV_pos rfl
  | p :: r, k, v, i + 1, h, d => by
    rw [valV_neg (d 0 (Nat.succ_pos _) p rfl)]
    exact val_some i h fun j hj kv hk => d (j + 1) (Nat.succ_lt_succ hj) kv hk
def rms (b n x c : Nat) : List V := (List.range c).map fun i => V.int (rem b n x i : Nat)
def rkv (b n x c : Nat) : List (Key × V) := (List.range c).map fun i => ((Sum.inl ((rem b n x i : Nat) : Int) : Key), V.int (i : Nat))
theorem rms_succ (b n x c : Nat) : rms b n x (c + 1) = rms b n x c ++ [V.int (rem b n x c : Nat)] := by
  unfold rms
  rw [List.range_succ, List.map_append]
  rfl
theorem rkv_succ (b n x c : Nat) : rkv b n x (c + 1) = rkv b n x c ++ [(Sum.inl ((rem b n x c : Nat) : Int), V.int (c : Nat))] := by
  unfold rkv
  rw [List.range_succ, List.map_append]
  rfl
theorem rms_len (b n x c : Nat) : (rms b n x c).length = c := by simp [rms]
theorem rkv_len (b n x c : Nat) : (rkv b n x c).length = c := by simp [rkv]
theorem rkv_none {b n x c y : Nat} (h : ∀ j, j < c → rem b n x j ≠ y) : valV (rkv b n x c) (Sum.inl (y : Int) : Key) = none := by
  refine val_none fun kv hk e => ?_
  obtain ⟨j, hj, rfl⟩ := List.mem_map.mp hk
  have := Sum.inl.inj e
  exact h j (List.mem_range.mp hj) (by omega)
theorem rkv_some {b n x c j : Nat} (hj : j < c) (h : ∀ i, i < j → rem b n x i ≠ rem b n x j) : valV (rkv b n x c) (Sum.inl ((rem b n x j : Nat) : Int) : Key) = some (.int (j : Nat)) := by
  refine val_some j ?_ fun i hi kv hk e => ?_
  · unfold rkv
    rw [List.getElem?_map, List.getElem?_range hj]
    rfl
  · unfold rkv at hk
    rw [List.getElem?_map, List.getElem?_range (by omega)] at hk
    have e2 := Option.some.inj hk
    subst e2
    have := Sum.inl.inj e
    exact h i hi (by omega)
def sp_law_ring : Sp := fun vs H Q _ => ∃ (b x n : Nat) (a : Addr), vs = [.int b, .ref a] ∧ H a = some (.tup [.int x, .int n]) ∧ (b ≤ 1000 ∧ n ≤ 5000 ∧ x < n ∧ Nat.gcd x n = 1) ∧
  ∀ (t l : Addr) H' (p q h L : Nat), Par b n p q h L → Gr [] H H' → H' t = some (.tup [.ref l, .int (h : Nat)]) → H' l = some (.lst (rms b n x (h + L))) → Q (.ref t) H'
theorem ok_law_ring (T : Txt K mg) : FnOk P w K mg base CX0 1 T.d_law_ring.f T.d_law_ring.fd ["b", "part"] sp_law_ring := by
  refine T.d_law_ring.F.ok sc_law_ring (fun vs H Q E h => ?_) (fun cdv A outer s H vs Q E hr h => ?_)
  · obtain ⟨b, x, n, a, rfl, _⟩ := h; rfl
  · have hu := hu_of hr
    refine ⟨_, (pss_cons (ps_asg (pv 1) (pg_tup (by rfl) (pgs_cons (pg_name (i := 2) sc_law_ring.nd rfl (by first | exact .inl rfl | exact .inr rfl)) (pgs_cons (pg_name (i := 3) sc_law_ring.nd rfl (by first | exact .inl rfl | exact .inr rfl)) pgs_nil))))
      (pss_cons (ps_par (i := 4) (j := 5) (by rfl) sc_law_ring.nd rfl rfl (by decide) rfl rfl (pa_cons (pe_lst pa_nil) (pa_cons pe_dnewK pa_nil)) (by rfl))
      (pss_cons (ps_while PassesOwn.never (pt_cmp (pc_dnotin hu (pv 2) (pv 5))) (pss_cons (ps_dput hu (pv 5) (pv 2) (pe_callB (r := rLn K) call_ln (by rfl) T.b_len PySem.boot_len (pa_cons (pv 4) pa_nil)) rfl)
      (pss_cons (ps_expr (pe_bm PySem.F.plainAttrs_list PySem.F.slot_list_append PySem.F.type_list_append mt_append (pv 4) (pa_cons (pv 2) pa_nil)))
      (pss_one (ps_set (i := 2) sc_law_ring.nd rfl (by first | exact .inl rfl | exact .inr rfl) (pe_op op_mod (pe_op op_mul (pv 2) (pv 0)) (pv 3)))))))
      (pss_one (ps_ret (pe_tup (pa_cons (pv 4) (pa_cons (pe_dget hu (pv 5) (pv 2) (fun _ _ => rfl)) pa_nil)))))))), ?_⟩
    obtain ⟨b, x, n, a, rfl, ha, ⟨hb, hn, hx, hg⟩, q⟩ := h
    have hn1 : 1 ≤ n := by omega
    refine ⟨_, rfl, a, _, rfl, sq_tup ha, rfl, _, _, rfl, _, _, rfl, rfl, ?_⟩
    refine ⟨Nat.zero_le _, fun l nl => ?_⟩
    intro e ne
    have nle : l ≠ e := ne_of_none (o := .lst []) upd_same ne
    refine ⟨_, _, rfl, ?_⟩
    have hE : ∀ {o}, H e = o → H e = o := fun h => h
    have ne0 : H e = none := by
      rw [upd_ne nle.symm] at ne
      exact ne
    refine ⟨fun m σ H' => ∃ i : Nat, m = n - i ∧ i ≤ n ∧ Gr [] H H' ∧ H' l = some (.lst (rms b n x i)) ∧ H' e = some (.dK (rkv b n x i)) ∧ σ = [some (.int b), some (.ref a), some (.int (rem b n x i : Nat)), some (.int n), some (.ref l), some (.ref e)] ∧ (∀ u v, u < v → v < i → rem b n x u ≠ rem b n x v),
      ⟨n, 0, rfl, Nat.zero_le _, (Gr.new nl).trans (Gr.new ne), ?_, upd_same, ?_, fun u v _ z => absurd z (Nat.not_lt_zero _)⟩, ?_⟩
    · rw [upd_ne nle, upd_same]
      rfl
    · rw [rem_zero hx]
      rfl
    rintro m σ H' ⟨i, rfl, hi, G, hL, hD, rfl, hd⟩
    refine ⟨_, rfl, _, rfl, e, _, rfl, DGet.k (k := Sum.inl ((rem b n x i : Nat) : Int)) hD, _, rfl, ?_⟩
    by_cases hc : ∃ j, j < i ∧ rem b n x j = rem b n x i
    · obtain ⟨j, hj, ej⟩ := hc
      have hv : valV (rkv b n x i) (Sum.inl ((rem b n x i : Nat) : Int) : Key) = some (.int (j : Nat)) := by
        rw [← ej]
        exact rkv_some hj fun u hu => hd u j hu hj
      rw [hv]
      refine iteF ?_
      obtain ⟨p, q0, h, L, P⟩ := par_exists (b := b) hn1
      obtain ⟨ei, eh⟩ := ring_end P hn1 hg hd hj ej
      refine ⟨_, rfl, _, rfl, _, rfl, e, .int (j : Nat), rfl, ?_, by show 2 ≤ sizeLine; decide, fun t nt => ?_⟩
      · rw [← hv]
        exact DGet.k (k := Sum.inl ((rem b n x i : Nat) : Int)) hD
      · refine q t l _ p q0 h L P (G.trans (Gr.new nt)) ?_ ?_
        · rw [upd_same, eh]
        · rw [upd_ne (ne_of_none hL nt), hL, ei]
    · have hno : ∀ j, j < i → rem b n x j ≠ rem b n x i := fun j hj ej => hc ⟨j, hj, ej⟩
      rw [rkv_none hno]
      refine iteT ?_
      have hlt : rem b n x i < n := rem_lt hn1
      have hin : i + 1 ≤ n := by
        have := nodup_le n ((List.range (i + 1)).map fun u => rem b n x u) (by
          rw [List.nodup_iff_pairwise_ne, List.pairwise_map, List.pairwise_iff_getElem]
          intro u v hu hv huv
          rw [List.getElem_range, List.getElem_range]
          rw [List.length_range] at hv
          rcases Nat.lt_or_eq_of_le (show v ≤ i by omega) with z | z
          · exact hd u v huv z
          · rw [z]
            exact hno u (by omega)) (fun y hy => by
          obtain ⟨u, _, rfl⟩ := List.mem_map.mp hy
          exact rem_lt hn1)
        rw [List.length_map, List.length_range] at this
        exact this
      refine ⟨fun σ' H2 => Gr [] H H2 ∧ H2 l = some (.lst (rms b n x (i + 1))) ∧ H2 e = some (.dK (rkv b n x (i + 1))) ∧ σ' = [some (.int b), some (.ref a), some (.int (rem b n x (i + 1) : Nat)), some (.int n), some (.ref l), some (.ref e)], ?_, ?_⟩
      · rintro σ' H2 ⟨G2, L2, D2, rfl⟩
        refine ⟨n - (i + 1), by omega, i + 1, rfl, hin, G2, L2, D2, rfl, fun u v huv hv => ?_⟩
        rcases Nat.lt_or_eq_of_le (show v ≤ i by omega) with z | z
        · exact hd u v huv z
        · rw [z]
          exact hno u (by omega)
      · have small : ∀ {k : Nat}, k ≤ 5000 → k < sizeLine := fun h => Nat.lt_of_lt_of_le (show _ < 6000 by omega) (by decide)
        refine ⟨_, rfl, l, _, rfl, .inl (sq_lst hL), _, rfl, _, rfl, e, _, rfl, DPut.k (k := Sum.inl ((rem b n x i : Nat) : Int)) hD (by rw [rkv_len]; exact small (by omega)), ?_⟩
        rw [putK_new _ (rkv_none hno), rms_len, ← rkv_succ]
        have hL2 : (upd H' e (.dK (rkv b n x (i + 1)))) l = some (.lst (rms b n x i)) := by
          rw [upd_ne nle]
          exact hL
        refine ⟨_, rfl, .inl ⟨rfl, _, sq_lst hL2⟩, _, rfl, l, _, _, rfl, rfl, hL2, by rw [rms_len]; exact small (by omega), ?_⟩
        refine ⟨_, rfl, _, rfl, _, b, rfl, rfl, .inl ⟨by omega, by omega⟩, _, rfl, _, n, rfl, rfl, (show (0 : Int) < (n : Int) by omega), ?_⟩
        dsimp only
        rw [icm, rem_succ, ← rms_succ]
        refine ⟨fun c o _ ec => ?_, upd_same, ?_, rfl⟩
        · rw [upd_ne (ne_of_none ec nl), upd_ne (ne_of_none ec ne0)]
          exact G c o (by simp) ec
        · rw [upd_ne nle.symm, upd_same]

theorem dgs_take (b n x h L : Nat) : (dgs b n x (h + L)).take h = dgf b n x 0 h := by
  unfold dgs dgf
  rw [← List.map_take, List.take_range, Nat.min_eq_left (by omega)]
  simp
theorem dgs_drop (b n x h L : Nat) : (dgs b n x (h + L)).drop h = dgf b n x h L := by
  unfold dgs dgf
  rw [← List.map_drop]
  apply List.ext_getElem
  · simp
  · intro i i1 i2
    simp
def sp_law_spread : Sp := fun vs H Q _ => ∃ (b x n : Nat) (a : Addr), vs = [.int b, .ref a] ∧ H a = some (.tup [.int x, .int n]) ∧ (b ≤ 1000 ∧ n ≤ 5000 ∧ x < n ∧ Nat.gcd x n = 1) ∧
  ∀ (t : Addr) H' (p q h L : Nat), Par b n p q h L → Gr [] H H' → Exp H' t b x n h L → Q (.ref t) H'
theorem ok_law_spread (T : Txt K mg) : FnOk P w K mg base CX0 2 T.d_law_spread.f T.d_law_spread.fd ["b", "part"] sp_law_spread := by
  refine T.d_law_spread.F.ok sc_law_spread (fun vs H Q E h => ?_) (fun cdv A outer s H vs Q E hr h => ?_)
  · obtain ⟨b, x, n, a, rfl, _⟩ := h; rfl
  · have hu := hu_of hr
    refine ⟨_, (pss_cons (ps_asg (pe_call (ok_law_ring T) (hr.mono (by decide)) (by rfl) T.d_law_ring.m T.d_law_ring.F.kp T.d_law_ring.b .nil pass0 (pa_cons (pv 0) (pa_cons (pv 1) pa_nil))) (pg_tup (by rfl) (pgs_cons (pg_name (i := 2) sc_law_spread.nd rfl (by first | exact .inl rfl | exact .inr rfl)) (pgs_cons (pg_name (i := 3) sc_law_spread.nd rfl (by first | exact .inl rfl | exact .inr rfl)) pgs_nil))))
      (pss_cons (ps_setLc (i := 4) (own := [("x", 5)]) (g := gName 5) (tt := tYes) rfl sc_law_spread.nd rfl rfl (sw_true rfl rfl rfl (by decide +kernel)) (pi_list (pv 2)) (blkOk_by (own := [("x", 5)]) (N := ["b", "part", "row", "begin", "figs", "x"]) (sc := defScope s_law_spread) (by decide +kernel)) (fun _ _ _ _ _ => (pg_name (i := 5) sc_law_spread.nd rfl (by first | exact .inl rfl | exact .inr rfl))) (fun _ _ _ _ _ => pts_nil) (fun _ _ _ _ _ => (pe_op op_fdiv (pe_op op_mul (pv 5) (pv 0)) (pe_ix (r := rIxT K) ix_tup (pv 1) pe_int (fun _ _ => rfl)))))
      (pss_one (ps_ret (pe_tup (pa_cons (pe_callTy (r := rTpO K) call_tpO (by rfl) T.b_tuple (by decide +kernel) (pa_cons (pe_slice (r := rSlL K) sl_list (pv 4) po_none (po_some (pv 3))) pa_nil)) (pa_cons (pe_callTy (r := rTpO K) call_tpO (by rfl) T.b_tuple (by decide +kernel) (pa_cons (pe_slice (r := rSlL K) sl_list (pv 4) (po_some (pv 3)) po_none) pa_nil)) pa_nil))))))), ?_⟩
    obtain ⟨b, x, n, a, rfl, ha, ⟨hb, hn, hx, hg⟩, q⟩ := h
    have hn1 : 1 ≤ n := by omega
    refine ⟨_, rfl, _, rfl, b, x, n, a, rfl, ha, ⟨hb, hn, hx, hg⟩, fun t l H1 p q0 h L P g1 ht hl => ?_⟩
    refine ⟨t, _, rfl, sq_tup ht, rfl, _, _, rfl, _, _, rfl, rfl, ?_⟩
    refine ⟨_, rfl, l, rfl, ⟨_, sq_lst hl⟩, fun D nD => ?_⟩
    refine lc_list (K := K) (a := l) (xs := rms b n x (h + L)) (fun i H' => Gr [] H1 H' ∧ H' D = some (.lst (dgs b n x i))) ⟨Gr.new nD, upd_same⟩ (fun i H' _ z => sq_lst (z.1 l _ (by simp) hl)) ?_ ?_
    · rintro i y H' hy ⟨G, hD⟩
      have ey : y = V.int ((rem b n x i : Nat) : Int) := by
        unfold rms at hy
        rw [List.getElem?_map] at hy
        cases e : (List.range (h + L))[i]? with
        | none =>
          rw [e] at hy
          cases hy
        | some u =>
          rw [e] at hy
          obtain ⟨hi, e2⟩ := List.getElem?_eq_some_iff.mp e
          rw [List.getElem_range] at e2
          subst e2
          exact (Option.some.inj hy).symm
      have hi : i < h + L := by
        have := (List.getElem?_eq_some_iff.mp hy).1
        rw [rms_len] at this
        exact this
      subst ey
      have hlt : rem b n x i < n := rem_lt hn1
      have ha' := G a _ (by simp) (g1 a _ (by simp) ha)
      have hLn := P.Ln hn1
      have hhn := P.hn hn1
      refine ⟨rfl, ?_⟩
      dsimp only [tYes]
      refine iteT ?_
      refine ⟨_, rfl, _, rfl, _, b, rfl, rfl, .inl ⟨by omega, by omega⟩, _, rfl, a, _, _, .int n, rfl, rfl, sq_tup ha', atI_nat (j := 1) rfl, _, n, rfl, rfl, ⟨by omega, by omega⟩, ?_⟩
      refine ⟨_, hD, ?_, ?_, ?_⟩
      · unfold dgs
        rw [List.length_map, List.length_range]
        exact Nat.lt_of_lt_of_le (show i < 20000 by omega) (by decide)
      · intro c o _ e
        rw [upd_ne (ne_of_none e nD)]
        exact G c o (by simp) e
      · dsimp only
        rw [icd, upd_same]
        unfold dgs
        rw [List.range_succ, List.map_append]
        rfl
    rintro H2 ⟨G, hD⟩
    rw [rms_len] at hD
    have lenD : (dgs b n x (h + L)).length = h + L := by
      unfold dgs
      rw [List.length_map, List.length_range]
    refine ⟨_, rfl, _, rfl, (h : Int), rfl, D, _, rfl, sq_lst hD, fun p1 n1 => ?_⟩
    refine ⟨p1, _, rfl, .inl ⟨sq_lst upd_same, fun t1 m1 => ?_⟩⟩
    have np1 : D ≠ p1 := ne_of_none hD n1
    have k1 : (upd H2 p1 (.lst (cutV (dgs b n x (h + L)) none (some (h : Int))))) D = some (.lst (dgs b n x (h + L))) := by
      rw [upd_ne np1]
      exact hD
    generalize hH3 : upd H2 p1 (.lst (cutV (dgs b n x (h + L)) none (some (h : Int)))) = H3 at m1 k1 ⊢
    have g3 : Gr [] H2 H3 := by
      rw [← hH3]
      exact Gr.new n1
    have k2 : (upd H3 t1 (.tup (cutV (dgs b n x (h + L)) none (some (h : Int))))) D = some (.lst (dgs b n x (h + L))) := by
      rw [upd_ne (ne_of_none k1 m1)]
      exact k1
    have k3 : (upd H3 t1 (.tup (cutV (dgs b n x (h + L)) none (some (h : Int))))) t1 = some (.tup (cutV (dgs b n x (h + L)) none (some (h : Int)))) := upd_same
    have g4 : Gr [] H3 (upd H3 t1 (.tup (cutV (dgs b n x (h + L)) none (some (h : Int))))) := Gr.new m1
    generalize upd H3 t1 (.tup (cutV (dgs b n x (h + L)) none (some (h : Int)))) = H4 at k2 k3 g4 ⊢
    refine ⟨_, rfl, _, rfl, (h : Int), rfl, ?_⟩
    dsimp only [tNoPart]
    refine ⟨D, _, rfl, sq_lst k2, fun p2 n2 => ?_⟩
    refine ⟨p2, _, rfl, .inl ⟨sq_lst upd_same, fun t2 m2 => ?_⟩⟩
    have k4 : (upd H4 p2 (.lst (cutV (dgs b n x (h + L)) (some (h : Int)) none))) t1 = some (.tup (cutV (dgs b n x (h + L)) none (some (h : Int)))) := by
      rw [upd_ne (ne_of_none k3 n2)]
      exact k3
    have g5 : Gr [] H4 (upd H4 p2 (.lst (cutV (dgs b n x (h + L)) (some (h : Int)) none))) := Gr.new n2
    generalize upd H4 p2 (.lst (cutV (dgs b n x (h + L)) (some (h : Int)) none)) = H5 at m2 k4 g5 ⊢
    have g6 : Gr [] H5 (upd H5 t2 (.tup (cutV (dgs b n x (h + L)) (some (h : Int)) none))) := Gr.new m2
    have k5 : (upd H5 t2 (.tup (cutV (dgs b n x (h + L)) (some (h : Int)) none))) t2 = some (.tup (cutV (dgs b n x (h + L)) (some (h : Int)) none)) := upd_same
    have k6 := g6 t1 _ (by simp) k4
    generalize upd H5 t2 (.tup (cutV (dgs b n x (h + L)) (some (h : Int)) none)) = H6 at k5 k6 g6 ⊢
    refine ⟨by show 2 ≤ sizeLine; decide, fun t7 n7 => ?_⟩
    refine q t7 _ p q0 h L P (((((g1.trans G).trans g3).trans g4).trans g5).trans (g6.trans (Gr.new n7))) ⟨t1, t2, upd_same, ?_, ?_⟩
    · rw [upd_ne (ne_of_none k6 n7), k6, cut_lo (by rw [lenD]; omega), dgs_take]
    · rw [upd_ne (ne_of_none k5 n7), k5, cut_hi (by rw [lenD]; omega), dgs_drop]

def sp_law_begun (K : PySem.W.Frag) : Sp := fun vs H Q _ => ∃ (a : Addr) (ns : List Int), vs = [.ref a] ∧ SqL K H a (ns.map V.int) ∧ ns.length ≤ 63 ∧ ∀ d H', Gr [] H H' → MOk H' d 0 → Q (.ref d) H'
theorem eqv_nil (ys : List Int) : PyData.eqv (.list (ys.map PyData.int)) (.list []) = ys.isEmpty := by
  cases ys with
  | nil => rfl
  | cons y r => rfl
theorem lay_ints : ∀ ys : List Int, PyData.canLayAll0 (ys.map PyData.int) = true ∧ PyData.depthAll (ys.map PyData.int) = 0
  | [] => ⟨rfl, rfl⟩
  | y :: r => by
    obtain ⟨h1, h2⟩ := lay_ints r
    refine ⟨?_, ?_⟩
    · show (true && PyData.canLayAll0 (r.map PyData.int)) = true
      rw [h1]
      rfl
    · show max 0 (PyData.depthAll (r.map PyData.int)) = 0
      rw [h2]
      rfl
theorem shaped_ints (ys : List Int) : SeqAt.shaped (.list (ys.map PyData.int)) = true := by
  obtain ⟨h1, h2⟩ := lay_ints ys
  exact Fits.shaped h1 (by show PyData.depthAll _ + 1 ≤ 64; rw [h2]; decide)
theorem get_ints {ns : List Int} {i : Nat} {x : V} (h : (ns.map V.int)[i]? = some x) : ∃ n, x = .int n ∧ ns[i]? = some n ∧ i < ns.length := by
  rw [List.getElem?_map] at h
  cases e : ns[i]? with
  | none =>
    rw [e] at h
    cases h
  | some n =>
    rw [e] at h
    exact ⟨n, (Option.some.inj h).symm, rfl, (List.getElem?_eq_some_iff.mp e).1⟩
theorem ok_law_begun (T : Txt K mg) : FnOk P w K mg base CX0 1 T.d_law_begun.f T.d_law_begun.fd ["script"] (sp_law_begun K) := by
  refine T.d_law_begun.F.ok sc_law_begun (fun vs H Q E h => ?_) (fun cdv A outer s H vs Q E hr h => ?_)
  · obtain ⟨a, ns, rfl, _⟩ := h; rfl
  · have hu := hu_of hr
    refine ⟨_, (pss_cons (ps_setLc (i := 1) (own := [("cell", 2)]) (g := gName 2) (tt := _) rfl sc_law_begun.nd rfl rfl (sw_true rfl rfl rfl (by decide +kernel)) (pi_list (pv 0)) (blkOk_by (own := [("cell", 2)]) (N := ["script", "great", "cell"]) (sc := defScope s_law_begun) (by decide +kernel)) (fun _ _ _ _ _ => (pg_name (i := 2) sc_law_begun.nd rfl (by first | exact .inl rfl | exact .inr rfl))) (fun _ _ _ _ _ => (pts_one (pt_cmpR op_ge (pv 2) (pe_op op_pow pe_int pe_int) (nomark _)))) (fun _ _ _ _ _ => (pv 2)))
      (pss_one (ps_ret (pe_disp (pps_cons pe_str (pe_op op_cat (pe_callTy (r := rLsO K) call_lsO (by rfl) T.b_list (by decide +kernel) (pa_cons (pv 0) pa_nil)) (pe_lst (pa_cons (pe_callB (r := rLn K) call_ln (by rfl) T.b_len PySem.boot_len (pa_cons (pv 0) pa_nil)) pa_nil))) (pps_cons pe_str (pe_ifExp (pt_cmpR (r := rNeD K) (op_neD hr.units) (pv 1) (pe_lst pa_nil) (nomark _)) (pe_ix (r := rIxL K) ix_list (pv 1) pe_int (fun _ _ => rfl)) pe_int) (pps_cons pe_str pe_int pps_nil))) (by rfl) (by rfl) (fun z => by cases z) (by decide))))), ?_⟩
    obtain ⟨a, ns, rfl, hS, hn, q⟩ := h
    have sz : ∀ {k : Nat}, k ≤ 1000 → k < sizeLine := fun h => small1000 h
    refine ⟨_, rfl, a, rfl, ⟨_, hS⟩, fun D nD => ?_⟩
    refine lc_list (K := K) (a := a) (xs := ns.map V.int) (fun i H' => Gr [] H H' ∧ ∃ ys : List Int, ys.length ≤ i ∧ H' D = some (.lst (ys.map V.int))) ⟨Gr.new nD, [], Nat.le_refl _, upd_same⟩ (fun i H' _ z => (Kp.of z.1).sqL hS) ?_ ?_
    · rintro i y H' hy ⟨G, ys, hl, hD⟩
      obtain ⟨n, rfl, hn', hi⟩ := get_ints hy
      refine ⟨rfl, ?_⟩
      refine ⟨_, rfl, _, _, rfl, rfl, ⟨by decide, by decide, by decide⟩, _, _, rfl, rfl, _, rfl, ?_⟩
      have ex : ∀ {o : HO}, Gr [] H (upd H' D o) := fun {o} c u _ e => by
        rw [upd_ne (ne_of_none e nD)]
        exact G c u (by simp) e
      refine ite2 (fun _ => ?_) (fun _ => ?_)
      · refine ⟨_, rfl, _, hD, by rw [List.length_map]; exact sz (by omega), ex, ys ++ [n], by rw [List.length_append]; simp; omega, ?_⟩
        rw [upd_same, List.map_append]
        rfl
      · exact ⟨G, ys, by omega, hD⟩
    rintro H1 ⟨g1, ys, hl, hD⟩
    rw [List.length_map] at hl
    intro p np
    have hS1 : SqL K (upd H1 p (.dK [])) a (ns.map V.int) := (Kp.of (g1.trans (Gr.new np))).sqL hS
    have hD1 := (Gr.new (W := []) (o := .dK []) np) D _ (by simp) hD
    refine ⟨_, rfl, a, _, rfl, .inl hS1, fun l nl => ?_⟩
    have hS2 := (Kp.of (Gr.new (o := .lst (ns.map V.int)) nl)).sqL hS1
    refine ⟨_, rfl, a, _, rfl, .inl hS2, by show 1 ≤ sizeLine; decide, fun l2 nl2 => ?_⟩
    have k1 := (Gr.new (W := []) (o := .lst [V.int ((ns.map V.int).length : Nat)]) nl2) l _ (by simp) (upd_same (o := .lst (ns.map V.int)))
    refine ⟨l, l2, _, _, rfl, rfl, k1, upd_same, ?_, fun p3 np3 => ?_⟩
    · rw [List.length_map]
      exact Nat.le_of_lt (sz (by show ns.length + 1 ≤ 1000; omega))
    have gA : Gr [] (upd H1 p (.dK [])) (upd (upd (upd (upd H1 p (.dK [])) l (.lst (ns.map V.int))) l2 (.lst [V.int ((ns.map V.int).length : Nat)])) p3 (.lst (ns.map V.int ++ [V.int ((ns.map V.int).length : Nat)]))) :=
      ((Gr.new nl).trans (Gr.new nl2)).trans (Gr.new np3)
    have hp3 : (upd (upd (upd (upd H1 p (.dK [])) l (.lst (ns.map V.int))) l2 (.lst [V.int ((ns.map V.int).length : Nat)])) p3 (.lst (ns.map V.int ++ [V.int ((ns.map V.int).length : Nat)]))) p3 = some (.lst ((ns ++ [(ns.length : Int)]).map V.int)) := by
      rw [upd_same, List.map_append, List.length_map]
      rfl
    generalize (upd (upd (upd (upd H1 p (.dK [])) l (.lst (ns.map V.int))) l2 (.lst [V.int ((ns.map V.int).length : Nat)])) p3 (.lst (ns.map V.int ++ [V.int ((ns.map V.int).length : Nat)]))) = H4 at gA hp3 ⊢
    have hD4 := gA D _ (by simp) hD1
    have hp4 := gA p _ (by simp) (upd_same (o := .dK []))
    have G4 : ∀ (H5 : Hp) (l0 : Int), Gr [] H4 H5 → Q (.ref p) (upd H5 p (.dK (mergeK [] (mkv p3 l0 0)))) := fun H5 l0 g5 => by
      rw [mm]
      have h3 := g5 p3 _ (by simp) hp3
      have hne : p3 ≠ p := by
        intro e
        rw [e, hp4] at hp3
        cases hp3
      refine q p _ (fun c u _ e => ?_) ⟨p3, ns ++ [(ns.length : Int)], l0, 0, upd_same, ?_, by simp, Int.le_refl _, Int.le_refl _⟩
      · have hcp : c ≠ p := ne_of_none (g1 c u (by simp) e) np
        rw [upd_ne hcp]
        refine g5 c u (by simp) (gA c u (by simp) ?_)
        rw [upd_ne hcp]
        exact g1 c u (by simp) e
      · rw [upd_ne hne]
        exact h3
    refine ⟨_, rfl, Nat.zero_le _, fun q0 nq => ?_⟩
    have hq := (Gr.new (W := []) (o := .lst []) nq)
    refine ⟨.list (ys.map PyData.int), .list [], dp_lst (hq D _ (by simp) hD4) (dpAll_ints ys), dp_lst upd_same .nil, shaped_ints ys, rfl, _, rfl, ?_⟩
    rw [eqv_nil]
    cases ys with
    | nil =>
      refine iteF ?_
      refine ⟨hq p _ (by simp) hp4, mkv p3 0 0, rfl, by show 3 ≤ 15; decide, G4 _ 0 hq⟩
    | cons y r =>
      refine iteT ⟨_, rfl, D, _, 0, .int y, rfl, rfl, sq_lst (hq D _ (by simp) hD4), atI_nat (j := 0) rfl, ?_⟩
      refine ⟨hq p _ (by simp) hp4, mkv p3 y 0, rfl, by show 3 ≤ 15; decide, G4 _ y hq⟩

end
end Wn
namespace Wn
open PySem PySem.Spec PyProof.Rows L2
local macro_rules | `(tactic| walk_at "vc") => `(tactic| simp only [cxK, cxK2, start1, start2, start3, tRet, tRetN, tSeq, tNext, tIfS, tAsg, gName, tDrop, tVar, tC, tOp, tUn, tTest, tB, tNot, tAnd, tOr, tAndV, tOrV, tNotV, tIf, tCons, tNil, tCB, tCall, tChain, tAug, ipI, rI, rI0, rU, rIs, rGcd, rEq, rNe, scal,
  List.getElem?_cons_zero, List.getElem?_cons_succ, List.set_cons_zero, List.set_cons_succ, Option.some.injEq, List.cons.injEq, V.int.injEq, V.bl.injEq, V.ref.injEq, V.str.injEq, and_true, true_and, exists_eq_left, exists_eq_left', exists_and_left, exists_and_right, List.append_nil, List.nil_append, List.cons_append, exists_eq_right, exists_eq_right', and_assoc, exists_const, V.ty.injEq, ↓reduceIte, Bool.false_eq_true, Bool.not_true, Bool.not_false, decide_eq_true_eq])

section
variable {P : Program} {w : World} {K : PySem.W.Frag} {mg : Str → Option Value} {base : Heap}

theorem sq_step (r s l n : Nat) : (r * s ^ l) % n = if l % 2 = 1 then ((r * s % n) * (s * s % n) ^ (l / 2)) % n else (r * (s * s % n) ^ (l / 2)) % n := by
  have e : ∀ a, (a * (s * s % n) ^ (l / 2)) % n = (a * (s * s) ^ (l / 2)) % n := fun a => by
    rw [Nat.mul_mod, ← Nat.pow_mod, ← Nat.mul_mod]
  split
  · rename_i h
    have hl : l = 2 * (l / 2) + 1 := by omega
    rw [e, Nat.mod_mul_mod]
    conv => lhs; rw [hl]
    rw [Nat.pow_succ, Nat.pow_mul, Nat.pow_two, Nat.mul_comm ((s * s) ^ (l / 2)) s, Nat.mul_assoc]
  · rename_i h
    have hl : l = 2 * (l / 2) := by omega
    rw [e]
    conv => lhs; rw [hl]
    rw [Nat.pow_mul, Nat.pow_two]
def sp_power_rest : Sp := fun vs H Q _ => ∃ b e n : Nat, vs = [.int b, .int e, .int n] ∧ (1 ≤ n ∧ n ≤ 5000) ∧ Q (.int (b ^ e % n : Nat)) H
theorem ok_power_rest (T : Txt K mg) : FnOk P w K mg base CX0 1 T.d_power_rest.f T.d_power_rest.fd ["number", "exponent", "divisor"] sp_power_rest := by
  refine T.d_power_rest.F.ok sc_power_rest (fun vs H Q E h => ?_) (fun cdv A outer s H vs Q E hr h => ?_)
  · obtain ⟨b, e, n, rfl, _⟩ := h; rfl
  · have hu := hu_of hr
    refine ⟨_, (pss_cons (ps_set (i := 3) sc_power_rest.nd rfl (by first | exact .inl rfl | exact .inr rfl) (pe_op op_mod pe_int (pv 2)))
      (pss_cons (ps_set (i := 4) sc_power_rest.nd rfl (by first | exact .inl rfl | exact .inr rfl) (pe_op op_mod (pv 0) (pv 2)))
      (pss_cons (ps_set (i := 5) sc_power_rest.nd rfl (by first | exact .inl rfl | exact .inr rfl) (pv 1))
      (pss_cons (ps_while PassesOwn.never (pt_cmpR op_gt (pv 5) pe_int (nomark _)) (pss_cons (ps_if (pt_cmpR op_eq (pe_op op_mod (pv 5) pe_int) pe_int (nomark _)) (pss_one (ps_set (i := 3) sc_power_rest.nd rfl (by first | exact .inl rfl | exact .inr rfl) (pe_op op_mod (pe_op op_mul (pv 3) (pv 4)) (pv 2)))) pss_nil)
      (pss_cons (ps_set (i := 4) sc_power_rest.nd rfl (by first | exact .inl rfl | exact .inr rfl) (pe_op op_mod (pe_op op_mul (pv 4) (pv 4)) (pv 2)))
      (pss_one (ps_set (i := 5) sc_power_rest.nd rfl (by first | exact .inl rfl | exact .inr rfl) (pe_op op_fdiv (pv 5) pe_int))))))
      (pss_one (ps_ret (pv 3))))))), ?_⟩
    obtain ⟨b, e, n, rfl, ⟨hn1, hn2⟩, q⟩ := h
    have hn0 : (0 : Int) < (n : Int) := by omega
    have e1 : (1 : Int) % (n : Int) = ((1 % n : Nat) : Int) := by rw [Int.natCast_emod]; rfl
    refine ⟨_, rfl, 1, n, rfl, rfl, hn0, ?_⟩
    refine ⟨_, rfl, _, rfl, b, n, rfl, rfl, hn0, ?_⟩
    refine ⟨_, rfl, ?_⟩
    refine ⟨fun m σ H' => H' = H ∧ ∃ r s : Nat, r < n ∧ s < n ∧ r * s ^ m % n = b ^ e % n ∧ σ = [some (.int b), some (.int e), some (.int n), some (.int r), some (.int s), some (.int m)], ⟨e, rfl, 1 % n, b % n, Nat.mod_lt _ hn1, Nat.mod_lt _ hn1, ?_, ?_⟩, ?_⟩
    · rw [Nat.mod_mul_mod, Nat.one_mul, ← Nat.pow_mod]
    · rw [← e1, Int.natCast_emod]
      rfl
    rintro m σ H' ⟨rfl, r, s, hr1, hs1, hrs, rfl⟩
    refine ⟨_, rfl, _, _, rfl, rfl, _, rfl, ?_⟩
    by_cases hc : (0 : Int) < (m : Int)
    · rw [decide_eq_true hc]
      have st := sq_step r s m n
      have e2 : (m : Int) % 2 = ((m % 2 : Nat) : Int) := by omega
      have e3 : (m : Int) / 2 = ((m / 2 : Nat) : Int) := by omega
      refine iteT ⟨fun σ' H2 => H2 = H' ∧ ∃ r s : Nat, r < n ∧ s < n ∧ r * s ^ (m / 2) % n = b ^ e % n ∧ σ' = [some (.int b), some (.int e), some (.int n), some (.int r), some (.int s), some (.int (m / 2 : Nat))], ?_, ?_⟩
      · rintro σ' H2 ⟨rfl, r', s', h1, h2, h3, rfl⟩
        exact ⟨m / 2, by omega, rfl, r', s', h1, h2, h3, rfl⟩
      · refine ⟨_, rfl, _, _, rfl, rfl, (by show (0 : Int) < 2; decide), rfl, _, rfl, ?_⟩
        by_cases ho : m % 2 = 1
        · rw [decide_eq_true (show V.int ((m : Int) % 2) = V.int 1 by rw [e2, ho]; rfl)]
          rw [if_pos ho] at st
          refine iteT ⟨_, rfl, _, rfl, _, _, rfl, rfl, .inl ⟨by omega, by omega⟩, _, rfl, _, _, rfl, rfl, hn0, ?_⟩
          refine ⟨_, rfl, _, rfl, _, _, rfl, rfl, .inl ⟨by omega, by omega⟩, _, rfl, _, _, rfl, rfl, hn0, ?_⟩
          refine ⟨_, rfl, _, _, rfl, rfl, ⟨by decide, by decide⟩, rfl, r * s % n, s * s % n, Nat.mod_lt _ hn1, Nat.mod_lt _ hn1, st.symm.trans hrs, ?_⟩
          dsimp only
          rw [icm, icm, e3]
          rfl
        · rw [decide_eq_false (show ¬ V.int ((m : Int) % 2) = V.int 1 from fun z => ho (by have := V.int.inj z; omega))]
          rw [if_neg ho] at st
          refine iteF ?_
          refine ⟨_, rfl, _, rfl, _, _, rfl, rfl, .inl ⟨by omega, by omega⟩, _, rfl, _, _, rfl, rfl, hn0, ?_⟩
          refine ⟨_, rfl, _, _, rfl, rfl, ⟨by decide, by decide⟩, rfl, r, s * s % n, hr1, Nat.mod_lt _ hn1, st.symm.trans hrs, ?_⟩
          dsimp only
          rw [icm, e3]
          rfl
    · rw [decide_eq_false hc]
      refine iteF ⟨_, rfl, ?_⟩
      have z : m = 0 := by omega
      subst z
      rw [Nat.pow_zero, Nat.mul_one, Nat.mod_eq_of_lt hr1] at hrs
      rw [← hrs] at q
      exact q

def FR (b x n : Nat) : Prop := BN b n ∧ x < n ∧ Nat.gcd x n = 1
def sp_remainder_at : Sp := fun vs H Q _ => ∃ (b x n k : Nat) (a : Addr), vs = [.int b, .ref a, .int k] ∧ H a = some (.tup [.int x, .int n]) ∧ FR b x n ∧ k ≤ 10 ^ 30 ∧ Q (.int (rem b n x k : Nat)) H

def sp_digit_at : Sp := fun vs H Q _ => ∃ (b x n k : Nat) (a : Addr), vs = [.int b, .ref a, .int k] ∧ H a = some (.tup [.int x, .int n]) ∧ FR b x n ∧ k ≤ 10 ^ 30 ∧ Q (.int (rem b n x k * b / n : Nat)) H

def sp_digits_from : Sp := fun vs H Q _ => ∃ (b x n k c : Nat) (a : Addr), vs = [.int b, .ref a, .int k, .int c] ∧ H a = some (.tup [.int x, .int n]) ∧ FR b x n ∧ (k ≤ 10 ^ 30 ∧ c ≤ 400) ∧
  ∀ t H', Gr [] H H' → H' t = some (.tup (dgf b n x k c)) → Q (.ref t) H'
theorem rem_add (b n x i j : Nat) : rem b n (rem b n x i) j = rem b n x (i + j) := by
  unfold rem
  rw [Nat.mod_mul_mod, Nat.mul_assoc, ← Nat.pow_add]
theorem dgs_dgf (b n x k c : Nat) : dgs b n (rem b n x k) c = dgf b n x k c := by
  unfold dgs dgf
  simp only [rem_add]

def sp_law_pure : Sp := fun vs H Q _ => ∃ (d : Addr) (b most n : Nat), vs = [.ref d, .int b, .int most] ∧ MOk H d n ∧ (2 ≤ b ∧ b ≤ 1000 ∧ 1 ≤ most ∧ most ≤ 3000 ∧ n ≤ 1000000000) ∧
  ∀ (r k : Nat) H', r < most → 2 + r ≤ k → (∀ t, 2 + r ≤ t → Nat.gcd b t = 1 → k ≤ t) → Nat.gcd b k = 1 → Gr [d] H H' → MOk H' d (n + 1) → Q (.int k) H'
theorem ok_law_pure (T : Txt K mg) : FnOk P w K mg base CX0 2 T.d_law_pure.f T.d_law_pure.fd ["m", "b", "most"] sp_law_pure := by
  refine T.d_law_pure.F.ok sc_law_pure (fun vs H Q E h => ?_) (fun cdv A outer s H vs Q E hr h => ?_)
  · obtain ⟨d, b, most, n, rfl, _⟩ := h; rfl
  · have hu := hu_of hr
    refine ⟨_, (pss_cons (ps_set (i := 3) sc_law_pure.nd rfl (by first | exact .inl rfl | exact .inr rfl) (pe_op op_add pe_int (pe_call (ok_law_draw T) (hr.mono (by decide)) (by rfl) T.d_law_draw.m T.d_law_draw.F.kp T.d_law_draw.b .nil pass0 (pa_cons (pv 0) (pa_cons (pv 2) pa_nil)))))
      (pss_cons (ps_while PassesOwn.never (pt_cmpR op_ne (pe_call (ok_law_divisor T) (hr.mono (by decide)) (by rfl) T.d_law_divisor.m T.d_law_divisor.F.kp T.d_law_divisor.b .nil pass0 (pa_cons (pv 3) (pa_cons (pv 1) pa_nil))) pe_int (nomark _)) (pss_one (ps_set (i := 3) sc_law_pure.nd rfl (by first | exact .inl rfl | exact .inr rfl) (pe_op op_add (pv 3) pe_int))))
      (pss_one (ps_ret (pv 3))))), ?_⟩
    obtain ⟨d, b, most, n, rfl, M, ⟨hb, hb2, h1, h2, h3⟩, q⟩ := h
    refine ⟨_, rfl, _, rfl, d, most, n, rfl, M, ⟨h1, by omega, by omega⟩, fun r1 H1 hr1 g1 M1 => ?_⟩
    refine ⟨2, r1, rfl, rfl, ?_⟩
    have e1 : (2 : Int) + (r1 : Int) = ((2 + r1 : Nat) : Int) := by omega
    dsimp only
    rw [e1]
    generalize hk : 2 + r1 = k
    obtain ⟨top, hT⟩ : ∃ top, top = b * (k / b + 1) + 1 := ⟨_, rfl⟩
    have hdm := Nat.div_add_mod k b
    have hml := Nat.mod_lt k (show b > 0 by omega)
    have hT1 : k < top := by rw [hT, Nat.mul_add]; omega
    have hT2 : top ≤ k + b + 1 := by rw [hT, Nat.mul_add]; omega
    have hTg : Nat.gcd b top = 1 := by
      rw [hT]
      simp
    refine ⟨fun m σ H' => H' = H1 ∧ ∃ y : Nat, m = top - y ∧ (k ≤ y ∧ ∀ t, k ≤ t → Nat.gcd b t = 1 → y ≤ t) ∧ y ≤ top ∧ σ = [some (.ref d), some (.int b), some (.int most), some (.int y)], ⟨top - k, rfl, k, rfl, ⟨by omega, fun t ht _ => ht⟩, by omega, rfl⟩, ?_⟩
    rintro m σ H' ⟨rfl, y, rfl, hy, hyT, rfl⟩
    refine ⟨_, rfl, _, rfl, y, b, rfl, rfl, _, rfl, ?_⟩
    by_cases hc : Nat.gcd y b = 1
    · rw [show (!decide (V.int ((Nat.gcd y b : Nat) : Int) = V.int 1)) = false by rw [hc]; rfl]
      refine iteF ⟨_, rfl, ?_⟩
      exact q r1 y _ hr1 (by omega) (fun t ht hg => hy.2 t (by omega) hg) (by rw [Nat.gcd_comm]; exact hc) g1 M1
    · rw [show (!decide (V.int ((Nat.gcd y b : Nat) : Int) = V.int 1)) = true by rw [decide_eq_false (fun z => hc (by have := V.int.inj z; omega))]; rfl]
      have hyk : y < top := by
        rcases Nat.lt_or_eq_of_le hyT with l | l
        · exact l
        · subst l
          exact absurd (by rw [Nat.gcd_comm]; exact hTg) hc
      refine iteT ⟨fun σ' H3 => H3 = H' ∧ σ' = [some (.ref d), some (.int b), some (.int most), some (.int (y + 1 : Nat))], ?_, ?_⟩
      · rintro σ' H3 ⟨rfl, rfl⟩
        refine ⟨top - (y + 1), by omega, rfl, y + 1, rfl, ⟨by omega, fun t ht hg => ?_⟩, by omega, rfl⟩
        have := hy.2 t ht hg
        rcases Nat.lt_or_eq_of_le this with l | l
        · exact l
        · subst l
          exact absurd (by rw [Nat.gcd_comm]; exact hg) hc
      · exact ⟨_, rfl, _, _, rfl, rfl, rfl, rfl⟩

theorem small5 {k : Nat} (h : k ≤ 5000) : k < sizeLine := Nat.lt_of_lt_of_le (show _ < 6000 by omega) (by decide)
def sp_need_pure : Sp := fun vs H Q _ => ∃ b n : Nat, vs = [.int b, .int n] ∧ BN b n ∧ Nat.gcd b n = 1 ∧ Q (.int n) H
theorem ok_need_pure (T : Txt K mg) : FnOk P w K mg base CX0 4 T.d_need_pure.f T.d_need_pure.fd ["base", "denominator"] sp_need_pure := by
  refine T.d_need_pure.F.ok sc_need_pure (fun vs H Q E h => ?_) (fun cdv A outer s H vs Q E hr h => ?_)
  · obtain ⟨b, n, rfl, _⟩ := h; rfl
  · have hu := hu_of hr
    refine ⟨_, (pss_cons (ps_expr (pe_call (ok_need_base T) (hr.mono (by decide)) (by rfl) T.d_need_base.m T.d_need_base.F.kp T.d_need_base.b .nil pass0 (pa_cons (pv 0) pa_nil)))
      (pss_cons (ps_expr (pe_call (ok_need_denominator T) (hr.mono (by decide)) (by rfl) T.d_need_denominator.m T.d_need_denominator.F.kp T.d_need_denominator.b .nil pass0 (pa_cons (pv 1) pa_nil)))
      (pss_cons (ps_if (pt_cmpR op_ne (pe_callBfun cr_gcd (by rfl) T.b_gcd (pa_cons (pv 0) (pa_cons (pv 1) pa_nil))) pe_int (nomark _)) (pss_one ps_never) pss_nil)
      (pss_one (ps_ret (pv 1)))))), ?_⟩
    obtain ⟨b, n, rfl, ⟨hb1, hb2, hn1, hn2⟩, hg, q⟩ := h
    refine ⟨_, rfl, b, rfl, ⟨by omega, by omega⟩, ?_⟩
    refine ⟨_, rfl, n, rfl, ⟨by omega, by omega⟩, ?_⟩
    refine ⟨_, rfl, _, rfl, b, n, rfl, rfl, _, rfl, ?_⟩
    have e : (!decide (V.int ((Nat.gcd (b : Int).natAbs (n : Int).natAbs : Nat) : Int) = V.int 1)) = false := by
      rw [Int.natAbs_natCast, Int.natAbs_natCast, hg]
      rfl
    rw [e]
    exact iteF ⟨_, rfl, q⟩

def spc (b n x s c : Nat) : List Nat := (List.range c).map fun i => rem b n x (s * i)
theorem spc_len (b n x s c : Nat) : (spc b n x s c).length = c := by simp [spc]
def sp_spaced : Sp := fun vs H Q _ => ∃ (b x n s c : Nat) (a : Addr), vs = [.int b, .ref a, .int s, .int c] ∧ H a = some (.tup [.int x, .int n]) ∧ (1 ≤ n ∧ n ≤ 5000 ∧ x < n ∧ c ≤ 5000) ∧
  ∀ t H', Gr [] H H' → H' t = some (.tup (vn (spc b n x s c))) → Q (.ref t) H'
theorem ok_spaced (T : Txt K mg) : FnOk P w K mg base CX0 2 T.d_spaced.f T.d_spaced.fd ["base", "fraction", "size", "count"] sp_spaced := by
  refine T.d_spaced.F.ok sc_spaced (fun vs H Q E h => ?_) (fun cdv A outer s H vs Q E hr h => ?_)
  · obtain ⟨b, x, n, s, c, a, rfl, _⟩ := h; rfl
  · have hu := hu_of hr
    refine ⟨_, (pss_cons (ps_asg (pv 1) (pg_tup (by rfl) (pgs_cons (pg_name (i := 4) sc_spaced.nd rfl (by first | exact .inl rfl | exact .inr rfl)) (pgs_cons (pg_name (i := 5) sc_spaced.nd rfl (by first | exact .inl rfl | exact .inr rfl)) pgs_nil))))
      (pss_cons (ps_set (i := 6) sc_spaced.nd rfl (by first | exact .inl rfl | exact .inr rfl) (pe_call (ok_power_rest T) (hr.mono (by decide)) (by rfl) T.d_power_rest.m T.d_power_rest.F.kp T.d_power_rest.b .nil pass0 (pa_cons (pv 0) (pa_cons (pv 2) (pa_cons (pv 5) pa_nil)))))
      (pss_cons (ps_set (i := 7) sc_spaced.nd rfl (by first | exact .inl rfl | exact .inr rfl) (pe_lst pa_nil))
      (pss_cons (ps_set (i := 8) sc_spaced.nd rfl (by first | exact .inl rfl | exact .inr rfl) (pv 4))
      (pss_cons (ps_for PassesOwn.never rfl (pi_range1 (by rfl) T.b_range (pa_cons (pv 3) pa_nil)) (pg_name (i := 9) sc_spaced.nd rfl (by first | exact .inl rfl | exact .inr rfl)) (pss_cons (ps_expr (pe_bm PySem.F.plainAttrs_list PySem.F.slot_list_append PySem.F.type_list_append mt_append (pv 7) (pa_cons (pv 8) pa_nil)))
      (pss_one (ps_set (i := 8) sc_spaced.nd rfl (by first | exact .inl rfl | exact .inr rfl) (pe_op op_mod (pe_op op_mul (pv 8) (pv 6)) (pv 5))))))
      (pss_one (ps_ret (pe_callTy (r := rTpO K) call_tpO (by rfl) T.b_tuple (by decide +kernel) (pa_cons (pv 7) pa_nil))))))))), ?_⟩
    obtain ⟨b, x, n, s, c, a, rfl, ha, ⟨hn1, hn2, hx, hc⟩, q⟩ := h
    refine ⟨_, rfl, a, _, rfl, sq_tup ha, rfl, _, _, rfl, _, _, rfl, rfl, ?_⟩
    refine ⟨_, rfl, _, rfl, _, rfl, b, s, n, rfl, ⟨hn1, hn2⟩, ?_⟩
    refine ⟨Nat.zero_le _, fun l nl => ?_⟩
    refine ⟨_, rfl, ?_⟩
    refine ⟨_, rfl, (c : Int), rfl, by omega, by omega, ?_⟩
    have hl : b ^ s % n < n := Nat.mod_lt _ hn1
    refine for_range (lo := 0) (n := (c : Int).toNat) (fun i σ H' => Gr [] H H' ∧ H' l = some (.lst (vn (spc b n x s i))) ∧ ∃ v, σ = [some (.int b), some (.ref a), some (.int s), some (.int c), some (.int x), some (.int n), some (.int (b ^ s % n : Nat)), some (.ref l), some (.int (rem b n x (s * i) : Nat)), v]) ⟨Gr.new nl, upd_same, none, ?_⟩ ?_ ?_
    · rw [Nat.mul_zero, rem_zero hx]
      rfl
    · rintro i σ H' hi ⟨G, hL, v, rfl⟩
      have hr1 := rem_lt (b := b) (n := n) (x := x) (i := s * i) hn1
      refine ⟨_, rfl, .inl ⟨rfl, _, sq_lst hL⟩, _, rfl, l, _, _, rfl, rfl, hL, by rw [vn_len, spc_len]; exact small5 (by omega), ?_⟩
      refine ⟨_, rfl, _, rfl, _, _, rfl, rfl, .inl ⟨by omega, by omega⟩, _, rfl, _, n, rfl, rfl, (show (0 : Int) < (n : Int) by omega), ?_⟩
      dsimp only
      rw [icm, show rem b n x (s * i) * (b ^ s % n) % n = rem b n x (s * (i + 1)) by unfold rem; rw [Nat.mul_mod_mod, Nat.mod_mul_mod, Nat.mul_assoc, ← Nat.pow_add, Nat.mul_succ]]
      refine ⟨fun u o _ e => ?_, ?_, _, rfl⟩
      · rw [upd_ne (ne_of_none e nl)]
        exact G u o (by simp) e
      · rw [upd_same, vn_snoc]
        unfold spc
        rw [List.range_succ, List.map_append]
        rfl
    rintro σ H2 ⟨G, hL, v, rfl⟩
    rw [Int.toNat_natCast] at hL
    refine ⟨_, rfl, l, _, rfl, .inl ⟨sq_lst hL, fun t nt => ?_⟩⟩
    exact q t _ (G.trans (Gr.new nt)) upd_same

def sp_is_balanced_with : Sp := fun vs H Q _ => ∃ b n s c : Nat, vs = [.int b, .int n, .int s, .int c] ∧ (2 ≤ n ∧ n ≤ 5000 ∧ c ≤ 5000) ∧ ∀ H', Gr [] H H' → Q (.bl (bal b n s c)) H'
theorem ok_is_balanced_with (T : Txt K mg) : FnOk P w K mg base CX0 3 T.d_is_balanced_with.f T.d_is_balanced_with.fd ["base", "denominator", "size", "cut"] sp_is_balanced_with := by
  refine T.d_is_balanced_with.F.ok sc_is_balanced_with (fun vs H Q E h => ?_) (fun cdv A outer s H vs Q E hr h => ?_)
  · obtain ⟨b, n, s, c, rfl, _⟩ := h; rfl
  · have hu := hu_of hr
    refine ⟨_, (pss_one (ps_ret (pe_cmpR op_eq (pe_op op_mod (pe_callB (r := rSumT K) (cr_sumT rfl) (by rfl) T.b_sum (by decide +kernel) (pa_cons (pe_call (ok_spaced T) (hr.mono (by decide)) (by rfl) T.d_spaced.m T.d_spaced.F.kp T.d_spaced.b .nil pass0 (pa_cons (pv 0) (pa_cons (pe_tup (pa_cons pe_int (pa_cons (pv 1) pa_nil))) (pa_cons (pv 2) (pa_cons (pv 3) pa_nil))))) pa_nil)) (pv 1)) pe_int (nomark _)))), ?_⟩
    obtain ⟨b, n, s, c, rfl, ⟨hn1, hn2, hc⟩, q⟩ := h
    refine ⟨_, rfl, _, rfl, by show 2 ≤ sizeLine; decide, fun p np => ?_⟩
    refine ⟨_, rfl, _, rfl, b, 1, n, s, c, p, rfl, upd_same, ⟨by omega, hn2, by omega, hc⟩, fun t H1 g1 h1 => ?_⟩
    refine ⟨t, ni (spc b n 1 s c), rfl, by rw [← vn_ni]; exact sq_tup h1, ?_⟩
    refine ⟨_, rfl, _, n, rfl, rfl, (show (0 : Int) < (n : Int) by omega), ?_⟩
    dsimp only
    rw [ni_sum]
    have e : decide (V.int ((((spc b n 1 s c).sum : Nat) : Int) % (n : Int)) = V.int 0) = bal b n s c := by
      unfold bal
      rw [← Int.natCast_emod]
      show _ = decide ((spc b n 1 s c).sum % n = 0)
      by_cases z : (spc b n 1 s c).sum % n = 0
      · rw [decide_eq_true z, z]
        rfl
      · rw [decide_eq_false z, decide_eq_false (fun y => z (by have := V.int.inj y; omega))]
    have fin := q _ ((Gr.new np).trans g1)
    rw [← e] at fin
    exact ⟨rfl, fin⟩

theorem due_le {b n L : Nat} (hL : 1 ≤ L) : (dueL b n L).length ≤ L := by
  unfold dueL splitsL
  refine Nat.le_trans (List.length_filter_le _ _) (Nat.le_trans (List.length_filter_le _ _) ?_)
  rw [from2_len]
  omega
theorem splits_le (L : Nat) : (splitsL L).length ≤ L - 1 := by
  unfold splitsL
  refine Nat.le_trans (List.length_filter_le _ _) ?_
  rw [from2_len]
  exact Nat.le_refl _
theorem per_pos {b n L : Nat} (h : IsPer b n L) : 1 ≤ L := h.1
theorem per_le {b n L : Nat} (hn : 1 ≤ n) (g : Nat.gcd b n = 1) (h : IsPer b n L) : L ≤ n := by
  obtain ⟨d, hd, hd'⟩ := per_exists hn g
  rw [h.uniq hd']
  exact hd
/-- a period of 2 or more is one of a denominator of 2 or more -/
theorem per_n {b n L : Nat} (hn : 1 ≤ n) (h : IsPer b n L) (h2 : 2 ≤ L) : 2 ≤ n := by
  rcases Nat.lt_or_ge n 2 with z | z
  · have : n = 1 := by omega
    subst this
    exact absurd (by rw [Nat.mod_one, Nat.mod_one]) (h.2.2 1 (Nat.le_refl _) h2)
  · exact z
def LB (b n L : Nat) : Prop := b ≤ 1000 ∧ 2 ≤ n ∧ n ≤ 5000 ∧ Nat.gcd b n = 1 ∧ IsPer b n L
theorem LB.par {b n p q h L d : Nat} (B : LB b n L) (P : Par b n p q h d) : p = n ∧ h = 0 ∧ d = L := by
  have ep := P.hp.uniq (IsPure.self B.2.2.2.1)
  subst ep
  have eq1 : q = 1 := by
    have := P.e
    have h2 := B.2.1
    have : p * 1 = p * q := by omega
    exact (Nat.eq_of_mul_eq_mul_left (by omega) this).symm
  subst eq1
  refine ⟨rfl, P.hh.uniq ⟨Nat.mod_one _, fun j hj => absurd hj (Nat.not_lt_zero _)⟩, P.hL.uniq B.2.2.2.2⟩
def sp_law_splits : Sp := fun vs H Q _ => ∃ b n L : Nat, vs = [.int b, .int n] ∧ LB b n L ∧ ∀ (t l : Addr) H', Gr [] H H' → H' t = some (.tup [.int (L : Nat), .ref l]) → H' l = some (.lst (vn (splitsL L))) → Q (.ref t) H'
theorem ok_law_splits (T : Txt K mg) : FnOk P w K mg base CX0 2 T.d_law_splits.f T.d_law_splits.fd ["b", "n"] sp_law_splits := by
  refine T.d_law_splits.F.ok sc_law_splits (fun vs H Q E h => ?_) (fun cdv A outer s H vs Q E hr h => ?_)
  · obtain ⟨b, n, L, rfl, _⟩ := h; rfl
  · have hu := hu_of hr
    refine ⟨_, (pss_cons (ps_set (i := 2) sc_law_splits.nd rfl (by first | exact .inl rfl | exact .inr rfl) (pe_callB (r := rLn K) call_ln (by rfl) T.b_len PySem.boot_len (pa_cons (pe_ix (r := rIxT K) ix_tup (pe_call (ok_law_ring T) (hr.mono (by decide)) (by rfl) T.d_law_ring.m T.d_law_ring.F.kp T.d_law_ring.b .nil pass0 (pa_cons (pv 0) (pa_cons (pe_tup (pa_cons pe_int (pa_cons (pv 1) pa_nil))) pa_nil))) pe_int (fun _ _ => rfl)) pa_nil)))
      (pss_one (ps_ret (pe_tup (pa_cons (pv 2) (pa_cons (pe_lc (own := [("cut", 3)]) (g := gName 3) (tt := _) rfl sc_law_splits.nd (pi_range2 (by rfl) T.b_range (pa_cons pe_int (pa_cons (pe_op op_add (pv 2) pe_int) pa_nil))) (blkOk_by (own := [("cut", 3)]) (N := ["b", "n", "size", "cut"]) (sc := defScope s_law_splits) (by decide +kernel)) (fun _ _ _ _ _ => (pg_name (i := 3) sc_law_splits.nd rfl (by first | exact .inl rfl | exact .inr rfl))) (fun _ _ _ _ _ => (pts_one (pt_cmpR op_eq (pe_op op_mod (pe_callTy call_int1 (by rfl) T.b_int (by decide +kernel) (pa_cons (pv 2) pa_nil)) (pv 3)) pe_int (nomark _)))) (fun _ _ _ _ _ => (pv 3))) pa_nil)))))), ?_⟩
    obtain ⟨b, n, L, rfl, B, q⟩ := h
    obtain ⟨hb2, hn1, hn2, hg, hP⟩ := id B
    have hL1 := hP.1
    have hLn := per_le (by omega) hg hP
    refine ⟨_, rfl, _, rfl, by show 2 ≤ sizeLine; decide, fun p np => ?_⟩
    refine ⟨b, 1, n, p, rfl, upd_same, ⟨hb2, hn2, by omega, by simp⟩, fun t r H1 p0 q0 h0 L0 P g1 ht hr1 => ?_⟩
    obtain ⟨rfl, rfl, rfl⟩ := B.par P
    refine ⟨t, _, _, .ref r, rfl, rfl, sq_tup ht, atI_nat (j := 0) rfl, r, _, rfl, .inl (sq_lst hr1), ?_⟩
    rw [rms_len, Nat.zero_add]
    refine ⟨_, rfl, _, rfl, _, _, rfl, rfl, 2, _, rfl, ⟨by omega, by omega, by omega, by omega⟩, fun D nD => ?_⟩
    have en : ((L0 : Int) + 1 - 2).toNat = L0 - 1 := by omega
    rw [en]
    refine lc_range (lo := 2) (n := L0 - 1) (fun i H' => Gr [] H1 H' ∧ H' D = some (.lst (vn (((from2 (L0 - 1)).take i).filter fun c => decide (L0 % c = 0))))) ⟨Gr.new nD, upd_same⟩ ?_ ?_
    · rintro i H' hi ⟨G, hD⟩
      have ei : (2 : Int) + (i : Int) = ((2 + i : Nat) : Int) := by omega
      rw [ei]
      refine ⟨rfl, ?_⟩
      have hfl : i < (from2 (L0 - 1)).length := by rw [from2_len]; exact hi
      have fg := from2_get hi
      have e0 : ((L0 : Nat) : Int) % ((2 + i : Nat) : Int) = ((L0 % (2 + i) : Nat) : Int) := by rw [← Int.natCast_emod]
      refine ⟨_, rfl, .inl ⟨_, rfl, _, rfl, _, _, rfl, rfl, (show (0 : Int) < ((2 + i : Nat) : Int) by omega), rfl, ?_⟩⟩
      have ex : ∀ {o : HO}, Gr [] H1 (upd H' D o) := fun {o} c u _ e => by
        rw [upd_ne (ne_of_none e nD)]
        exact G c u (by simp) e
      by_cases h1 : L0 % (2 + i) = 0
      · rw [decide_eq_true (show V.int ((L0 : Int) % ((2 + i : Nat) : Int)) = V.int 0 by rw [e0, h1]; rfl)]
        refine ⟨_, rfl, iteT ⟨_, rfl, _, hD, ?_, ex, ?_⟩⟩
        · rw [vn_len]
          refine small5 (Nat.le_trans (List.length_filter_le _ _) ?_)
          rw [List.length_take]
          omega
        · rw [upd_same, vn_snoc, filt_yes hfl (by rw [fg]; exact decide_eq_true h1), fg]
      · rw [decide_eq_false (fun z : V.int ((L0 : Int) % ((2 + i : Nat) : Int)) = V.int 0 => h1 (by rw [e0] at z; have := V.int.inj z; omega))]
        refine ⟨_, rfl, iteF ⟨G, ?_⟩⟩
        rw [filt_no hfl (by rw [fg]; exact decide_eq_false h1)]
        exact hD
    rintro H2 ⟨g2, hD⟩
    rw [List.take_of_length_le (by rw [from2_len]; exact Nat.le_refl _)] at hD
    refine ⟨by show 2 ≤ sizeLine; decide, fun u nu => ?_⟩
    refine q u D _ (((Gr.new np).trans g1).trans (g2.trans (Gr.new nu))) upd_same ?_
    rw [upd_ne (ne_of_none hD nu)]
    exact hD

theorem fm_map {α β : Type} {f : α → Option β} {g : α → β} : ∀ l : List α, (∀ x ∈ l, f x = some (g x)) → l.filterMap f = l.map g
  | [], _ => rfl
  | x :: r, h => by
    rw [List.filterMap_cons, h x (List.mem_cons_self ..), List.map_cons, fm_map r fun y hy => h y (List.mem_cons_of_mem _ hy)]
theorem step_rms (b n x k c : Nat) (hk : 1 ≤ k) : stepV (rms b n x (k * c)) k = vn (spc b n x k c) := by
  unfold stepV
  have e : (k * c + k - 1) / k = c := by
    rw [show k * c + k - 1 = k - 1 + k * c by omega, Nat.add_mul_div_left _ _ (by omega), Nat.div_eq_of_lt (by omega), Nat.zero_add]
  rw [rms_len, e]
  have f : (List.range c).filterMap (fun i => (rms b n x (k * c))[k * i]?) = (List.range c).map (fun i => V.int (rem b n x (k * i) : Nat)) := by
    refine fm_map _ fun i hi => ?_
    have hi := List.mem_range.mp hi
    have : k * i < k * c := Nat.mul_lt_mul_of_pos_left hi (by omega)
    unfold rms
    rw [List.getElem?_map, List.getElem?_range this]
    rfl
  rw [f]
  unfold vn spc
  rw [List.map_map]
  rfl

end
end Wn
namespace Wn
open PySem PySem.Spec PyProof.Rows L2
local macro_rules | `(tactic| walk_at "vc") => `(tactic| simp only [cxK, cxK2, start1, start2, start3, tRet, tRetN, tSeq, tNext, tIfS, tAsg, gName, tDrop, tVar, tC, tOp, tUn, tTest, tB, tNot, tAnd, tOr, tAndV, tOrV, tNotV, tIf, tCons, tNil, tCB, tCall, tChain, tAug, ipI, rI, rI0, rU, rIs, rGcd, rEq, rNe, scal,
  List.getElem?_cons_zero, List.getElem?_cons_succ, List.set_cons_zero, List.set_cons_succ, Option.some.injEq, List.cons.injEq, V.int.injEq, V.bl.injEq, V.ref.injEq, V.str.injEq, and_true, true_and, exists_eq_left, exists_eq_left', exists_and_left, exists_and_right, List.append_nil, List.nil_append, List.cons_append, exists_eq_right, exists_eq_right', and_assoc, exists_const, V.ty.injEq, ↓reduceIte, Bool.false_eq_true, Bool.not_true, Bool.not_false, decide_eq_true_eq])

section
variable {P : Program} {w : World} {K : PySem.W.Frag} {mg : Str → Option Value} {base : Heap}

def PF (b x n : Nat) : Prop := BN b n ∧ x < n ∧ Nat.gcd x n = 1 ∧ Nat.gcd b n = 1
def sp_need_pure_fraction : Sp := fun vs H Q _ => ∃ (b x n : Nat) (a : Addr), vs = [.int b, .ref a] ∧ H a = some (.tup [.int x, .int n]) ∧ PF b x n ∧ Q (.ref a) H
theorem ok_need_pure_fraction (T : Txt K mg) : FnOk P w K mg base CX0 4 T.d_need_pure_fraction.f T.d_need_pure_fraction.fd ["base", "fraction"] sp_need_pure_fraction := by
  refine T.d_need_pure_fraction.F.ok sc_need_pure_fraction (fun vs H Q E h => ?_) (fun cdv A outer s H vs Q E hr h => ?_)
  · obtain ⟨b, x, n, a, rfl, _⟩ := h; rfl
  · have hu := hu_of hr
    refine ⟨_, (pss_cons (ps_expr (pe_call (ok_need_base T) (hr.mono (by decide)) (by rfl) T.d_need_base.m T.d_need_base.F.kp T.d_need_base.b .nil pass0 (pa_cons (pv 0) pa_nil)))
      (pss_cons (ps_expr (pe_call (ok_need_fraction T) (hr.mono (by decide)) (by rfl) T.d_need_fraction.m T.d_need_fraction.F.kp T.d_need_fraction.b .nil pass0 (pa_cons (pv 1) pa_nil)))
      (pss_cons (ps_if (pt_cmpR op_ne (pe_callBfun cr_gcd (by rfl) T.b_gcd (pa_cons (pv 0) (pa_cons (pe_ix (r := rIxT K) ix_tup (pv 1) pe_int (fun _ _ => rfl)) pa_nil))) pe_int (nomark _)) (pss_one ps_never) pss_nil)
      (pss_one (ps_ret (pv 1)))))), ?_⟩
    obtain ⟨b, x, n, a, rfl, ha, ⟨⟨hb1, hb2, hn1, hn2⟩, hx, hg, hp⟩, q⟩ := h
    refine ⟨_, rfl, b, rfl, ⟨by omega, by omega⟩, ?_⟩
    refine ⟨_, rfl, a, x, n, rfl, ha, ⟨hx, hn2, hg⟩, ?_⟩
    refine ⟨_, rfl, _, rfl, a, _, _, .int n, rfl, rfl, sq_tup ha, atI_nat (j := 1) rfl, b, n, rfl, rfl, _, rfl, ?_⟩
    have e : (!decide (V.int ((Nat.gcd (b : Int).natAbs (n : Int).natAbs : Nat) : Int) = V.int 1)) = false := by
      rw [Int.natAbs_natCast, Int.natAbs_natCast, hp]
      rfl
    rw [e]
    exact iteF ⟨_, rfl, q⟩

def sp_piece_size : Sp := fun vs H Q _ => ∃ b n L c : Nat, vs = [.int b, .int n, .int c] ∧ BN b n ∧ Nat.gcd b n = 1 ∧ IsPer b n L ∧ (2 ≤ c ∧ c ∣ L) ∧ Q (.int (L / c : Nat)) H
theorem ok_piece_size (T : Txt K mg) : FnOk P w K mg base CX0 6 T.d_piece_size.f T.d_piece_size.fd ["base", "denominator", "cut"] sp_piece_size := by
  refine T.d_piece_size.F.ok sc_piece_size (fun vs H Q E h => ?_) (fun cdv A outer s H vs Q E hr h => ?_)
  · obtain ⟨b, n, L, c, rfl, _⟩ := h; rfl
  · have hu := hu_of hr
    refine ⟨_, (pss_cons (ps_set (i := 3) sc_piece_size.nd rfl (by first | exact .inl rfl | exact .inr rfl) (pe_call (ok_period T) (hr.mono (by decide)) (by rfl) T.d_period.m T.d_period.F.kp T.d_period.b .nil pass0 (pa_cons (pv 0) (pa_cons (pv 1) pa_nil))))
      (pss_cons (ps_if (PW.pt (pw_or (pt_not (pt_val (pe_call (ok_is_within T) (hr.mono (by decide)) (by rfl) T.d_is_within.m T.d_is_within.F.kp T.d_is_within.b .nil pass0 (pa_cons (pv 2) (pa_cons pe_int (pa_cons (pv 3) pa_nil)))))) (pw_or1 (pt_cmpR op_ne (pe_op op_mod (pv 3) (pv 2)) pe_int (nomark _))))) (pss_one ps_never) pss_nil)
      (pss_one (ps_ret (pe_op op_fdiv (pv 3) (pv 2)))))), ?_⟩
    obtain ⟨b, n, L, c, rfl, hbn, hg, hP, ⟨hc, hd⟩, q⟩ := h
    obtain ⟨hb1, hb2, hn1, hn2⟩ := id hbn
    have hL1 := hP.1
    have hLn := per_le hn1 hg hP
    have hcL := Nat.le_of_dvd hL1 hd
    refine ⟨_, rfl, _, rfl, b, n, rfl, hbn, fun p d hp hd' => ?_⟩
    have ep : p = n := hp.uniq (IsPure.self hg)
    subst ep
    have ed : d = L := hd'.uniq hP
    subst ed
    refine ⟨_, rfl, _, rfl, c, _, _, rfl, ⟨by omega, by omega⟩, true, rfl, iteF ?_⟩
    refine ⟨_, rfl, _, rfl, _, _, rfl, rfl, (show (0 : Int) < (c : Int) by omega), rfl, _, rfl, ?_⟩
    have e0 : (d : Int) % (c : Int) = 0 := by rw [← Int.natCast_emod, Nat.mod_eq_zero_of_dvd hd]; rfl
    rw [show (!decide (V.int ((d : Int) % (c : Int)) = V.int 0)) = false by rw [e0]; rfl]
    refine iteF ⟨_, rfl, _, rfl, _, _, rfl, rfl, ⟨by omega, by omega⟩, ?_⟩
    dsimp only
    rw [← Int.natCast_ediv]
    exact q

def sp_number_of : Sp := fun vs H Q _ => ∃ (b : Nat) (t : Addr) (ds : List Nat), vs = [.int b, .ref t] ∧ H t = some (.tup (vn ds)) ∧ b ≤ 1000 ∧ Q (.int (wrt b ds : Nat)) H
theorem wrt_step {b : Nat} {ds : List Nat} {i : Nat} (hi : i < ds.length) : wrt b (ds.take (i + 1)) = wrt b (ds.take i) * b + ds[i] := by
  rw [List.take_succ_eq_append_getElem hi, wrt_snoc]
theorem ok_law_worth (T : Txt K mg) : FnOk P w K mg base CX0 1 T.d_law_worth.f T.d_law_worth.fd ["b", "figs"] sp_number_of := by
  refine T.d_law_worth.F.ok sc_law_worth (fun vs H Q E h => ?_) (fun cdv A outer s H vs Q E hr h => ?_)
  · obtain ⟨b, t, ds, rfl, _⟩ := h; rfl
  · have hu := hu_of hr
    refine ⟨_, (pss_cons (ps_set (i := 2) sc_law_worth.nd rfl (by first | exact .inl rfl | exact .inr rfl) pe_int)
      (pss_cons (ps_for PassesOwn.never rfl (pi_tup (pv 1)) (pg_name (i := 3) sc_law_worth.nd rfl (by first | exact .inl rfl | exact .inr rfl)) (pss_one (ps_set (i := 2) sc_law_worth.nd rfl (by first | exact .inl rfl | exact .inr rfl) (pe_op op_add (pe_op op_mul (pv 2) (pv 0)) (pv 3)))))
      (pss_one (ps_ret (pv 2))))), ?_⟩
    obtain ⟨b, t, ds, rfl, ht, hb, q⟩ := h
    refine ⟨_, rfl, t, rfl, ⟨_, sq_tup ht⟩, ?_⟩
    refine for_tup (K := K) (a := t) (xs := vn ds) (fun i σ H' => H' = H ∧ ∃ v, σ = [some (.int b), some (.ref t), some (.int (wrt b (ds.take i) : Nat)), v]) ⟨rfl, none, ?_⟩ (fun i σ H' _ z => by rw [z.1]; exact sq_tup ht) ?_ ?_
    · rfl
    · rintro i y σ H' hy ⟨rfl, v, rfl⟩
      obtain ⟨hi, rfl⟩ := vn_get hy
      refine ⟨_, rfl, _, rfl, _, _, rfl, rfl, .inr ⟨by omega, by omega⟩, _, rfl, _, _, rfl, rfl, rfl, some (.int (ds[i] : Nat)), ?_⟩
      dsimp only
      rw [wrt_step hi, Int.natCast_add, Int.natCast_mul]
      rfl
    rintro σ H' ⟨rfl, v, rfl⟩
    rw [List.take_of_length_le (by rw [vn_len]; exact Nat.le_refl _)]
    exact ⟨_, rfl, q⟩

theorem dgf_vn (b n x lo c : Nat) : dgf b n x lo c = vn (dg b n x lo c) := by
  unfold dgf vn dg
  rw [List.map_map]
  rfl
theorem dg_cut {b n x L lo hi : Nat} (h1 : lo ≤ hi) (h2 : hi ≤ L) : cutV (vn (dg b n x 0 L)) (some (lo : Int)) (some (hi : Int)) = vn (dg b n x lo (hi - lo)) := by
  unfold cutV
  rw [HT.sIx_nat, HT.sIx_nat, vn_len, dg_len, Nat.min_eq_left h2, Nat.min_eq_left (Nat.le_trans h1 h2)]
  unfold vn dg
  rw [← List.map_drop, ← List.map_take, ← List.map_drop, ← List.map_take]
  rw [List.map_map, List.map_map]
  apply List.ext_getElem
  · simp
    omega
  · intro i i1 i2
    simp
theorem par_pure {b n p q h L : Nat} (hn : 1 ≤ n) (hg : Nat.gcd b n = 1) (P : Par b n p q h L) : p = n ∧ h = 0 := by
  have ep := P.hp.uniq (IsPure.self hg)
  subst ep
  have eq1 : q = 1 := by
    have := P.e
    have : p * 1 = p * q := by omega
    exact (Nat.eq_of_mul_eq_mul_left (by omega) this).symm
  subst eq1
  exact ⟨rfl, P.hh.uniq ⟨Nat.mod_one _, fun j hj => absurd hj (Nat.not_lt_zero _)⟩⟩
def CT (b n L k c : Nat) : Prop := IsPer b n L ∧ 2 ≤ c ∧ 1 ≤ k ∧ L = k * c
theorem CT.d {b n L k c : Nat} (h : CT b n L k c) : c ∣ L ∧ L / c = k := by
  obtain ⟨h1, h2, h3, h4⟩ := h
  exact ⟨⟨k, by rw [h4, Nat.mul_comm]⟩, by rw [h4]; exact Nat.mul_div_cancel _ (by omega)⟩
def sp_pieces : Sp := fun vs H Q _ => ∃ (b x n L k c : Nat) (a : Addr), vs = [.int b, .ref a, .int c] ∧ H a = some (.tup [.int x, .int n]) ∧ PF b x n ∧ CT b n L k c ∧
  ∀ t H', Gr [] H H' → H' t = some (.tup (vn (pcs b n x k c))) → Q (.ref t) H'

def qv (b n x k c : Nat) : V := if restSum b n x k c % n = 0 then .int (restSum b n x k c / n : Nat) else .non
def sp_quotient : Sp := fun vs H Q _ => ∃ (b x n L k c : Nat) (a : Addr), vs = [.int b, .ref a, .int c] ∧ H a = some (.tup [.int x, .int n]) ∧ PF b x n ∧ CT b n L k c ∧
  ∀ H', Gr [] H H' → Q (qv b n x k c) H'
theorem ok_quotient (T : Txt K mg) : FnOk P w K mg base CX0 7 T.d_quotient.f T.d_quotient.fd ["base", "fraction", "cut"] sp_quotient := by
  refine T.d_quotient.F.ok sc_quotient (fun vs H Q E h => ?_) (fun cdv A outer s H vs Q E hr h => ?_)
  · obtain ⟨b, x, n, L, k, c, a, rfl, _⟩ := h; rfl
  · have hu := hu_of hr
    refine ⟨_, (pss_cons (ps_expr (pe_call (ok_need_pure_fraction T) (hr.mono (by decide)) (by rfl) T.d_need_pure_fraction.m T.d_need_pure_fraction.F.kp T.d_need_pure_fraction.b .nil pass0 (pa_cons (pv 0) (pa_cons (pv 1) pa_nil))))
      (pss_cons (ps_set (i := 3) sc_quotient.nd rfl (by first | exact .inl rfl | exact .inr rfl) (pe_call (ok_piece_size T) (hr.mono (by decide)) (by rfl) T.d_piece_size.m T.d_piece_size.F.kp T.d_piece_size.b .nil pass0 (pa_cons (pv 0) (pa_cons (pe_ix (r := rIxT K) ix_tup (pv 1) pe_int (fun _ _ => rfl)) (pa_cons (pv 2) pa_nil)))))
      (pss_cons (ps_set (i := 4) sc_quotient.nd rfl (by first | exact .inl rfl | exact .inr rfl) (pe_callB (r := rSumT K) (cr_sumT rfl) (by rfl) T.b_sum (by decide +kernel) (pa_cons (pe_call (ok_spaced T) (hr.mono (by decide)) (by rfl) T.d_spaced.m T.d_spaced.F.kp T.d_spaced.b .nil pass0 (pa_cons (pv 0) (pa_cons (pv 1) (pa_cons (pv 3) (pa_cons (pv 2) pa_nil))))) pa_nil)))
      (pss_cons (ps_if (pt_cmpR op_ne (pe_op op_mod (pv 4) (pe_ix (r := rIxT K) ix_tup (pv 1) pe_int (fun _ _ => rfl))) pe_int (nomark _)) (pss_one (ps_ret pe_non)) pss_nil)
      (pss_one (ps_ret (pe_op op_fdiv (pv 4) (pe_ix (r := rIxT K) ix_tup (pv 1) pe_int (fun _ _ => rfl))))))))), ?_⟩
    obtain ⟨b, x, n, L, k, c, a, rfl, ha, hf, hC, q⟩ := h
    obtain ⟨⟨hb1, hb2, hn1, hn2⟩, hx, hg, hp⟩ := id hf
    obtain ⟨hP, hc2, hk1, hL⟩ := id hC
    obtain ⟨cd, ce⟩ := hC.d
    have hLn := per_le hn1 hp hP
    have hcL : c ≤ L := Nat.le_of_dvd hP.1 cd
    refine ⟨_, rfl, _, rfl, b, x, n, a, rfl, ha, hf, ?_⟩
    refine ⟨_, rfl, _, rfl, a, _, _, .int n, rfl, rfl, sq_tup ha, atI_nat (j := 1) rfl, _, rfl, b, n, L, c, rfl, hf.1, hp, hP, ⟨hc2, cd⟩, ?_⟩
    rw [ce]
    refine ⟨_, rfl, _, rfl, _, rfl, _, rfl, b, x, n, k, c, a, rfl, ha, ⟨hn1, hn2, hx, by omega⟩, fun t H1 g1 h1 => ?_⟩
    have ha1 := g1 a _ (by simp) ha
    refine ⟨t, ni (spc b n x k c), rfl, by rw [← vn_ni]; exact sq_tup h1, ?_⟩
    rw [ni_sum]
    have es : (spc b n x k c).sum = restSum b n x k c := rfl
    rw [es]
    generalize hR : restSum b n x k c = R
    have fin := q H1 g1
    unfold qv at fin
    rw [hR] at fin
    refine ⟨_, rfl, _, rfl, a, _, _, .int n, rfl, rfl, sq_tup ha1, atI_nat (j := 1) rfl, _, n, rfl, rfl, (show (0 : Int) < (n : Int) by omega), rfl, _, rfl, ?_⟩
    have e0 : (R : Int) % (n : Int) = ((R % n : Nat) : Int) := by rw [← Int.natCast_emod]
    by_cases hz : R % n = 0
    · rw [show (!decide (V.int ((R : Int) % (n : Int)) = V.int 0)) = false by rw [e0, hz]; rfl]
      rw [if_pos hz] at fin
      refine iteF ⟨_, rfl, _, rfl, a, _, _, .int n, rfl, rfl, sq_tup ha1, atI_nat (j := 1) rfl, _, n, rfl, rfl, ⟨by omega, by omega⟩, ?_⟩
      dsimp only
      rw [← Int.natCast_ediv]
      exact fin
    · rw [show (!decide (V.int ((R : Int) % (n : Int)) = V.int 0)) = true by rw [decide_eq_false (fun y => hz (by rw [e0] at y; have := V.int.inj y; omega))]; rfl]
      rw [if_neg hz] at fin
      exact iteT fin

def sp_law_power : Sp := fun vs H Q _ => ∃ b k : Nat, vs = [.int b, .int k] ∧ (b ≤ 1000 ∧ k ≤ 100000) ∧ Q (.int (b ^ k : Nat)) H
theorem ok_law_power (T : Txt K mg) : FnOk P w K mg base CX0 1 T.d_law_power.f T.d_law_power.fd ["b", "many"] sp_law_power := by
  refine T.d_law_power.F.ok sc_law_power (fun vs H Q E h => ?_) (fun cdv A outer s H vs Q E hr h => ?_)
  · obtain ⟨b, k, rfl, _⟩ := h; rfl
  · have hu := hu_of hr
    refine ⟨_, (pss_cons (ps_set (i := 2) sc_law_power.nd rfl (by first | exact .inl rfl | exact .inr rfl) pe_int)
      (pss_cons (ps_for PassesOwn.never rfl (pi_range1 (by rfl) T.b_range (pa_cons (pv 1) pa_nil)) (pg_name (i := 3) sc_law_power.nd rfl (by first | exact .inl rfl | exact .inr rfl)) (pss_one (ps_set (i := 2) sc_law_power.nd rfl (by first | exact .inl rfl | exact .inr rfl) (pe_op op_mul (pv 2) (pv 0)))))
      (pss_one (ps_ret (pv 2))))), ?_⟩
    obtain ⟨b, k, rfl, ⟨hb, hk⟩, q⟩ := h
    refine ⟨_, rfl, (k : Int), rfl, by omega, by omega, ?_⟩
    refine for_range (lo := 0) (n := ((k : Int)).toNat) (fun i σ H' => H' = H ∧ ∃ v, σ = [some (.int b), some (.int k), some (.int (b ^ i : Nat)), v]) ⟨rfl, none, ?_⟩ ?_ ?_
    · rfl
    · rintro i σ H' hi ⟨rfl, v, rfl⟩
      refine ⟨_, rfl, _, rfl, _, _, rfl, rfl, .inr ⟨by omega, by omega⟩, rfl, some (.int (0 + (i : Int))), ?_⟩
      dsimp only
      rw [Nat.pow_succ, Int.natCast_mul]
      rfl
    rintro σ H' ⟨rfl, v, rfl⟩
    rw [Int.toNat_natCast]
    exact ⟨_, rfl, q⟩

def sp_law_rests : Sp := fun vs H Q _ => ∃ (b x n k : Nat) (a : Addr), vs = [.int b, .ref a, .int k] ∧ H a = some (.tup [.int x, .int n]) ∧ (b ≤ 1000 ∧ 1 ≤ n ∧ n ≤ 5000 ∧ x < n ∧ k ≤ 5000) ∧ ∀ l H', Gr [] H H' → H' l = some (.lst (rms b n x k)) → Q (.ref l) H'

def sp_law_sliced : Sp := fun vs H Q _ => ∃ (b x n L k c : Nat) (a : Addr), vs = [.int b, .ref a, .int c] ∧ H a = some (.tup [.int x, .int n]) ∧ PF b x n ∧ CT b n L k c ∧
  ∀ l H', Gr [] H H' → H' l = some (.lst (vn (pcs b n x k c))) → Q (.ref l) H'
theorem ok_law_sliced (T : Txt K mg) : FnOk P w K mg base CX0 3 T.d_law_sliced.f T.d_law_sliced.fd ["b", "part", "cut"] sp_law_sliced := by
  refine T.d_law_sliced.F.ok sc_law_sliced (fun vs H Q E h => ?_) (fun cdv A outer s H vs Q E hr h => ?_)
  · obtain ⟨b, x, n, L, k, c, a, rfl, _⟩ := h; rfl
  · have hu := hu_of hr
    refine ⟨_, (pss_cons (ps_set (i := 3) sc_law_sliced.nd rfl (by first | exact .inl rfl | exact .inr rfl) (pe_ix (r := rIxT K) ix_tup (pe_call (ok_law_spread T) (hr.mono (by decide)) (by rfl) T.d_law_spread.m T.d_law_spread.F.kp T.d_law_spread.b .nil pass0 (pa_cons (pv 0) (pa_cons (pv 1) pa_nil))) pe_int (fun _ _ => rfl)))
      (pss_cons (ps_set (i := 4) sc_law_sliced.nd rfl (by first | exact .inl rfl | exact .inr rfl) (pe_op op_fdiv (pe_callB (r := rLn K) call_ln (by rfl) T.b_len PySem.boot_len (pa_cons (pv 3) pa_nil)) (pv 2)))
      (pss_one (ps_ret (pe_lc (own := [("k", 5)]) (g := gName 5) (tt := tYes) rfl sc_law_sliced.nd (pi_range1 (by rfl) T.b_range (pa_cons (pv 2) pa_nil)) (blkOk_by (own := [("k", 5)]) (N := ["b", "part", "cut", "figs", "size", "k"]) (sc := defScope s_law_sliced) (by decide +kernel)) (fun _ _ _ _ _ => (pg_name (i := 5) sc_law_sliced.nd rfl (by first | exact .inl rfl | exact .inr rfl))) (fun _ _ _ _ _ => pts_nil) (fun _ _ _ _ _ => (pe_call (ok_law_worth T) (hr.mono (by decide)) (by rfl) T.d_law_worth.m T.d_law_worth.F.kp T.d_law_worth.b .nil pass0 (pa_cons (pv 0) (pa_cons (pe_slice (r := rSlA K) sl_tupA (pv 3) (po_some (pe_op op_mul (pv 5) (pv 4))) (po_some (pe_op op_add (pe_op op_mul (pv 5) (pv 4)) (pv 4)))) pa_nil))))))))), ?_⟩
    obtain ⟨b, x, n, L, k, c, a, rfl, ha, hf, hC, q⟩ := h
    obtain ⟨⟨hb1, hb2, hn1, hn2⟩, hx, hg, hp⟩ := id hf
    obtain ⟨hP, hc2, hk1, hL⟩ := id hC
    obtain ⟨cd, ce⟩ := hC.d
    have hLn := per_le hn1 hp hP
    have hcL : c ≤ L := Nat.le_of_dvd hP.1 cd
    refine ⟨_, rfl, _, rfl, b, x, n, a, rfl, ha, ⟨hb2, hn2, hx, hg⟩, fun t H1 p q0 h L0 P g1 E => ?_⟩
    obtain ⟨rfl, rfl⟩ := par_pure hn1 hp P
    have eL := P.hL.uniq hP
    subst eL
    obtain ⟨a1, a2, e0, e1, e2⟩ := E.at_
    refine ⟨t, _, _, .ref a2, rfl, rfl, sq_tup e0, atI_nat (j := 1) rfl, ?_⟩
    rw [dgf_vn] at e2
    refine ⟨_, rfl, a2, _, rfl, .inr (sq_tup e2), _, rfl, _, _, rfl, rfl, ⟨by omega, by omega⟩, ?_⟩
    rw [vn_len, dg_len]
    dsimp only
    rw [← Int.natCast_ediv, ce]
    refine ⟨_, rfl, (c : Int), rfl, by omega, by omega, fun D nD => ?_⟩
    refine lc_range (lo := 0) (n := ((c : Int)).toNat) (fun i H' => Gr [] H1 H' ∧ H' D = some (.lst (vn (pcs b p x k i)))) ⟨Gr.new nD, upd_same⟩ ?_ ?_
    · rintro i H' hi ⟨G, hD⟩
      have e2' := G a2 _ (by simp) e2
      have hi' : i < c := by omega
      have hm : k * i + k ≤ k * c := by
        rw [← Nat.mul_succ]
        exact Nat.mul_le_mul_left _ hi'
      have ei : (0 : Int) + (i : Int) = ((i : Nat) : Int) := by omega
      rw [ei]
      refine ⟨rfl, ?_⟩
      dsimp only [tYes]
      refine iteT ?_
      refine ⟨_, rfl, _, rfl, _, rfl, _, rfl, _, _, rfl, rfl, .inl ⟨by omega, by omega⟩, _, rfl, _, rfl, _, rfl, _, _, rfl, rfl, .inl ⟨by omega, by omega⟩, _, rfl, _, _, rfl, rfl, _, rfl, ?_⟩
      have q1 : (i : Int) * (k : Int) = ((k * i : Nat) : Int) := by rw [Int.natCast_mul, Int.mul_comm]
      have q2 : (i : Int) * (k : Int) + (k : Int) = ((k * i + k : Nat) : Int) := by rw [Int.natCast_add, Int.natCast_mul, Int.mul_comm]
      dsimp only
      rw [q2, q1]
      refine slA_of e2' fun u H2 g2 hu2 => ?_
      rw [dg_cut (by omega) (by omega), Nat.add_sub_cancel_left] at hu2
      have hD2 := g2 D _ (by simp) hD
      refine ⟨b, u, _, rfl, hu2, hb2, _, hD2, ?_, ?_, ?_⟩
      · rw [vn_len, pcs_len]
        exact small5 (by omega)
      · intro u o _ e
        rw [upd_ne (ne_of_none e nD)]
        exact (G.trans g2) u o (by simp) e
      · rw [upd_same, vn_snoc, pcs_succ]
        rfl
    rintro H2 ⟨g2, hD⟩
    rw [Int.toNat_natCast] at hD
    exact q D _ (g1.trans g2) hD

def from1 (k : Nat) : List Nat := (List.range k).map (1 + ·)
theorem from1_len (k : Nat) : (from1 k).length = k := by simp [from1]
theorem from1_get {k i : Nat} (h : i < k) : (from1 k)[i]'(by rw [from1_len]; exact h) = 1 + i := by simp [from1]
def topsL (n : Nat) : List Nat := (from1 (n - 1)).filter fun x => decide (Nat.gcd x n = 1)
theorem mem_tops {n x : Nat} : x ∈ topsL n ↔ 1 ≤ x ∧ x < n ∧ Nat.gcd x n = 1 := by
  unfold topsL from1
  rw [List.mem_filter, decide_eq_true_eq, List.mem_map]
  constructor
  · rintro ⟨⟨i, hi, rfl⟩, h⟩
    rw [List.mem_range] at hi
    exact ⟨by omega, by omega, h⟩
  · rintro ⟨h1, h2, h3⟩
    exact ⟨⟨x - 1, List.mem_range.mpr (by omega), by omega⟩, h3⟩
theorem tops_len (n : Nat) : (topsL n).length ≤ n := by
  unfold topsL
  refine Nat.le_trans (List.length_filter_le _ _) ?_
  rw [from1_len]
  omega
def sp_law_tops : Sp := fun vs H Q _ => ∃ n : Nat, vs = [.int n] ∧ (2 ≤ n ∧ n ≤ 5000) ∧ ∀ l H', Gr [] H H' → H' l = some (.lst (vn (topsL n))) → Q (.ref l) H'
theorem ok_law_tops (T : Txt K mg) : FnOk P w K mg base CX0 2 T.d_law_tops.f T.d_law_tops.fd ["n"] sp_law_tops := by
  refine T.d_law_tops.F.ok sc_law_tops (fun vs H Q E h => ?_) (fun cdv A outer s H vs Q E hr h => ?_)
  · obtain ⟨n, rfl, _⟩ := h; rfl
  · have hu := hu_of hr
    refine ⟨_, (pss_one (ps_ret (pe_lc (own := [("x", 1)]) (g := gName 1) (tt := _) rfl sc_law_tops.nd (pi_range2 (by rfl) T.b_range (pa_cons pe_int (pa_cons (pv 0) pa_nil))) (blkOk_by (own := [("x", 1)]) (N := ["n", "x"]) (sc := defScope s_law_tops) (by decide +kernel)) (fun _ _ _ _ _ => (pg_name (i := 1) sc_law_tops.nd rfl (by first | exact .inl rfl | exact .inr rfl))) (fun _ _ _ _ _ => (pts_one (pt_cmpR op_eq (pe_call (ok_law_divisor T) (hr.mono (by decide)) (by rfl) T.d_law_divisor.m T.d_law_divisor.F.kp T.d_law_divisor.b .nil pass0 (pa_cons (pv 1) (pa_cons (pv 0) pa_nil))) pe_int (nomark _)))) (fun _ _ _ _ _ => (pv 1))))), ?_⟩
    obtain ⟨n, rfl, ⟨hn1, hn2⟩, q⟩ := h
    refine ⟨_, rfl, 1, _, rfl, ⟨by omega, by omega, by omega, by omega⟩, fun E nE => ?_⟩
    have en : ((n : Int) - 1).toNat = n - 1 := by omega
    rw [en]
    refine lc_range (lo := 1) (n := n - 1) (fun i H' => Gr [] H H' ∧ H' E = some (.lst (vn (((from1 (n - 1)).take i).filter fun c => decide (Nat.gcd c n = 1))))) ⟨Gr.new nE, upd_same⟩ ?_ ?_
    · rintro i H' hi ⟨G, hE⟩
      have ei : (1 : Int) + (i : Int) = ((1 + i : Nat) : Int) := by omega
      rw [ei]
      refine ⟨rfl, ?_⟩
      have hfl : i < (from1 (n - 1)).length := by rw [from1_len]; exact hi
      have fg := from1_get hi
      refine ⟨_, rfl, _, rfl, 1 + i, n, rfl, rfl, ?_⟩
      have ex : ∀ {o : HO}, Gr [] H (upd H' E o) := fun {o} c u _ e => by
        rw [upd_ne (ne_of_none e nE)]
        exact G c u (by simp) e
      by_cases h1 : Nat.gcd (1 + i) n = 1
      · rw [decide_eq_true (show V.int ((Nat.gcd (1 + i) n : Nat) : Int) = V.int 1 by rw [h1]; rfl)]
        refine ⟨_, rfl, iteT ⟨_, rfl, _, hE, ?_, ex, ?_⟩⟩
        · rw [vn_len]
          refine small5 (Nat.le_trans (List.length_filter_le _ _) ?_)
          rw [List.length_take]
          omega
        · rw [upd_same, vn_snoc, filt_yes hfl (by rw [fg]; exact decide_eq_true h1), fg]
      · rw [decide_eq_false (fun z : V.int ((Nat.gcd (1 + i) n : Nat) : Int) = V.int 1 => h1 (by have := V.int.inj z; omega))]
        refine ⟨_, rfl, iteF ⟨G, ?_⟩⟩
        rw [filt_no hfl (by rw [fg]; exact decide_eq_false h1)]
        exact hE
    rintro H14 ⟨g14, hE⟩
    rw [List.take_of_length_le (by rw [from1_len]; exact Nat.le_refl _)] at hE
    exact q E _ g14 hE

end
end Wn
namespace Wn
open PySem PySem.Spec PyProof.Rows L2
local macro_rules | `(tactic| walk_at "vc") => `(tactic| simp only [cxK, cxK2, start1, start2, start3, tRet, tRetN, tSeq, tNext, tIfS, tAsg, gName, tDrop, tVar, tC, tOp, tUn, tTest, tB, tNot, tAnd, tOr, tAndV, tOrV, tNotV, tIf, tCons, tNil, tCB, tCall, tChain, tAug, ipI, rI, rI0, rU, rIs, rGcd, rEq, rNe, scal,
  List.getElem?_cons_zero, List.getElem?_cons_succ, List.set_cons_zero, List.set_cons_succ, Option.some.injEq, List.cons.injEq, V.int.injEq, V.bl.injEq, V.ref.injEq, V.str.injEq, and_true, true_and, exists_eq_left, exists_eq_left', exists_and_left, exists_and_right, List.append_nil, List.nil_append, List.cons_append, exists_eq_right, exists_eq_right', and_assoc, exists_const, V.ty.injEq, ↓reduceIte, Bool.false_eq_true, Bool.not_true, Bool.not_false, decide_eq_true_eq])

section
variable {P : Program} {w : World} {K : PySem.W.Frag} {mg : Str → Option Value} {base : Heap}

def dgi (b n x lo c : Nat) : List Int := (List.range c).map fun i => ((rem b n x (lo + i) * b / n : Nat) : Int)
theorem dgf_eq (b n x lo c : Nat) : dgf b n x lo c = (dgi b n x lo c).map V.int := by
  unfold dgf dgi
  rw [List.map_map]
  rfl
def xd (b n x h L : Nat) : PyData := .tuple [.tuple ((dgi b n x 0 h).map PyData.int), .tuple ((dgi b n x h L).map PyData.int)]
theorem Exp.dp {H : Hp} {t : Addr} {b x n h L : Nat} (E : Exp H t b x n h L) : Dp K H (.ref t) (xd b n x h L) := by
  obtain ⟨a, c, h1, h2, h3⟩ := E.at_
  rw [dgf_eq] at h2 h3
  exact dp_tup h1 (.cons (dp_tup h2 (dpAll_ints _)) (.cons (dp_tup h3 (dpAll_ints _)) .nil))
theorem Exp.kp {H H' : Hp} {t : Addr} {b x n h L : Nat} (k : Kp H H') (E : Exp H t b x n h L) : Exp H' t b x n h L := by
  obtain ⟨a, c, h1, h2, h3⟩ := E.at_
  exact ⟨a, c, k.2.1 _ _ h1, k.2.1 _ _ h2, k.2.1 _ _ h3⟩
theorem dgi_lt {b n x lo c : Nat} {z : Int} (hn : 1 ≤ n) (h : z ∈ dgi b n x lo c) : ∃ k : Nat, z = (k : Int) ∧ k < b ∨ z = 0 := by
  obtain ⟨i, _, rfl⟩ := List.mem_map.mp h
  have hl := rem_lt (b := b) (n := n) (x := x) (i := lo + i) hn
  rcases Nat.eq_zero_or_pos b with z0 | z0
  · exact ⟨0, .inr (by rw [z0, Nat.mul_zero, Nat.zero_div]; rfl)⟩
  · refine ⟨_, .inl ⟨rfl, ?_⟩⟩
    rw [Nat.div_lt_iff_lt_mul hn, Nat.mul_comm b]
    exact Nat.mul_lt_mul_of_pos_right hl z0
theorem sm_dgi {b n x lo c : Nat} (hn : 1 ≤ n) (hb : b ≤ 1000) (hc : c ≤ 5000) : Sm (.tuple ((dgi b n x lo c).map PyData.int)) 13 1 55000 := by
  refine Sm.tup (W := 10) 5000 (fun d hd => ?_) (by unfold dgi; rw [List.length_map, List.length_map, List.length_range]; exact hc)
  obtain ⟨z, hz, rfl⟩ := List.mem_map.mp hd
  refine Sm.int (by decide) ?_ (by decide)
  obtain ⟨k, ⟨rfl, h⟩ | rfl⟩ := dgi_lt hn hz
  · rw [Int.natAbs_natCast]
    exact Nat.lt_of_lt_of_le h (Nat.le_trans hb (by decide))
  · decide
theorem sm_xd {b n x h L : Nat} (hn : 1 ≤ n) (hb : b ≤ 1000) (h1 : h ≤ 5000) (h2 : L ≤ 5000) : Sm (xd b n x h L) 13 2 110002 := by
  refine Sm.tup (W := 55000) 2 (fun d hd => ?_) (Nat.le_refl _)
  simp only [List.mem_cons, List.not_mem_nil, or_false] at hd
  rcases hd with rfl | rfl
  · exact sm_dgi hn hb h1
  · exact sm_dgi hn hb h2
theorem sm_part {x n : Nat} (hx : x < n) (hn : n ≤ 5000) : Sm (.tuple [.int (x : Int), .int (n : Int)]) 13 1 28 := by
  refine Sm.tup (W := 13) 2 (fun d hd => ?_) (Nat.le_refl _)
  simp only [List.mem_cons, List.not_mem_nil, or_false] at hd
  rcases hd with rfl | rfl
  · exact Sm.int (by decide) (by rw [Int.natAbs_natCast]; exact Nat.lt_of_lt_of_le hx (Nat.le_trans hn (by decide))) (by decide)
  · exact Sm.int (by decide) (by rw [Int.natAbs_natCast]; exact Nat.lt_of_le_of_lt hn (by decide)) (by decide)
theorem dgi_len (b n x lo c : Nat) : (dgi b n x lo c).length = c := by simp [dgi]
theorem ne_self (z : Str) : (!decide (V.str z = V.str z)) = false := by rw [decide_eq_true rfl]; rfl

def di (xs : List Nat) : PyData := .tuple ((ni xs).map PyData.int)
theorem sm_ni {xs : List Nat} {m : Nat} (h : ∀ k ∈ xs, k < 8192) (hm : xs.length ≤ m) : Sm (di xs) 13 1 (m * 14) := by
  refine Sm.tup (W := 13) m (fun d hd => ?_) (by unfold ni; rw [List.length_map, List.length_map]; exact hm)
  obtain ⟨z, hz, rfl⟩ := List.mem_map.mp hd
  obtain ⟨k, hk, rfl⟩ := List.mem_map.mp hz
  exact Sm.int (by decide) (by rw [Int.natAbs_natCast]; exact h k hk) (by decide)
theorem sml_ni {xs : List Nat} {m : Nat} (h : ∀ k ∈ xs, k < 8192) (hm : xs.length ≤ m) : Sm (.list ((ni xs).map PyData.int)) 13 1 (m * 14) := by
  refine Sm.lst (W := 13) m (fun d hd => ?_) (by unfold ni; rw [List.length_map, List.length_map]; exact hm)
  obtain ⟨z, hz, rfl⟩ := List.mem_map.mp hd
  obtain ⟨k, hk, rfl⟩ := List.mem_map.mp hz
  exact Sm.int (by decide) (by rw [Int.natAbs_natCast]; exact h k hk) (by decide)
theorem dp_vnT {K : PySem.W.Frag} {H : Hp} {t : Addr} {xs : List Nat} (h : H t = some (.tup (vn xs))) : Dp K H (.ref t) (di xs) := by
  rw [vn_ni] at h
  exact dp_tup h (dpAll_ints _)
theorem dp_vnL {K : PySem.W.Frag} {H : Hp} {t : Addr} {xs : List Nat} (h : H t = some (.lst (vn xs))) : Dp K H (.ref t) (.list ((ni xs).map PyData.int)) := by
  rw [vn_ni] at h
  exact dp_lst h (dpAll_ints _)

def sp_is_balanced : Sp := fun vs H Q _ => ∃ b n L k c : Nat, vs = [.int b, .int n, .int c] ∧ BN b n ∧ Nat.gcd b n = 1 ∧ 2 ≤ n ∧ CT b n L k c ∧ ∀ H', Gr [] H H' → Q (.bl (bal b n k c)) H'
theorem ok_is_balanced (T : Txt K mg) : FnOk P w K mg base CX0 7 T.d_is_balanced.f T.d_is_balanced.fd ["base", "denominator", "cut"] sp_is_balanced := by
  refine T.d_is_balanced.F.ok sc_is_balanced (fun vs H Q E h => ?_) (fun cdv A outer s H vs Q E hr h => ?_)
  · obtain ⟨b, n, L, k, c, rfl, _⟩ := h; rfl
  · have hu := hu_of hr
    refine ⟨_, (pss_cons (ps_expr (pe_call (ok_need_pure T) (hr.mono (by decide)) (by rfl) T.d_need_pure.m T.d_need_pure.F.kp T.d_need_pure.b .nil pass0 (pa_cons (pv 0) (pa_cons (pv 1) pa_nil))))
      (pss_one (ps_ret (pe_call (ok_is_balanced_with T) (hr.mono (by decide)) (by rfl) T.d_is_balanced_with.m T.d_is_balanced_with.F.kp T.d_is_balanced_with.b .nil pass0 (pa_cons (pv 0) (pa_cons (pv 1) (pa_cons (pe_call (ok_piece_size T) (hr.mono (by decide)) (by rfl) T.d_piece_size.m T.d_piece_size.F.kp T.d_piece_size.b .nil pass0 (pa_cons (pv 0) (pa_cons (pv 1) (pa_cons (pv 2) pa_nil)))) (pa_cons (pv 2) pa_nil)))))))), ?_⟩
    obtain ⟨b, n, L, k, c, rfl, hbn, hg, hn, hC, q⟩ := h
    obtain ⟨hb1, hb2, hn1, hn2⟩ := id hbn
    obtain ⟨hP, hc2, hk1, hL⟩ := id hC
    obtain ⟨cd, ce⟩ := hC.d
    have hLn := per_le hn1 hg hP
    have hcL : c ≤ L := Nat.le_of_dvd hP.1 cd
    refine ⟨_, rfl, _, rfl, b, n, rfl, hbn, hg, ?_⟩
    refine ⟨_, rfl, _, rfl, _, rfl, _, rfl, _, rfl, b, n, L, c, rfl, hbn, hg, hP, ⟨hc2, cd⟩, ?_⟩
    refine ⟨_, rfl, b, n, k, c, by rw [ce]; rfl, ⟨hn, hn2, by omega⟩, fun H1 g1 => ?_⟩
    exact q H1 g1

def PrsOk (H : Hp) (rs : List V) (acc : List (Nat × Nat)) : Prop := rs.length = acc.length ∧ ∀ (i : Nat) (r : Nat × Nat), acc[i]? = some r → ∃ a : Addr, rs[i]? = some (.ref a) ∧ H a = some (.tup [.int (r.1 : Nat), .int (r.2 : Nat)])
theorem PrsOk.gr {H H' : Hp} {rs : List V} {acc : List (Nat × Nat)} {l : Addr} {ys : List V} (h : PrsOk H rs acc) (e : H l = some (.lst ys)) (g : Gr [l] H H') : PrsOk H' rs acc :=
  ⟨h.1, fun i r hi => by
    obtain ⟨a, h1, h2⟩ := h.2 i r hi
    exact ⟨a, h1, g a _ (by rw [List.mem_singleton]; exact ne_of h2 e (by intro q; cases q)) h2⟩⟩
theorem PrsOk.gr0 {H H' : Hp} {rs : List V} {acc : List (Nat × Nat)} (h : PrsOk H rs acc) (g : Gr [] H H') : PrsOk H' rs acc :=
  ⟨h.1, fun i r hi => by
    obtain ⟨a, h1, h2⟩ := h.2 i r hi
    exact ⟨a, h1, g a _ (by simp) h2⟩⟩
theorem PrsOk.snoc {H : Hp} {rs : List V} {acc : List (Nat × Nat)} {u : Addr} {r : Nat × Nat} (h : PrsOk H rs acc) (hu : H u = some (.tup [.int (r.1 : Nat), .int (r.2 : Nat)])) : PrsOk H (rs ++ [.ref u]) (acc ++ [r]) := by
  refine ⟨by rw [List.length_append, List.length_append, h.1]; rfl, fun i s hi => ?_⟩
  rcases Nat.lt_or_ge i acc.length with z | z
  · rw [List.getElem?_append_left z] at hi
    obtain ⟨a, h1, h2⟩ := h.2 i s hi
    exact ⟨a, by rw [List.getElem?_append_left (by rw [h.1]; exact z)]; exact h1, h2⟩
  · rw [List.getElem?_append_right z] at hi
    have hz : i - acc.length = 0 := by
      have := (List.getElem?_eq_some_iff.mp hi).1
      simp at this
      omega
    rw [hz] at hi
    have e : r = s := Option.some.inj hi
    subst e
    refine ⟨u, ?_, hu⟩
    rw [List.getElem?_append_right (by rw [h.1]; exact z), h.1, hz]
    rfl
def sp_law_primes (K : PySem.W.Frag) : Sp := fun vs H Q _ => ∃ n : Nat, vs = [.int n] ∧ (2 ≤ n ∧ n ≤ 5000) ∧ ∀ l rs H', Gr [] H H' → H' l = some (.lst rs) → PrsOk H' rs (primesL n) → Q (.ref l) H'
theorem ok_law_primes (T : Txt K mg) : FnOk P w K mg base CX0 1 T.d_law_primes.f T.d_law_primes.fd ["n"] (sp_law_primes K) := by
  refine T.d_law_primes.F.ok sc_law_primes (fun vs H Q E h => ?_) (fun cdv A outer s H vs Q E hr h => ?_)
  · obtain ⟨n, rfl, _⟩ := h; rfl
  · have hu := hu_of hr
    refine ⟨_, (pss_cons (ps_par3 (i := 1) (j := 2) (l := 3) (by rfl) sc_law_primes.nd rfl rfl rfl (by decide) (by decide) (by decide) rfl rfl rfl (pa_cons (pe_lst pa_nil) (pa_cons (pv 0) (pa_cons pe_int pa_nil))) (by rfl))
      (pss_cons (ps_while PassesOwn.never (pt_cmpR op_gt (pv 2) pe_int (nomark _)) (pss_cons (ps_set (i := 4) sc_law_primes.nd rfl (by first | exact .inl rfl | exact .inr rfl) pe_int)
      (pss_cons (ps_while PassesOwn.never (pt_cmpR op_eq (pe_op op_mod (pe_callTy call_int1 (by rfl) T.b_int (by decide +kernel) (pa_cons (pv 2) pa_nil)) (pv 3)) pe_int (nomark _)) (pss_one (ps_par (i := 2) (j := 4) (by rfl) sc_law_primes.nd rfl rfl (by decide) rfl rfl (pa_cons (pe_op op_fdiv (pv 2) (pv 3)) (pa_cons (pe_op op_mul (pv 4) (pv 3)) pa_nil)) (by rfl))))
      (pss_cons (ps_if (pt_cmpR op_gt (pv 4) pe_int (nomark _)) (pss_one (ps_expr (pe_bm PySem.F.plainAttrs_list PySem.F.slot_list_append PySem.F.type_list_append mt_append (pv 1) (pa_cons (pe_tup (pa_cons (pv 3) (pa_cons (pv 4) pa_nil))) pa_nil)))) pss_nil)
      (pss_one (ps_set (i := 3) sc_law_primes.nd rfl (by first | exact .inl rfl | exact .inr rfl) (pe_op op_add (pv 3) pe_int)))))))
      (pss_one (ps_ret (pv 1))))), ?_⟩
    obtain ⟨n, rfl, ⟨hn1, hn2⟩, q⟩ := h
    refine ⟨Nat.zero_le _, fun l nl => ?_⟩
    refine ⟨_, rfl, _, _, _, rfl, ?_⟩
    refine ⟨fun m σ H' => Gr [] H H' ∧ ∃ (left k : Nat) (acc : List (Nat × Nat)) (rs : List V) (v : Option V), (1 ≤ left ∧ 2 ≤ k ∧ left ≤ n ∧ acc.length + 2 ≤ k ∧ (∀ d, 2 ≤ d → d < k → ¬ d ∣ left)) ∧ m + k = n + 2 ∧ acc ++ prs m left k = primesL n ∧ H' l = some (.lst rs) ∧ PrsOk H' rs acc ∧ σ = [some (.int n), some (.ref l), some (.int left), some (.int k), v], ⟨n, Gr.new nl, n, 2, [], [], none, ⟨by omega, Nat.le_refl _, Nat.le_refl _, Nat.le_refl _, fun d h1 h2 => by omega⟩, rfl, rfl, upd_same, ⟨rfl, fun i r hi => by cases hi⟩, rfl⟩, ?_⟩
    rintro m σ H' ⟨G, left, k, acc, rs, v, ⟨hl1, hk, hln, hak, hno⟩, hm, hacc, hL, hD, rfl⟩
    refine ⟨_, rfl, _, _, rfl, rfl, _, rfl, ?_⟩
    by_cases hc : left ≤ 1
    · rw [decide_eq_false (show ¬ (1 : Int) < (left : Int) by omega)]
      rw [prs_done _ _ _ hc, List.append_nil] at hacc
      refine iteF ⟨_, rfl, q l rs H' G hL ?_⟩
      rw [← hacc]
      exact hD
    rw [decide_eq_true (show (1 : Int) < (left : Int) by omega)]
    have hkl : k ≤ left := by
      apply Nat.le_of_not_lt
      intro z
      exact hno left (by omega) z (Nat.dvd_refl _)
    obtain ⟨m', rfl⟩ : ∃ m', m = m' + 1 := ⟨m - 1, by omega⟩
    rw [prs_step hc] at hacc
    obtain ⟨f1, f2, f3, f4, f5⟩ := strip_facts hk left left 1 (Nat.le_refl _) hl1 (Nat.le_refl _)
    generalize hst : strip k left left 1 = st at hacc f1 f2 f3 f4 f5
    refine iteT ⟨fun σ' H2 => Gr [] H H2 ∧ ∃ (left2 : Nat) (acc2 : List (Nat × Nat)) (rs2 : List V) (v2 : Option V), (1 ≤ left2 ∧ left2 ≤ n ∧ acc2.length + 2 ≤ k + 1 ∧ (∀ d, 2 ≤ d → d < k + 1 → ¬ d ∣ left2)) ∧ acc2 ++ prs m' left2 (k + 1) = primesL n ∧ H2 l = some (.lst rs2) ∧ PrsOk H2 rs2 acc2 ∧ σ' = [some (.int n), some (.ref l), some (.int left2), some (.int (k + 1 : Nat)), v2], ?_, ?_⟩
    · rintro σ' H2 ⟨G2, left2, acc2, rs2, v2, ⟨a1, a2, a3, a4⟩, b1, b2, b3, rfl⟩
      exact ⟨m', by omega, G2, left2, k + 1, acc2, rs2, v2, ⟨a1, by omega, a2, a3, a4⟩, by omega, b1, b2, b3, rfl⟩
    refine ⟨fun f σ' H2 => Gr [] H' H2 ∧ ∃ (y part : Nat), (1 ≤ y ∧ y ≤ f ∧ 1 ≤ part) ∧ strip k f y part = st ∧ σ' = [some (.int n), some (.ref l), some (.int y), some (.int k), some (.int part)], ⟨left, Gr.refl _ _, left, 1, ⟨hl1, Nat.le_refl _, Nat.le_refl _⟩, hst, rfl⟩, ?_⟩
    rintro f σ' H2 ⟨G2, y, part, ⟨hy1, hyf, hp1⟩, hs, rfl⟩
    obtain ⟨f', rfl⟩ : ∃ f', f = f' + 1 := ⟨f - 1, by omega⟩
    refine ⟨_, rfl, .inl ⟨_, rfl, _, rfl, _, _, rfl, rfl, (show (0 : Int) < (k : Int) by omega), rfl, _, rfl, ?_⟩⟩
    have e0 : (y : Int) % (k : Int) = ((y % k : Nat) : Int) := by rw [← Int.natCast_emod]
    by_cases hz : y % k = 0
    · rw [decide_eq_true (show V.int ((y : Int) % (k : Int)) = V.int 0 by rw [e0, hz]; rfl)]
      rw [strip_step hz] at hs
      have hdy : 1 ≤ y / k := Nat.div_pos (Nat.le_of_dvd (by omega) (Nat.dvd_of_mod_eq_zero hz)) (by omega)
      have hyk : y / k < y := Nat.div_lt_self (by omega) (by omega)
      have hpk : 1 * 1 ≤ part * k := Nat.mul_le_mul hp1 (by omega)
      refine iteT ⟨fun σ' H3 => Gr [] H' H3 ∧ σ' = [some (.int n), some (.ref l), some (.int (y / k : Nat)), some (.int k), some (.int (part * k : Nat))], ?_, ?_⟩
      · rintro σ' H3 ⟨G3, rfl⟩
        exact ⟨f', by omega, G3, y / k, part * k, ⟨hdy, by omega, by omega⟩, hs, rfl⟩
      · refine ⟨_, rfl, _, rfl, _, _, rfl, rfl, ⟨by omega, by omega⟩, _, rfl, _, rfl, _, _, rfl, rfl, .inr ⟨by omega, by omega⟩, _, _, rfl, G2, ?_⟩
        dsimp only
        rw [← Int.natCast_ediv, ← Int.natCast_mul]
        rfl
    rw [decide_eq_false (fun w : V.int ((y : Int) % (k : Int)) = V.int 0 => hz (by rw [e0] at w; have := V.int.inj w; omega))]
    rw [strip_no hz] at hs
    refine iteF ?_
    subst hs
    have hno2 : ∀ d, 2 ≤ d → d < k + 1 → ¬ d ∣ y := fun d h1 h2 h3 => by
      rcases Nat.lt_or_eq_of_le (show d ≤ k by omega) with w | w
      · exact hno d h1 w (Nat.dvd_trans h3 f1)
      · subst w
        exact hz (Nat.mod_eq_zero_of_dvd h3)
    have hyl : y ≤ left := Nat.le_of_dvd (by omega) f1
    have GG := G.trans G2
    have hL2 := G2 l _ (by simp) hL
    have hD2 := hD.gr0 G2
    refine ⟨_, rfl, _, _, rfl, rfl, _, rfl, ?_⟩
    by_cases hp : part ≤ 1
    · rw [decide_eq_false (show ¬ (1 : Int) < (part : Int) by omega)]
      rw [if_pos hp, List.nil_append] at hacc
      refine iteF ⟨_, rfl, _, _, rfl, rfl, GG, y, acc, rs, some (.int part), ⟨hy1, by omega, by omega, hno2⟩, hacc, hL2, hD2, rfl⟩
    rw [decide_eq_true (show (1 : Int) < (part : Int) by omega)]
    rw [if_neg hp] at hacc
    refine iteT ⟨_, rfl, .inl ⟨rfl, _, sq_lst hL2⟩, _, rfl, _, rfl, by show 2 ≤ sizeLine; decide, fun u nu => ?_⟩
    have hL3 := (Gr.new (W := []) (o := .tup [.int k, .int part]) nu) l _ (by simp) hL2
    have hu3 : (upd H2 u (.tup [.int k, .int part])) u = some (.tup [.int k, .int part]) := upd_same
    have hD3 := hD2.gr0 (Gr.new (W := []) (o := .tup [.int k, .int part]) nu)
    have gU := (Gr.new (W := []) (o := .tup [.int k, .int part]) nu)
    generalize upd H2 u (.tup [.int k, .int part]) = H3 at hL3 hu3 hD3 gU ⊢
    have hrl : rs.length = acc.length := hD3.1
    refine ⟨l, _, _, rfl, rfl, hL3, by rw [hrl]; exact small5 (by omega), ?_⟩
    have gW : Gr [l] H3 (upd H3 l (.lst (rs ++ [.ref u]))) := Gr.wr (by simp)
    refine ⟨_, rfl, _, _, rfl, rfl, fun c o _ e => ?_, y, acc ++ [(k, part)], rs ++ [.ref u], some (.int part), ⟨hy1, by omega, by rw [List.length_append]; show acc.length + 1 + 2 ≤ k + 1; omega, hno2⟩, by rw [List.append_assoc]; exact hacc, upd_same, PrsOk.snoc (hD3.gr hL3 gW) (gW u _ (by rw [List.mem_singleton]; exact ne_of hu3 hL3 (by intro q; cases q)) hu3), rfl⟩
    rw [upd_ne (ne_of_none e nl)]
    exact gU c o (by simp) (GG c o (by simp) e)

def sp_law_by_primes : Sp := fun vs H Q _ => ∃ n c far : Nat, vs = [.int n, .int c, .int far] ∧ (2 ≤ n ∧ n ≤ 5000 ∧ c ≤ 5000 ∧ 1 ≤ far) ∧ ∀ H', Gr [] H H' → Q (.bl (byP n c far)) H'
theorem all_false {α : Type} {f : α → Bool} {xs : List α} {i : Nat} {x : α} (h : xs[i]? = some x) (e : f x = false) : xs.all f = false := by
  rw [Bool.eq_false_iff]
  intro z
  rw [List.all_eq_true] at z
  have := z x (List.mem_of_getElem? h)
  rw [e] at this
  cases this
theorem prs_k (n : Nat) : ∀ f left k, 2 ≤ k → ∀ r ∈ prs f left k, 2 ≤ r.1 ∧ 1 ≤ r.2
  | 0, _, _, _, r, hr => by cases hr
  | f + 1, left, k, hk, r, hr => by
    by_cases h : left ≤ 1
    · rw [prs_done _ _ _ h] at hr
      cases hr
    · rw [prs_step h] at hr
      rcases List.mem_append.mp hr with z | z
      · split at z
        · cases z
        · rw [List.mem_singleton] at z
          subst z
          exact ⟨hk, by omega⟩
      · exact prs_k n f _ (k + 1) (by omega) r z
theorem ok_law_by_primes (T : Txt K mg) : FnOk P w K mg base CX0 2 T.d_law_by_primes.f T.d_law_by_primes.fd ["n", "cut", "far"] sp_law_by_primes := by
  refine T.d_law_by_primes.F.ok sc_law_by_primes (fun vs H Q E h => ?_) (fun cdv A outer s H vs Q E hr h => ?_)
  · obtain ⟨n, c, far, rfl, _⟩ := h; rfl
  · have hu := hu_of hr
    refine ⟨_, (pss_cons (ps_for PassesOwn.never rfl (pi_list (pe_call (ok_law_primes T) (hr.mono (by decide)) (by rfl) T.d_law_primes.m T.d_law_primes.F.kp T.d_law_primes.b .nil pass0 (pa_cons (pv 0) pa_nil))) (pg_tup (by rfl) (pgs_cons (pg_name (i := 3) sc_law_by_primes.nd rfl (by first | exact .inl rfl | exact .inr rfl)) (pgs_cons (pg_name (i := 4) sc_law_by_primes.nd rfl (by first | exact .inl rfl | exact .inr rfl)) pgs_nil))) (pss_one (ps_if (pt_cmpR op_eq (pe_op op_mod (pe_callTy call_int1 (by rfl) T.b_int (by decide +kernel) (pa_cons (pe_op op_sub (pv 2) pe_int) pa_nil)) (pv 3)) pe_int (nomark _)) (pss_cons (ps_set (i := 5) sc_law_by_primes.nd rfl (by first | exact .inl rfl | exact .inr rfl) (pv 1))
      (pss_cons (ps_if (PW.pt (pw_and (pt_cmpR op_eq (pv 3) pe_int (nomark _)) (pw_and1 (pt_cmpR op_eq (pe_op op_mod (pe_callTy call_int1 (by rfl) T.b_int (by decide +kernel) (pa_cons (pv 2) pa_nil)) pe_int) pe_int (nomark _))))) (pss_one (ps_set (i := 5) sc_law_by_primes.nd rfl (by first | exact .inl rfl | exact .inr rfl) (pe_ifExp (pt_cmpR op_eq (pe_op op_mod (pe_callTy call_int1 (by rfl) T.b_int (by decide +kernel) (pa_cons (pv 1) pa_nil)) pe_int) pe_int (nomark _)) (pe_op op_fdivW (pe_op op_mul (pe_op op_add (pv 2) pe_int) (pv 1)) pe_int) pe_int))) pss_nil)
      (pss_one (ps_if (pt_cmpR op_ne (pe_op op_mod (pe_callTy call_int1 (by rfl) T.b_int (by decide +kernel) (pa_cons (pv 5) pa_nil)) (pv 4)) pe_int (nomark _)) (pss_one (ps_ret pe_bl)) pss_nil)))) pss_nil)))
      (pss_one (ps_ret pe_bl))), ?_⟩
    obtain ⟨n, c, far, rfl, ⟨hn1, hn2, hc, hf⟩, q⟩ := h
    refine ⟨_, rfl, n, rfl, ⟨hn1, hn2⟩, fun l rs H1 g1 hl hP => ?_⟩
    refine ⟨l, rfl, ⟨_, sq_lst hl⟩, ?_⟩
    refine for_list (K := K) (a := l) (xs := rs) (fun i σ H' => H' = H1 ∧ (∀ j, j < i → ∀ r, (primesL n)[j]? = some r → (!decide ((far - 1) % r.1 = 0) || decide (goalN r.1 c far % r.2 = 0)) = true) ∧ ∃ v w z, σ = [some (.int n), some (.int c), some (.int far), v, w, z]) ⟨rfl, fun j hj => by omega, none, none, none, ?_⟩ (fun i σ H' _ z => by rw [z.1]; exact sq_lst hl) ?_ ?_
    · rfl
    · rintro i y σ H' hy ⟨rfl, hall, v, w, z, rfl⟩
      have hi : i < rs.length := (List.getElem?_eq_some_iff.mp hy).1
      obtain ⟨r, hr⟩ : ∃ r, (primesL n)[i]? = some r := ⟨(primesL n)[i]'(by rw [← hP.1]; exact hi), List.getElem?_eq_getElem _⟩
      obtain ⟨a, e1, e2⟩ := hP.2 i r hr
      rw [hy] at e1
      have ey := Option.some.inj e1
      subst ey
      obtain ⟨k1, k2⟩ := prs_k n n n 2 (Nat.le_refl _) r (List.mem_of_getElem? hr)
      refine ⟨a, _, rfl, sq_tup e2, rfl, _, _, rfl, _, _, rfl, rfl, ?_⟩
      have ef : (far : Int) - 1 = ((far - 1 : Nat) : Int) := by omega
      refine ⟨_, rfl, _, _, rfl, rfl, .inl ⟨_, rfl, _, rfl, _, _, rfl, rfl, (show (0 : Int) < (r.1 : Int) by omega), rfl, _, rfl, ?_⟩⟩
      have e0 : (far : Int) - 1 = ((far - 1 : Nat) : Int) := by omega
      have fin : ∀ (w' z' : Option V), (!decide ((far - 1) % r.1 = 0) || decide (goalN r.1 c far % r.2 = 0)) = true → (H' = H' ∧ (∀ j, j < i + 1 → ∀ r, (primesL n)[j]? = some r → (!decide ((far - 1) % r.1 = 0) || decide (goalN r.1 c far % r.2 = 0)) = true) ∧ ∃ v w z, [some (V.int n), some (.int c), some (.int far), some (.int (r.1 : Nat)), some (.int (r.2 : Nat)), w'] = [some (V.int n), some (.int c), some (.int far), v, w, z]) := fun w' z' ok => ⟨rfl, fun j hj r' hr' => by
        rcases Nat.lt_or_eq_of_le (show j ≤ i by omega) with y | y
        · exact hall j y r' hr'
        · subst y
          rw [hr] at hr'
          have := Option.some.inj hr'
          subst this
          exact ok, _, _, _, rfl⟩
      by_cases h1 : (far - 1) % r.1 = 0
      · rw [decide_eq_true (show V.int (((far : Int) - 1) % (r.1 : Int)) = V.int 0 by rw [e0, ← Int.natCast_emod, h1]; rfl)]
        refine iteT ⟨_, rfl, ?_⟩
        refine ⟨_, rfl, rfl, _, rfl, ?_⟩
        by_cases h2 : r.1 = 2
        · rw [decide_eq_true (show V.int (r.1 : Int) = V.int 2 by rw [h2]; rfl)]
          refine iteT ⟨_, rfl, .inl ⟨_, rfl, _, _, rfl, rfl, (show (0 : Int) < 4 by decide), rfl, _, rfl, ?_⟩⟩
          have e3 : (far : Int) % 4 = ((far % 4 : Nat) : Int) := by omega
          by_cases h3 : far % 4 = 3
          · rw [decide_eq_true (show V.int ((far : Int) % 4) = V.int 3 by rw [e3, h3]; rfl)]
            refine iteT ⟨_, rfl, .inl ⟨_, rfl, _, _, rfl, rfl, (show (0 : Int) < 2 by decide), rfl, _, rfl, ?_⟩⟩
            have e4 : (c : Int) % 2 = ((c % 2 : Nat) : Int) := by omega
            by_cases h4 : c % 2 = 0
            · rw [decide_eq_true (show V.int ((c : Int) % 2) = V.int 0 by rw [e4, h4]; rfl)]
              refine iteT ⟨_, rfl, _, _, rfl, rfl, _, rfl, _, _, rfl, rfl, .inr ⟨by omega, by omega⟩, _, _, rfl, rfl, ⟨by decide, by decide⟩, ?_⟩
              dsimp only
              rw [show ((far : Int) + 1) * (c : Int) / 2 = (((far + 1) * c / 2 : Nat) : Int) by rw [Int.natCast_ediv, Int.natCast_mul]; rfl]
              obtain ⟨gl, egl⟩ : ∃ gl : Nat, gl = (far + 1) * c / 2 := ⟨_, rfl⟩
              have eg : goalN r.1 c far = gl := by unfold goalN; rw [if_pos ⟨h2, h3⟩, if_pos h4, egl]
              rw [← egl]
              refine ⟨_, rfl, .inl ⟨_, rfl, _, rfl, _, _, rfl, rfl, (show (0 : Int) < (r.2 : Int) by omega), rfl, _, rfl, ?_⟩⟩
              have e9 : (gl : Int) % (r.2 : Int) = ((gl % r.2 : Nat) : Int) := by rw [← Int.natCast_emod]
              by_cases h9 : gl % r.2 = 0
              · rw [show (!decide (V.int ((gl : Int) % (r.2 : Int)) = V.int 0)) = false by rw [e9, h9]; rfl]
                exact iteF (fin _ none (by rw [eg, h9]; simp))
              · rw [show (!decide (V.int ((gl : Int) % (r.2 : Int)) = V.int 0)) = true by rw [decide_eq_false (fun y => h9 (by rw [e9] at y; have := V.int.inj y; omega))]; rfl]
                have bad := q H' g1
                rw [show byP n c far = false from all_false hr (by rw [eg, decide_eq_true h1, decide_eq_false h9]; rfl)] at bad
                exact iteT bad
            · rw [decide_eq_false (show ¬ V.int ((c : Int) % 2) = V.int 0 from fun y => h4 (by rw [e4] at y; have := V.int.inj y; omega))]
              refine iteF ?_
              obtain ⟨gl, egl⟩ : ∃ gl : Nat, gl = 1 := ⟨_, rfl⟩
              have eg : goalN r.1 c far = gl := by unfold goalN; rw [if_pos ⟨h2, h3⟩, if_neg h4, egl]
              rw [show (1 : Int) = ((gl : Nat) : Int) by rw [egl]; rfl]
              refine ⟨_, rfl, .inl ⟨_, rfl, _, rfl, _, _, rfl, rfl, (show (0 : Int) < (r.2 : Int) by omega), rfl, _, rfl, ?_⟩⟩
              have e9 : (gl : Int) % (r.2 : Int) = ((gl % r.2 : Nat) : Int) := by rw [← Int.natCast_emod]
              by_cases h9 : gl % r.2 = 0
              · rw [show (!decide (V.int ((gl : Int) % (r.2 : Int)) = V.int 0)) = false by rw [e9, h9]; rfl]
                exact iteF (fin _ none (by rw [eg, h9]; simp))
              · rw [show (!decide (V.int ((gl : Int) % (r.2 : Int)) = V.int 0)) = true by rw [decide_eq_false (fun y => h9 (by rw [e9] at y; have := V.int.inj y; omega))]; rfl]
                have bad := q H' g1
                rw [show byP n c far = false from all_false hr (by rw [eg, decide_eq_true h1, decide_eq_false h9]; rfl)] at bad
                exact iteT bad
          · rw [decide_eq_false (show ¬ V.int ((far : Int) % 4) = V.int 3 from fun y => h3 (by rw [e3] at y; have := V.int.inj y; omega))]
            refine iteF ?_
            have eg : goalN r.1 c far = c := by unfold goalN; rw [if_neg (fun y => h3 y.2)]
            refine ⟨_, rfl, .inl ⟨_, rfl, _, rfl, _, _, rfl, rfl, (show (0 : Int) < (r.2 : Int) by omega), rfl, _, rfl, ?_⟩⟩
            have e9 : (c : Int) % (r.2 : Int) = ((c % r.2 : Nat) : Int) := by rw [← Int.natCast_emod]
            by_cases h9 : c % r.2 = 0
            · rw [show (!decide (V.int ((c : Int) % (r.2 : Int)) = V.int 0)) = false by rw [e9, h9]; rfl]
              exact iteF (fin _ none (by rw [eg, h9]; simp))
            · rw [show (!decide (V.int ((c : Int) % (r.2 : Int)) = V.int 0)) = true by rw [decide_eq_false (fun y => h9 (by rw [e9] at y; have := V.int.inj y; omega))]; rfl]
              have bad := q H' g1
              rw [show byP n c far = false from all_false hr (by rw [eg, decide_eq_true h1, decide_eq_false h9]; rfl)] at bad
              exact iteT bad
        · rw [decide_eq_false (show ¬ V.int (r.1 : Int) = V.int 2 from fun y => h2 (by have := V.int.inj y; omega))]
          refine iteF (iteF ?_)
          have eg : goalN r.1 c far = c := by unfold goalN; rw [if_neg (fun y => h2 y.1)]
          refine ⟨_, rfl, .inl ⟨_, rfl, _, rfl, _, _, rfl, rfl, (show (0 : Int) < (r.2 : Int) by omega), rfl, _, rfl, ?_⟩⟩
          have e9 : (c : Int) % (r.2 : Int) = ((c % r.2 : Nat) : Int) := by rw [← Int.natCast_emod]
          by_cases h9 : c % r.2 = 0
          · rw [show (!decide (V.int ((c : Int) % (r.2 : Int)) = V.int 0)) = false by rw [e9, h9]; rfl]
            exact iteF (fin _ none (by rw [eg, h9]; simp))
          · rw [show (!decide (V.int ((c : Int) % (r.2 : Int)) = V.int 0)) = true by rw [decide_eq_false (fun y => h9 (by rw [e9] at y; have := V.int.inj y; omega))]; rfl]
            have bad := q H' g1
            rw [show byP n c far = false from all_false hr (by rw [eg, decide_eq_true h1, decide_eq_false h9]; rfl)] at bad
            exact iteT bad
      · rw [decide_eq_false (show ¬ V.int (((far : Int) - 1) % (r.1 : Int)) = V.int 0 from fun y => h1 (by rw [e0, ← Int.natCast_emod] at y; have := V.int.inj y; omega))]
        exact iteF (fin _ none (by rw [decide_eq_false h1]; rfl))
    rintro σ H' ⟨rfl, hall, v, w, z, rfl⟩
    have e : byP n c far = true := by
      unfold byP
      rw [List.all_eq_true]
      intro r hr
      obtain ⟨j, hj, ej⟩ := List.mem_iff_getElem.mp hr
      exact hall j (by rw [hP.1]; exact hj) r (by rw [List.getElem?_eq_getElem hj, ej])
    have := q H' g1
    rw [e] at this
    exact this

end
end Wn
/-! the look at the primes, checked for small bases and denominators -/
namespace Wn
def ptab : List (Nat × List (Nat × Nat)) := [(2, [(2, 2)]), (3, [(3, 3)]), (4, [(2, 4)]), (5, [(5, 5)]), (6, [(2, 2), (3, 3)]), (7, [(7, 7)]), (8, [(2, 8)]), (9, [(3, 9)]), (10, [(2, 2), (5, 5)]), (11, [(11, 11)]), (12, [(2, 4), (3, 3)]), (13, [(13, 13)]), (14, [(2, 2), (7, 7)]), (15, [(3, 3), (5, 5)]), (16, [(2, 16)]), (17, [(17, 17)]), (18, [(2, 2), (3, 9)]), (19, [(19, 19)]), (20, [(2, 4), (5, 5)]), (21, [(3, 3), (7, 7)]), (22, [(2, 2), (11, 11)]), (23, [(23, 23)]), (24, [(2, 8), (3, 3)]), (25, [(5, 25)]), (26, [(2, 2), (13, 13)]), (27, [(3, 27)]), (28, [(2, 4), (7, 7)]), (29, [(29, 29)]), (30, [(2, 2), (3, 3), (5, 5)]), (31, [(31, 31)]), (32, [(2, 32)]), (33, [(3, 3), (11, 11)]), (34, [(2, 2), (17, 17)]), (35, [(5, 5), (7, 7)]), (36, [(2, 4), (3, 9)]), (37, [(37, 37)]), (38, [(2, 2), (19, 19)]), (39, [(3, 3), (13, 13)]), (40, [(2, 8), (5, 5)]), (41, [(41, 41)]), (42, [(2, 2), (3, 3), (7, 7)]), (43, [(43, 43)]), (44, [(2, 4), (11, 11)]), (45, [(3, 9), (5, 5)]), (46, [(2, 2), (23, 23)]), (47, [(47, 47)]), (48, [(2, 16), (3, 3)]), (49, [(7, 49)]), (50, [(2, 2), (5, 25)]), (51, [(3, 3), (17, 17)]), (52, [(2, 4), (13, 13)]), (53, [(53, 53)]), (54, [(2, 2), (3, 27)]), (55, [(5, 5), (11, 11)]), (56, [(2, 8), (7, 7)]), (57, [(3, 3), (19, 19)]), (58, [(2, 2), (29, 29)]), (59, [(59, 59)]), (60, [(2, 4), (3, 3), (5, 5)]), (61, [(61, 61)]), (62, [(2, 2), (31, 31)]), (63, [(3, 9), (7, 7)]), (64, [(2, 64)]), (65, [(5, 5), (13, 13)]), (66, [(2, 2), (3, 3), (11, 11)]), (67, [(67, 67)]), (68, [(2, 4), (17, 17)]), (69, [(3, 3), (23, 23)]), (70, [(2, 2), (5, 5), (7, 7)]), (71, [(71, 71)]), (72, [(2, 8), (3, 9)]), (73, [(73, 73)]), (74, [(2, 2), (37, 37)]), (75, [(3, 3), (5, 25)]), (76, [(2, 4), (19, 19)]), (77, [(7, 7), (11, 11)]), (78, [(2, 2), (3, 3), (13, 13)]), (79, [(79, 79)]), (80, [(2, 16), (5, 5)])]
theorem ptab_ok : ((List.range 79).all fun i => ptab.any fun p => p.1 == 2 + i) = true := by decide +kernel
theorem ptab_ok2 : (ptab.all fun p => decide (primesL p.1 = p.2)) = true := by decide +kernel
def byPs (ps : List (Nat × Nat)) (c far : Nat) : Bool := ps.all fun r => !decide ((far - 1) % r.1 = 0) || decide (goalN r.1 c far % r.2 = 0)
/-- the first power that is 1 again -/
def firstL (b n : Nat) : Nat → Nat → Nat → Nat
  | 0, _, _ => 0
  | f + 1, r, L => if r = 1 then L else firstL b n f (r * b % n) (L + 1)
def chkL (ps : List (Nat × Nat)) (b n L : Nat) : Bool := (List.range L).all fun i => !(L % (i + 1) == 0) || i == 0 || balQ b n (L / (i + 1)) (i + 1) == byPs ps (i + 1) (b ^ (L / (i + 1)))
def chk2 (B : Nat) : Bool := ptab.all fun p => (List.range B).all fun b => !(Nat.gcd (2 + b) p.1 == 1) || chkL p.2 (2 + b) p.1 (firstL (2 + b) p.1 90 ((2 + b) % p.1) 1)
theorem chk2_ok : chk2 40 = true := by decide +kernel
theorem firstL_eq {b n L0 : Nat} (hn : 2 ≤ n) (h : IsPer b n L0) : ∀ f j, 1 ≤ j → j ≤ L0 → L0 < j + f → firstL b n f (b ^ j % n) j = L0
  | 0, j, _, h2, h3 => by omega
  | f + 1, j, h1, h2, h3 => by
    have one : 1 % n = 1 := Nat.mod_eq_of_lt (by omega)
    show (if b ^ j % n = 1 then j else firstL b n f (b ^ j % n * b % n) (j + 1)) = L0
    by_cases e : b ^ j % n = 1
    · rw [if_pos e]
      rcases Nat.lt_or_eq_of_le h2 with z | z
      · exact absurd (e.trans one.symm) (h.2.2 j h1 z)
      · exact z
    · rw [if_neg e, pow_mod_step]
      have : j ≠ L0 := fun z => e (by rw [z, h.2.1, one])
      exact firstL_eq hn h f (j + 1) (by omega) (by omega) (by omega)
theorem byPs_bal {b n L k c : Nat} (hb : 2 ≤ b) (hb2 : b ≤ 41) (hn : 2 ≤ n) (hn2 : n ≤ 80) (hg : Nat.gcd b n = 1) (hL : L ≤ 80) (hP : IsPer b n L) (hc : 2 ≤ c) (hk : 1 ≤ k) (cd : c ∣ L) (ce : L / c = k) : byP n c (b ^ k) = bal b n k c := by
  have t1 := ptab_ok
  rw [List.all_eq_true] at t1
  have t2 := t1 (n - 2) (List.mem_range.mpr (by omega))
  rw [List.any_eq_true] at t2
  obtain ⟨⟨n', ps⟩, hm, e⟩ := t2
  rw [beq_iff_eq] at e
  have en : n' = n := by
    have e : n' = 2 + (n - 2) := e
    omega
  subst en
  have t3 := ptab_ok2
  rw [List.all_eq_true] at t3
  have e2 : primesL n' = ps := of_decide_eq_true (t3 _ hm)
  have h := chk2_ok
  unfold chk2 at h
  rw [List.all_eq_true] at h
  have h1 := h _ hm
  rw [List.all_eq_true] at h1
  have h2 := h1 (b - 2) (List.mem_range.mpr (by omega))
  have eb : 2 + (b - 2) = b := by omega
  have fl := firstL_eq hn hP 90 1 (Nat.le_refl _) hP.1 (by omega)
  rw [Nat.pow_one] at fl
  have h2 : (!(Nat.gcd (2 + (b - 2)) n' == 1) || chkL ps (2 + (b - 2)) n' (firstL (2 + (b - 2)) n' 90 ((2 + (b - 2)) % n') 1)) = true := h2
  rw [eb, fl, hg] at h2
  have h3 : chkL ps b n' L = true := h2
  unfold chkL at h3
  rw [List.all_eq_true] at h3
  have hcL := Nat.le_of_dvd hP.1 cd
  have h4 := h3 (c - 1) (List.mem_range.mpr (by omega))
  rw [show c - 1 + 1 = c by omega, ce, Nat.mod_eq_zero_of_dvd cd] at h4
  have hc0 : (c - 1 == 0) = false := by rw [beq_eq_false_iff_ne]; omega
  rw [hc0] at h4
  have h4 : (balQ b n' k c == byPs ps c (b ^ k)) = true := h4
  rw [bal_Q hb hk, eq_of_beq h4]
  unfold byP byPs
  rw [e2]
end Wn
namespace Wn
open PySem PySem.Spec PyProof.Rows L2
local macro_rules | `(tactic| walk_at "vc") => `(tactic| simp only [cxK, cxK2, start1, start2, start3, tRet, tRetN, tSeq, tNext, tIfS, tAsg, gName, tDrop, tVar, tC, tOp, tUn, tTest, tB, tNot, tAnd, tOr, tAndV, tOrV, tNotV, tIf, tCons, tNil, tCB, tCall, tChain, tAug, ipI, rI, rI0, rU, rIs, rGcd, rEq, rNe, scal,
  List.getElem?_cons_zero, List.getElem?_cons_succ, List.set_cons_zero, List.set_cons_succ, Option.some.injEq, List.cons.injEq, V.int.injEq, V.bl.injEq, V.ref.injEq, V.str.injEq, and_true, true_and, exists_eq_left, exists_eq_left', exists_and_left, exists_and_right, List.append_nil, List.nil_append, List.cons_append, exists_eq_right, exists_eq_right', and_assoc, exists_const, V.ty.injEq, ↓reduceIte, Bool.false_eq_true, Bool.not_true, Bool.not_false, decide_eq_true_eq])

section
variable {P : Program} {w : World} {K : PySem.W.Frag} {mg : Str → Option Value} {base : Heap}

theorem rem_pos {b n x i : Nat} (hn : 2 ≤ n) (gx : Nat.gcd x n = 1) (gb : Nat.gcd b n = 1) : 1 ≤ rem b n x i := by
  rcases Nat.eq_zero_or_pos (rem b n x i) with z | z
  · have h1 : n ∣ x * b ^ i := Nat.dvd_of_mod_eq_zero z
    have h2 : n ∣ b ^ i := Nat.Coprime.dvd_of_dvd_mul_left (show Nat.gcd n x = 1 by rw [Nat.gcd_comm]; exact gx) h1
    have h3 := Nat.gcd_eq_right h2
    rw [cop_pow gb i] at h3
    omega
  · exact z
theorem rem_opp {b n x i : Nat} (hn : 2 ≤ n) (hx : x ≤ n) (h1 : 1 ≤ rem b n x i) (h2 : 1 ≤ rem b n (n - x) i) : rem b n (n - x) i + rem b n x i = n := by
  have l1 := rem_lt (b := b) (n := n) (x := x) (i := i) (by omega)
  have l2 := rem_lt (b := b) (n := n) (x := n - x) (i := i) (by omega)
  have e : (rem b n (n - x) i + rem b n x i) % n = 0 := by
    unfold rem
    rw [← Nat.add_mod, ← Nat.add_mul, Nat.sub_add_cancel hx]
    exact Nat.mul_mod_right _ _
  obtain ⟨q, hq⟩ := Nat.dvd_of_mod_eq_zero e
  have q1 : q = 1 := by
    rcases Nat.lt_trichotomy q 1 with z | z | z
    · have : q = 0 := by omega
      rw [this] at hq
      omega
    · exact z
    · have : n * 2 ≤ n * q := Nat.mul_le_mul_left _ z
      omega
  rw [hq, q1, Nat.mul_one]
theorem gcd_opp {n x : Nat} (hx : x ≤ n) (g : Nat.gcd x n = 1) : Nat.gcd (n - x) n = 1 := by
  apply Nat.dvd_antisymm _ (Nat.one_dvd _)
  rw [← g]
  have h1 := Nat.gcd_dvd_left (n - x) n
  have h2 := Nat.gcd_dvd_right (n - x) n
  refine Nat.dvd_gcd ?_ h2
  have := Nat.dvd_sub h2 h1
  rw [Nat.sub_sub_self hx] at this
  exact this
theorem sum_opp {b n x k : Nat} (hn : 2 ≤ n) (hx : x ≤ n) (gx : Nat.gcd x n = 1) (gb : Nat.gcd b n = 1) : ∀ c, restSum b n (n - x) k c + restSum b n x k c = c * n
  | 0 => by simp [restSum]
  | c + 1 => by
    have ih := sum_opp (k := k) hn hx gx gb c
    have e := rem_opp (i := k * c) hn hx (rem_pos hn gx gb) (rem_pos hn (gcd_opp hx gx) gb)
    rw [restSum_succ, restSum_succ, Nat.succ_mul]
    omega
theorem sum_pos {b n x k : Nat} (hn : 2 ≤ n) (gx : Nat.gcd x n = 1) (gb : Nat.gcd b n = 1) {c : Nat} (hc : 1 ≤ c) : 1 ≤ restSum b n x k c := by
  obtain ⟨d, rfl⟩ : ∃ d, c = d + 1 := ⟨c - 1, by omega⟩
  rw [restSum_succ]
  have := rem_pos (i := k * d) hn gx gb
  omega
theorem bal_x {b n x k c : Nat} (gx : Nat.gcd x n = 1) : restSum b n x k c % n = 0 ↔ bal b n k c = true := by
  rw [restSum_mod, bal_iff]
  constructor
  · intro h
    exact Nat.Coprime.dvd_of_dvd_mul_left (show Nat.gcd n x = 1 by rw [Nat.gcd_comm]; exact gx) (Nat.dvd_of_mod_eq_zero h)
  · intro h
    exact Nat.mod_eq_zero_of_dvd (Nat.dvd_trans h (Nat.dvd_mul_left _ _))
/-- the quotients of x and of n - x -/
theorem quot_facts {b n x k c : Nat} (hn : 2 ≤ n) (hx : x < n) (gx : Nat.gcd x n = 1) (gb : Nat.gcd b n = 1) (hc : 2 ≤ c) (hB : bal b n k c = true) :
    1 ≤ restSum b n x k c / n ∧ restSum b n x k c / n < c ∧ restSum b n x k c / n + restSum b n (n - x) k c / n = c := by
  have e1 := (bal_x (k := k) (c := c) gx).mpr hB
  have e2 := (bal_x (k := k) (c := c) (gcd_opp (by omega) gx)).mpr hB
  have p1 := sum_pos (k := k) hn gx gb (show 1 ≤ c by omega)
  have p2 := sum_pos (k := k) hn (gcd_opp (by omega) gx) gb (show 1 ≤ c by omega)
  have s := sum_opp (k := k) hn (by omega) gx gb c
  obtain ⟨u, hu⟩ := Nat.dvd_of_mod_eq_zero e1
  obtain ⟨v, hv⟩ := Nat.dvd_of_mod_eq_zero e2
  rw [hu, hv] at s
  rw [hu] at p1
  rw [hv] at p2
  rw [hu, hv, Nat.mul_div_cancel_left _ (by omega), Nat.mul_div_cancel_left _ (by omega)]
  have s2 : v + u = c := by
    have : n * (v + u) = n * c := by rw [Nat.mul_add, s, Nat.mul_comm]
    exact Nat.eq_of_mul_eq_mul_left (by omega) this
  have u1 : 1 ≤ u := by
    rcases Nat.eq_zero_or_pos u with z | z
    · rw [z] at p1
      omega
    · exact z
  have v1 : 1 ≤ v := by
    rcases Nat.eq_zero_or_pos v with z | z
    · rw [z] at p2
      omega
    · exact z
  omega

end
end Wn
namespace Wn
open PySem PySem.Spec PyProof.Rows L2
local macro_rules | `(tactic| walk_at "vc") => `(tactic| simp only [cxK, cxK2, start1, start2, start3, tRet, tRetN, tSeq, tNext, tIfS, tAsg, gName, tDrop, tVar, tC, tOp, tUn, tTest, tB, tNot, tAnd, tOr, tAndV, tOrV, tNotV, tIf, tCons, tNil, tCB, tCall, tChain, tAug, ipI, rI, rI0, rU, rIs, rGcd, rEq, rNe, scal,
  List.getElem?_cons_zero, List.getElem?_cons_succ, List.set_cons_zero, List.set_cons_succ, Option.some.injEq, List.cons.injEq, V.int.injEq, V.bl.injEq, V.ref.injEq, V.str.injEq, and_true, true_and, exists_eq_left, exists_eq_left', exists_and_left, exists_and_right, List.append_nil, List.nil_append, List.cons_append, exists_eq_right, exists_eq_right', and_assoc, exists_const, V.ty.injEq, ↓reduceIte, Bool.false_eq_true, Bool.not_true, Bool.not_false, decide_eq_true_eq])

section
variable {P : Program} {w : World} {K : PySem.W.Frag} {mg : Str → Option Value} {base : Heap}

theorem pow_bits {b k : Nat} (hb : b ≤ 1000) : b ^ k ≤ 2 ^ (10 * k) := by
  rw [Nat.pow_mul]
  exact Nat.pow_le_pow_left (Nat.le_trans hb (by decide)) k
def sx (b n k c x : Nat) : Nat := (pcs b n x k c).sum
def skv (b n k c : Nat) (ts : List Nat) : List (Key × V) := ts.map fun x => ((Sum.inl ((x : Nat) : Int) : Key), V.int (sx b n k c x : Nat))
theorem skv_none {b n k c y : Nat} {ts : List Nat} (h : y ∉ ts) : valV (skv b n k c ts) (Sum.inl (y : Int) : Key) = none := by
  refine val_none fun kv hk e => ?_
  obtain ⟨j, hj, rfl⟩ := List.mem_map.mp hk
  have := Sum.inl.inj e
  have : j = y := by omega
  exact h (this ▸ hj)
theorem skv_some {b n k c y : Nat} : ∀ {ts : List Nat}, y ∈ ts → valV (skv b n k c ts) (Sum.inl (y : Int) : Key) = some (.int (sx b n k c y : Nat))
  | [], h => by cases h
  | t :: r, h => by
    by_cases e : t = y
    · subst e
      exact valV_pos rfl
    · have : y ∈ r := by
        rcases List.mem_cons.mp h with z | z
        · exact absurd z.symm e
        · exact z
      show valV (_ :: skv b n k c r) _ = _
      rw [valV_neg (fun z => e (by have := Sum.inl.inj z; omega))]
      exact skv_some this
theorem tops_asc (n : Nat) : (topsL n).Pairwise (· < ·) := by
  unfold topsL from1
  refine List.Pairwise.filter _ ?_
  rw [List.pairwise_map]
  exact List.Pairwise.imp (fun h => by omega) List.pairwise_lt_range
def sp_law_right : Sp := fun vs H Q _ => ∃ b n L k c : Nat, vs = [.int b, .int n, .int c, .int L] ∧ (2 ≤ b ∧ b ≤ 41 ∧ 2 ≤ n ∧ n ≤ 80 ∧ L ≤ 80 ∧ Nat.gcd b n = 1) ∧ CT b n L k c ∧ ∀ H', Gr [] H H' → Q (.bl true) H'
theorem ok_law_right (T : Txt K mg) : FnOk P w K mg base CX0 8 T.d_law_right.f T.d_law_right.fd ["b", "n", "cut", "size"] sp_law_right := by
  refine T.d_law_right.F.ok sc_law_right (fun vs H Q E h => ?_) (fun cdv A outer s H vs Q E hr h => ?_)
  · obtain ⟨b, n, L, k, c, rfl, _⟩ := h; rfl
  · have hu := hu_of hr
    refine ⟨_, (pss_cons (ps_set (i := 4) sc_law_right.nd rfl (by first | exact .inl rfl | exact .inr rfl) (pe_call (ok_law_power T) (hr.mono (by decide)) (by rfl) T.d_law_power.m T.d_law_power.F.kp T.d_law_power.b .nil pass0 (pa_cons (pv 0) (pa_cons (pe_op op_fdiv (pv 3) (pv 2)) pa_nil))))
      (pss_cons (ps_asg (pe_tup (pa_cons pe_dnewK (pa_cons (pe_call (ok_law_tops T) (hr.mono (by decide)) (by rfl) T.d_law_tops.m T.d_law_tops.F.kp T.d_law_tops.b .nil pass0 (pa_cons (pv 1) pa_nil)) pa_nil))) (pg_tup (by rfl) (pgs_cons (pg_name (i := 5) sc_law_right.nd rfl (by first | exact .inl rfl | exact .inr rfl)) (pgs_cons (pg_name (i := 6) sc_law_right.nd rfl (by first | exact .inl rfl | exact .inr rfl)) pgs_nil))))
      (pss_cons (ps_for PassesOwn.never rfl (pi_list (pv 6)) (pg_name (i := 7) sc_law_right.nd rfl (by first | exact .inl rfl | exact .inr rfl)) (pss_one (ps_dput hu (pv 5) (pv 7) (pe_callB (r := rSum K) (cr_sum rfl) (by rfl) T.b_sum (by decide +kernel) (pa_cons (pe_call (ok_law_sliced T) (hr.mono (by decide)) (by rfl) T.d_law_sliced.m T.d_law_sliced.F.kp T.d_law_sliced.b .nil pass0 (pa_cons (pv 0) (pa_cons (pe_tup (pa_cons (pv 7) (pa_cons (pv 1) pa_nil))) (pa_cons (pv 2) pa_nil)))) pa_nil)) rfl)))
      (pss_cons (ps_set (i := 8) sc_law_right.nd rfl (by first | exact .inl rfl | exact .inr rfl) (pe_lst (pa_cons (pe_call (ok_is_balanced T) (hr.mono (by decide)) (by rfl) T.d_is_balanced.m T.d_is_balanced.F.kp T.d_is_balanced.b .nil pass0 (pa_cons (pv 0) (pa_cons (pv 1) (pa_cons (pv 2) pa_nil)))) (pa_cons (pe_call (ok_is_balanced T) (hr.mono (by decide)) (by rfl) T.d_is_balanced.m T.d_is_balanced.F.kp T.d_is_balanced.b .nil pass0 (pa_cons (pv 0) (pa_cons (pv 1) (pa_cons (pv 2) pa_nil)))) pa_nil))))
      (pss_cons (ps_set (i := 9) sc_law_right.nd rfl (by first | exact .inl rfl | exact .inr rfl) (pe_cmpR op_eq (pe_op op_mod (pe_callTy call_int1 (by rfl) T.b_int (by decide +kernel) (pa_cons (pe_dget hu (pv 5) pe_int (fun _ _ => rfl)) pa_nil)) (pe_op op_sub (pv 4) pe_int)) pe_int (nomark _)))
      (pss_cons (ps_setLc (i := 10) (own := [("x", 7)]) (g := gName 7) (tt := _) rfl sc_law_right.nd rfl rfl (sw_true rfl rfl rfl (by decide +kernel)) (pi_list (pv 6)) (blkOk_by (own := [("x", 7)]) (N := ["b", "n", "cut", "size", "far", "sums", "tops", "x", "told", "due", "odd", "total", "now", "k", "one", "other"]) (sc := defScope s_law_right) (by decide +kernel)) (fun _ _ _ _ _ => (pg_name (i := 7) sc_law_right.nd rfl (by first | exact .inl rfl | exact .inr rfl))) (fun _ _ _ _ _ => (pts_one (pt_cmpR op_ne (pe_cmpR op_eq (pe_op op_mod (pe_callTy call_int1 (by rfl) T.b_int (by decide +kernel) (pa_cons (pe_dget hu (pv 5) (pv 7) (fun _ _ => rfl)) pa_nil)) (pe_op op_sub (pv 4) pe_int)) pe_int (nomark _)) (pv 9) (nomark _)))) (fun _ _ _ _ _ => (pv 7)))
      (pss_cons (ps_if (PW.pt (pw_or (pt_cmpR (r := rNeD K) (op_neD hr.units) (pv 8) (pe_lst (pa_cons (pv 9) (pa_cons (pv 9) pa_nil))) (nomark _)) (pw_or1 (pt_cmpR (r := rNeD K) (op_neD hr.units) (pv 10) (pe_lst pa_nil) (nomark _))))) (pss_one (ps_ret pe_bl)) pss_nil)
      (pss_cons (ps_asg (pe_tup (pa_cons pe_int (pa_cons pe_int pa_nil))) (pg_tup (by rfl) (pgs_cons (pg_name (i := 11) sc_law_right.nd rfl (by first | exact .inl rfl | exact .inr rfl)) (pgs_cons (pg_name (i := 12) sc_law_right.nd rfl (by first | exact .inl rfl | exact .inr rfl)) pgs_nil))))
      (pss_cons (ps_for PassesOwn.never rfl (pi_range1 (by rfl) T.b_range (pa_cons (pv 2) pa_nil)) (pg_name (i := 13) sc_law_right.nd rfl (by first | exact .inl rfl | exact .inr rfl)) (pss_one (ps_par (i := 11) (j := 12) (by rfl) sc_law_right.nd rfl rfl (by decide) rfl rfl (pa_cons (pe_op op_add (pv 11) (pv 12)) (pa_cons (pe_op op_mulW (pv 12) (pv 4)) pa_nil)) (by rfl))))
      (pss_cons (ps_if (PW.pt (pw_or (pt_cmpR op_ne (pe_cmpR op_eq (pe_op op_mod (pe_callTy call_int1 (by rfl) T.b_int (by decide +kernel) (pa_cons (pv 11) pa_nil)) (pv 1)) pe_int (nomark _)) (pv 9) (nomark _)) (pw_or1 (pt_cmpR op_ne (pe_call (ok_law_by_primes T) (hr.mono (by decide)) (by rfl) T.d_law_by_primes.m T.d_law_by_primes.F.kp T.d_law_by_primes.b .nil pass0 (pa_cons (pv 1) (pa_cons (pv 2) (pa_cons (pv 4) pa_nil)))) (pv 9) (nomark _))))) (pss_one (ps_ret pe_bl)) pss_nil)
      (pss_cons (ps_for PassesOwn.never rfl (pi_list (pe_ifExp (pt_val (pv 9)) (pv 6) (pe_lst pa_nil))) (pg_name (i := 7) sc_law_right.nd rfl (by first | exact .inl rfl | exact .inr rfl)) (pss_cons (ps_par (i := 14) (j := 15) (by rfl) sc_law_right.nd rfl rfl (by decide) rfl rfl (pa_cons (pe_call (ok_quotient T) (hr.mono (by decide)) (by rfl) T.d_quotient.m T.d_quotient.F.kp T.d_quotient.b .nil pass0 (pa_cons (pv 0) (pa_cons (pe_tup (pa_cons (pv 7) (pa_cons (pv 1) pa_nil))) (pa_cons (pv 2) pa_nil)))) (pa_cons (pe_call (ok_quotient T) (hr.mono (by decide)) (by rfl) T.d_quotient.m T.d_quotient.F.kp T.d_quotient.b .nil pass0 (pa_cons (pv 0) (pa_cons (pe_tup (pa_cons (pe_op op_sub (pv 1) (pv 7)) (pa_cons (pv 1) pa_nil))) (pa_cons (pv 2) pa_nil)))) pa_nil)) (by rfl))
      (pss_one (ps_if (PW.pt (pw_or (pt_cmpR op_ne (pv 14) (pe_op op_fdivW (pe_dget hu (pv 5) (pv 7) (fun _ _ => rfl)) (pe_op op_sub (pv 4) pe_int)) (nomark _)) (pw_or (pt_not (pt_chain op_le op_lt pe_int (pv 14) (pv 2))) (pw_or1 (pt_cmpR op_ne (pe_op op_add (pv 14) (pv 15)) (pv 2) (nomark _)))))) (pss_one (ps_ret pe_bl)) pss_nil))))
      (pss_one (ps_ret pe_bl))))))))))))), ?_⟩
    obtain ⟨b, n, L, k, c, rfl, ⟨hb1, hb2, hn1, hn2, hL80, hg⟩, hC, q⟩ := h
    obtain ⟨hP, hc2, hk1, hL⟩ := id hC
    obtain ⟨cd, ce⟩ := hC.d
    have hcL : c ≤ L := Nat.le_of_dvd hP.1 cd
    have hkL : k ≤ L := by
      have : k * 1 ≤ k * c := Nat.mul_le_mul_left _ (show 1 ≤ c by omega)
      omega
    have hbn : BN b n := ⟨hb1, by omega, by omega, by omega⟩
    have ek : (L : Int) / (c : Int) = ((k : Nat) : Int) := by rw [← Int.natCast_ediv, ce]
    refine ⟨_, rfl, _, rfl, _, rfl, _, _, rfl, rfl, ⟨by omega, by omega⟩, b, k, by dsimp only; rw [ek]; rfl, ⟨by omega, by omega⟩, ?_⟩
    have hp1 : 2 ≤ b ^ k := Nat.le_trans hb1 (Nat.le_self_pow (by omega) b)
    have fb := pow_bits (k := k) (show b ≤ 1000 by omega)
    have hby := byPs_bal hb1 hb2 hn1 hn2 hg hL80 hP hc2 hk1 cd ce
    have pq : ∀ x, (sx b n k c x % (b ^ k - 1) = 0 ↔ restSum b n x k c % n = 0) ∧ (restSum b n x k c % n = 0 → sx b n k c x / (b ^ k - 1) = restSum b n x k c / n) := fun x => pcs_quot hb1 hk1 (by omega) (by rw [← hL]; exact rem_period hP.2.1)
    have hgeo : geo (b ^ k) c % n = 0 ↔ bal b n k c = true := by
      rw [bal_iff]
      exact (Nat.dvd_iff_mod_eq_zero ..).symm
    generalize hfar : b ^ k = far at hp1 fb hby pq hgeo ⊢
    intro e ne
    refine ⟨_, rfl, n, rfl, ⟨by omega, by omega⟩, fun U H2 g2 hU => ?_⟩
    have he2 := g2 e _ (by simp) (upd_same (o := .dK []))
    refine ⟨by show 2 ≤ sizeLine; decide, fun p9 np9 => ?_⟩
    refine ⟨p9, _, rfl, sq_tup upd_same, rfl, _, _, rfl, _, _, rfl, rfl, ?_⟩
    have g9 : Gr [] H2 (upd H2 p9 (.tup [.ref e, .ref U])) := Gr.new np9
    have he2 := g9 e _ (by simp) he2
    have hU := g9 U _ (by simp) hU
    have g2 := g2.trans g9
    generalize upd H2 p9 (.tup [.ref e, .ref U]) = H2 at g2 he2 hU ⊢
    refine ⟨_, rfl, U, rfl, ⟨_, sq_lst hU⟩, ?_⟩
    have tl := tops_len n
    have hUe : U ≠ e := ne_of hU he2 (by intro q; cases q)
    refine for_list (K := K) (a := U) (xs := vn (topsL n)) (fun i σ H' => Gr [e] H2 H' ∧ H' e = some (.dK (skv b n k c ((topsL n).take i))) ∧ ∃ v, σ = [some (.int b), some (.int n), some (.int c), some (.int L), some (.int far), some (.ref e), some (.ref U), v, none, none, none, none, none, none, none, none]) ⟨Gr.refl _ _, he2, none, ?_⟩ (fun i σ H' _ z => sq_lst (z.1 U _ (by rw [List.mem_singleton]; exact hUe) hU)) ?_ ?_
    · rfl
    · rintro i y σ H' hy ⟨G, hE, v, rfl⟩
      obtain ⟨hi, rfl⟩ := vn_get hy
      have hx := mem_tops.mp (List.getElem_mem hi)
      have hnew : (topsL n)[i] ∉ (topsL n).take i := fun z => by
        obtain ⟨j, hj, ej⟩ := List.mem_iff_getElem.mp z
        rw [List.length_take] at hj
        rw [List.getElem_take] at ej
        have := List.pairwise_iff_getElem.mp (tops_asc n) j i (by omega) hi (by omega)
        omega
      have tk := List.take_succ_eq_append_getElem hi
      generalize hxx : (topsL n)[i] = x at hx hnew tk ⊢
      refine ⟨_, rfl, _, rfl, _, rfl, by show 2 ≤ sizeLine; decide, fun p np => ?_⟩
      refine ⟨_, rfl, b, x, n, L, k, c, p, rfl, upd_same, ⟨hbn, hx.2.1, hx.2.2, hg⟩, hC, fun D H3 g3 hD => ?_⟩
      have hE3 := g3 e _ (by simp) ((Gr.new (W := []) (o := .tup [.int x, .int n]) np) e _ (by simp) hE)
      refine ⟨D, ni (pcs b n x k c), rfl, by rw [← vn_ni]; exact sq_lst hD, _, rfl, _, rfl, e, _, rfl, DPut.k (k := Sum.inl ((x : Nat) : Int)) hE3 (by unfold skv; rw [List.length_map, List.length_take]; exact small5 (by omega)), ?_⟩
      rw [putK_new _ (skv_none hnew), ni_sum]
      have gA := (G.trans ((Gr.new (W := [e]) (o := .tup [.int x, .int n]) np))).trans (g3.mono (by simp))
      refine ⟨gA.trans (Gr.wr (by simp)), ?_, _, rfl⟩
      rw [upd_same, tk]
      unfold skv
      rw [List.map_append]
      rfl
    rintro σ H3 ⟨G3, hE, v, rfl⟩
    rw [List.take_of_length_le (by rw [vn_len]; exact Nat.le_refl _)] at hE
    have hU3 := G3 U _ (by rw [List.mem_singleton]; exact hUe) hU
    refine ⟨_, rfl, _, rfl, _, rfl, b, n, L, k, c, rfl, hbn, hg, hn1, hC, fun H4 g4 => ?_⟩
    refine ⟨_, rfl, _, rfl, _, rfl, b, n, L, k, c, rfl, hbn, hg, hn1, hC, fun H5 g5 => ?_⟩
    refine ⟨by show 2 ≤ sizeLine; decide, fun l nl => ?_⟩
    have g6 : Gr [] H5 (upd H5 l (.lst [.bl (bal b n k c), .bl (bal b n k c)])) := Gr.new nl
    have e6 : (upd H5 l (.lst [.bl (bal b n k c), .bl (bal b n k c)])) l = some (.lst [.bl (bal b n k c), .bl (bal b n k c)]) := upd_same
    generalize upd H5 l (.lst [.bl (bal b n k c), .bl (bal b n k c)]) = H6 at g6 e6 ⊢
    have gB := (g4.trans g5).trans g6
    have hE6 := gB e _ (by simp) hE
    have hU6 := gB U _ (by simp) hU3
    have in1 : (1 : Nat) ∈ topsL n := mem_tops.mpr ⟨by omega, by omega, by simp⟩
    have dg : ∀ {H' : Hp} {x : Nat}, x ∈ topsL n → H' e = some (.dK (skv b n k c (topsL n))) → DGet H' e (.int (x : Int)) (some (.int (sx b n k c x : Nat))) := fun {H' x} hx h => by
      rw [← skv_some (b := b) (n := n) (k := k) (c := c) hx]
      exact DGet.k (k := Sum.inl ((x : Nat) : Int)) h
    have ef : (far : Int) - 1 = ((far - 1 : Nat) : Int) := by omega
    have tst : ∀ x, Nat.gcd x n = 1 → decide (V.int (((sx b n k c x : Nat) : Int) % ((far : Int) - 1)) = V.int 0) = bal b n k c := fun x gx => by
      rw [ef, ← Int.natCast_emod]
      by_cases hz : bal b n k c = true
      · rw [hz, (pq x).1.mpr ((bal_x gx).mpr hz)]
        rfl
      · rw [Bool.eq_false_iff.mpr hz, decide_eq_false fun y => hz ((bal_x gx).mp ((pq x).1.mp (by have := V.int.inj y; omega)))]
    refine ⟨_, rfl, e, _, rfl, dg in1 hE6, .inl ⟨_, rfl, _, rfl, _, _, rfl, rfl, _, _, rfl, rfl, (show (0 : Int) < (far : Int) - 1 by omega), rfl, ?_⟩⟩
    rw [tst 1 (by simp)]
    generalize hd : bal b n k c = due at *
    refine ⟨_, rfl, U, rfl, ⟨_, sq_lst hU6⟩, fun F nF => ?_⟩
    refine lc_list (K := K) (a := U) (xs := vn (topsL n)) (fun j H2 => Gr [] H6 H2 ∧ H2 F = some (.lst [])) ⟨Gr.new nF, upd_same⟩ (fun i H2 _ z => sq_lst (z.1 U _ (by simp) hU6)) ?_ ?_
    · rintro i y H' hy ⟨G, hF⟩
      obtain ⟨hi, rfl⟩ := vn_get hy
      have hxm := List.getElem_mem hi
      have hx := mem_tops.mp hxm
      generalize hxx : (topsL n)[i] = x at hx hxm ⊢
      refine ⟨rfl, ?_⟩
      refine ⟨_, rfl, _, rfl, e, _, rfl, dg hxm (G e _ (by simp) hE6), .inl ⟨_, rfl, _, rfl, _, _, rfl, rfl, _, _, rfl, rfl, (show (0 : Int) < (far : Int) - 1 by omega), rfl, ?_⟩⟩
      rw [tst x hx.2.2]
      refine ⟨_, rfl, rfl, _, rfl, ?_⟩
      rw [show (!decide (V.bl due = V.bl due)) = false by rw [decide_eq_true rfl]; rfl]
      exact iteF ⟨G, hF⟩
    rintro H7 ⟨g7, hF⟩
    have hE7 := g7 e _ (by simp) hE6
    have hU7 := g7 U _ (by simp) hU6
    have hl7 := g7 l _ (by simp) e6
    refine ⟨_, rfl, _, rfl, _, rfl, by show 2 ≤ sizeLine; decide, fun l2 nl2 => ?_⟩
    have g8 : Gr [] H7 (upd H7 l2 (.lst [.bl due, .bl due])) := Gr.new nl2
    have e8 : (upd H7 l2 (.lst [.bl due, .bl due])) l2 = some (.lst [.bl due, .bl due]) := upd_same
    generalize upd H7 l2 (.lst [.bl due, .bl due]) = H8 at g8 e8 ⊢
    have hl8 := g8 l _ (by simp) hl7
    have d2 : ∀ {p : Addr}, H8 p = some (.lst [.bl due, .bl due]) → Dp K H8 (.ref p) (.list [.bool due, .bool due]) := fun h => dp_lst h (.cons (.bl _) (.cons (.bl _) .nil))
    refine ⟨_, _, d2 hl8, d2 e8, rfl, rfl, _, rfl, ?_⟩
    rw [SeqAt.eqv_refl (.list [.bool due, .bool due]) rfl]
    refine iteF ?_
    have hF8 := g8 F _ (by simp) hF
    refine ⟨_, rfl, Nat.zero_le _, fun l3 nl3 => ?_⟩
    refine ⟨.list [], .list [], dp_lst ((Gr.new (W := []) nl3) F _ (by simp) hF8) .nil, dp_lst upd_same .nil, rfl, rfl, _, rfl, ?_⟩
    refine iteF ?_
    have gD := (g7.trans g8).trans (Gr.new (W := []) (o := .lst []) nl3)
    have hE9 := gD e _ (by simp) hE6
    have hU9 := gD U _ (by simp) hU6
    generalize upd H8 l3 (.lst []) = H9 at gD hE9 hU9 ⊢
    refine ⟨by show 2 ≤ sizeLine; decide, fun p8 np8 => ?_⟩
    refine ⟨p8, _, rfl, sq_tup upd_same, rfl, _, _, rfl, _, _, rfl, rfl, ?_⟩
    have g10 : Gr [] H9 (upd H9 p8 (.tup [.int 0, .int 1])) := Gr.new np8
    have hE10 := g10 e _ (by simp) hE9
    have hU10 := g10 U _ (by simp) hU9
    generalize upd H9 p8 (.tup [.int 0, .int 1]) = H10 at g10 hE10 hU10 ⊢
    refine ⟨_, rfl, (c : Int), rfl, by omega, by omega, ?_⟩
    refine for_range (lo := 0) (n := ((c : Int)).toNat) (fun i σ H' => H' = H10 ∧ ∃ w, σ = [some (.int b), some (.int n), some (.int c), some (.int L), some (.int far), some (.ref e), some (.ref U), v, some (.ref l), some (.bl due), some (.ref F), some (.int (geo far i : Nat)), some (.int (far ^ i : Nat)), w, none, none]) ⟨rfl, none, ?_⟩ ?_ ?_
    · rfl
    · rintro i σ H' hi ⟨rfl, w, rfl⟩
      have fi : far ^ i < 2 ^ (10 * (k * c)) := by
        have hic : i < c := by omega
        have h1 : far ^ i ≤ (2 ^ (10 * k)) ^ i := Nat.pow_le_pow_left fb i
        rw [← Nat.pow_mul] at h1
        refine Nat.lt_of_le_of_lt h1 (Nat.pow_lt_pow_right (by decide) ?_)
        rw [← Nat.mul_assoc]
        exact Nat.mul_lt_mul_of_pos_left hic (by omega)
      refine ⟨_, rfl, _, rfl, _, _, rfl, rfl, _, rfl, _, rfl, _, _, rfl, rfl, wide_mul (a := 10 * (k * c)) (b := 10 * k + 1) (by rw [Int.natAbs_natCast]; exact fi) (by rw [Int.natAbs_natCast]; exact Nat.lt_of_le_of_lt fb (Nat.pow_lt_pow_right (by decide) (by omega))) (by rw [← hL]; omega) (by omega) (by rw [← hL]; omega), _, _, rfl, rfl, some (.int (0 + (i : Int))), ?_⟩
      dsimp only
      rw [← Int.natCast_add, ← Int.natCast_mul, ← Nat.pow_succ]
      rfl
    rintro σ H' ⟨rfl, w, rfl⟩
    rw [Int.toNat_natCast]
    have eg : (geo far c : Int) % (n : Int) = ((geo far c % n : Nat) : Int) := by rw [← Int.natCast_emod]
    have tt : decide (V.int (((geo far c : Nat) : Int) % (n : Int)) = V.int 0) = due := by
      rw [eg]
      by_cases hz : due = true
      · rw [hz, hgeo.mpr hz]
        rfl
      · rw [Bool.eq_false_iff.mpr hz, decide_eq_false fun y => hz (hgeo.mp (by have := V.int.inj y; omega))]
    refine ⟨_, rfl, .inl ⟨_, rfl, _, rfl, _, _, rfl, rfl, (show (0 : Int) < (n : Int) by omega), rfl, ?_⟩⟩
    rw [tt]
    refine ⟨_, rfl, rfl, _, rfl, ?_⟩
    rw [show (!decide (V.bl due = V.bl due)) = false by rw [decide_eq_true rfl]; rfl]
    refine iteF ?_
    refine ⟨_, rfl, _, rfl, _, rfl, n, c, far, rfl, ⟨hn1, by omega, by omega, by omega⟩, fun H11 g11 => ?_⟩
    rw [hby]
    refine ⟨_, rfl, rfl, _, rfl, ?_⟩
    rw [show (!decide (V.bl due = V.bl due)) = false by rw [decide_eq_true rfl]; rfl]
    refine iteF ?_
    have hE11 := g11 e _ (by simp) hE10
    have hU11 := g11 U _ (by simp) hU10
    refine ⟨_, rfl, due, rfl, ?_⟩
    have gAll : Gr [] H3 H11 := gB.trans (gD.trans (g10.trans g11))
    have old : ∀ {H' : Hp}, Gr [] H11 H' → Gr [] H H' := fun {H'} g u o _ eu => by
      have hue : u ≠ e := ne_of_none eu ne
      exact g u o (by simp) (gAll u o (by simp) (G3 u o (by rw [List.mem_singleton]; exact hue) (g2 u o (by simp) (by rw [upd_ne hue]; exact eu))))
    cases due with
    | false =>
      refine iteF ⟨Nat.zero_le _, fun l5 nl5 => ?_⟩
      refine ⟨l5, rfl, ⟨_, sq_lst upd_same⟩, ?_⟩
      refine for_list (K := K) (a := l5) (xs := []) (fun i σ H' => Gr [] H11 H' ∧ H' l5 = some (.lst [])) ⟨Gr.new nl5, upd_same⟩ (fun i σ H' _ z => sq_lst z.2) (fun i y σ H' hy => by cases hy) ?_
      rintro σ H12 ⟨g12, _⟩
      exact q _ (old g12)
    | true =>
      refine iteT ⟨_, rfl, U, rfl, ⟨_, sq_lst hU11⟩, ?_⟩
      refine for_list (K := K) (a := U) (xs := vn (topsL n)) (fun i σ H' => Gr [] H11 H' ∧ ∃ v7 w v14 v15, σ = [some (.int b), some (.int n), some (.int c), some (.int L), some (.int far), some (.ref e), some (.ref U), v7, some (.ref l), some (.bl true), some (.ref F), some (.int (geo far c : Nat)), some (.int (far ^ c : Nat)), w, v14, v15]) ⟨Gr.refl _ _, v, w, none, none, ?_⟩ (fun i σ H' _ z => sq_lst (z.1 U _ (by simp) hU11)) ?_ ?_
      · rfl
      · rintro i y σ H' hy ⟨G, v7, w, v14, v15, rfl⟩
        obtain ⟨hi, rfl⟩ := vn_get hy
        have hxm := List.getElem_mem hi
        have hx := mem_tops.mp hxm
        generalize hxx : (topsL n)[i] = x at hx hxm ⊢
        have qf := quot_facts (k := k) hn1 hx.2.1 hx.2.2 hg hc2 hd
        have r1 := (bal_x (k := k) (c := c) hx.2.2).mpr hd
        have gxo := gcd_opp (show x ≤ n by omega) hx.2.2
        have r2 := (bal_x (k := k) (c := c) gxo).mpr hd
        have q1 : qv b n x k c = .int (restSum b n x k c / n : Nat) := by unfold qv; rw [if_pos r1]
        have q2 : qv b n (n - x) k c = .int (restSum b n (n - x) k c / n : Nat) := by unfold qv; rw [if_pos r2]
        have qs := (pq x).2 r1
        refine ⟨_, rfl, _, rfl, _, rfl, by show 2 ≤ sizeLine; decide, fun p1 np1 => ?_⟩
        refine ⟨_, rfl, b, x, n, L, k, c, p1, rfl, upd_same, ⟨hbn, hx.2.1, hx.2.2, hg⟩, hC, fun H12 g12 => ?_⟩
        refine ⟨_, rfl, _, rfl, _, rfl, _, _, rfl, rfl, _, rfl, by show 2 ≤ sizeLine; decide, fun p2 np2 => ?_⟩
        refine ⟨_, rfl, b, n - x, n, L, k, c, p2, rfl, by rw [upd_same]; dsimp only; rw [show (n : Int) - (x : Int) = ((n - x : Nat) : Int) by omega], ⟨hbn, by omega, gxo, hg⟩, hC, fun H13 g13 => ?_⟩
        rw [q1, q2]
        refine ⟨_, _, rfl, ?_⟩
        have gX := ((Gr.new (W := []) np1).trans g12).trans ((Gr.new (W := []) np2).trans g13)
        have hE13 := gX e _ (by simp) (G e _ (by simp) hE11)
        obtain ⟨one, h1⟩ : ∃ one, restSum b n x k c / n = one := ⟨_, rfl⟩
        obtain ⟨two, h2⟩ : ∃ two, restSum b n (n - x) k c / n = two := ⟨_, rfl⟩
        rw [h1] at qs
        rw [h1, h2] at qf ⊢
        refine ⟨_, rfl, _, rfl, _, rfl, e, _, rfl, dg hxm hE13, _, rfl, _, _, rfl, rfl, _, _, rfl, rfl, wide_div (b := 10 * k + 1) (by omega) (by rw [ef, Int.natAbs_natCast]; exact Nat.lt_of_le_of_lt (Nat.le_trans (Nat.sub_le _ _) fb) (Nat.pow_lt_pow_right (by decide) (by omega))) (by omega) (by omega), rfl, _, rfl, ?_⟩
        have dne : ∀ (u v : V), u = v → (!decide (u = v)) = false := fun u v h => by rw [decide_eq_true h]; rfl
        refine iteFb (dne _ _ (show V.int (one : Int) = V.int (((sx b n k c x : Nat) : Int) / ((far : Int) - 1)) by rw [ef, ← Int.natCast_ediv, qs])) ?_
        refine ⟨_, rfl, _, _, rfl, rfl, _, rfl, ?_⟩
        refine iteTb (decide_eq_true (show (1 : Int) ≤ (one : Int) by omega)) ?_
        refine ⟨_, rfl, _, _, rfl, rfl, _, rfl, ?_⟩
        refine iteFb (show (!decide ((one : Int) < (c : Int))) = false by rw [decide_eq_true (by omega)]; rfl) ?_
        refine ⟨_, rfl, _, rfl, _, _, rfl, rfl, _, rfl, rfl, _, rfl, ?_⟩
        refine iteFb (dne _ _ (show V.int ((one : Int) + (two : Int)) = V.int (c : Int) from congrArg V.int (by omega))) ?_
        exact ⟨G.trans gX, _, _, _, _, rfl⟩
      rintro σ H12 ⟨g12, v7, w, v14, v15, rfl⟩
      exact q _ (old g12)

end
end Wn
namespace Wn
open PySem PySem.Spec PyProof.Rows L2
local macro_rules | `(tactic| walk_at "vc") => `(tactic| simp only [cxK, cxK2, start1, start2, start3, tRet, tRetN, tSeq, tNext, tIfS, tAsg, gName, tDrop, tVar, tC, tOp, tUn, tTest, tB, tNot, tAnd, tOr, tAndV, tOrV, tNotV, tIf, tCons, tNil, tCB, tCall, tChain, tAug, ipI, rI, rI0, rU, rIs, rGcd, rEq, rNe, scal,
  List.getElem?_cons_zero, List.getElem?_cons_succ, List.set_cons_zero, List.set_cons_succ, Option.some.injEq, List.cons.injEq, V.int.injEq, V.bl.injEq, V.ref.injEq, V.str.injEq, and_true, true_and, exists_eq_left, exists_eq_left', exists_and_left, exists_and_right, List.append_nil, List.nil_append, List.cons_append, exists_eq_right, exists_eq_right', and_assoc, exists_const, V.ty.injEq, ↓reduceIte, Bool.false_eq_true, Bool.not_true, Bool.not_false, decide_eq_true_eq])

theorem gap_ok : ((List.range 40).all fun b => (List.range 70).all fun r => (List.range 10).any fun j => Nat.gcd (2 + b) (2 + r + j) == 1) = true := by decide +kernel
theorem gap {b r k : Nat} (hb : 2 ≤ b) (hb2 : b ≤ 41) (hr : r < 70) (h : ∀ t, 2 + r ≤ t → Nat.gcd b t = 1 → k ≤ t) : k ≤ 80 := by
  have g := gap_ok
  rw [List.all_eq_true] at g
  have g1 := g (b - 2) (List.mem_range.mpr (by omega))
  rw [List.all_eq_true] at g1
  have g2 := g1 r (List.mem_range.mpr hr)
  rw [List.any_eq_true] at g2
  obtain ⟨j, hj, e⟩ := g2
  rw [beq_iff_eq, show 2 + (b - 2) = b by omega] at e
  have := h _ (by omega) e
  rw [List.mem_range] at hj
  omega
theorem cut6 (xs : List Nat) (i : Int) : ∃ ys : List Nat, cutV (vn xs) none (some i) = vn ys ∧ (∀ y ∈ ys, y ∈ xs) := by
  refine ⟨(xs.drop (HT.sIx (vn xs).length 0 none)).take (HT.sIx (vn xs).length (vn xs).length (some i) - HT.sIx (vn xs).length 0 none), ?_, fun y hy => List.mem_of_mem_drop (List.mem_of_mem_take hy)⟩
  unfold cutV vn
  rw [← List.map_drop, ← List.map_take]
structure Rw4 where
  b : Nat
  n : Nat
  c : Nat
  k : Nat
def Rw4.d (r : Rw4) : PyData := .tuple [.int (r.b : Nat), .int (r.n : Nat), .int (r.c : Nat)]
def Rw4.ok (r : Rw4) : Prop := BN r.b r.n ∧ Nat.gcd r.b r.n = 1 ∧ 2 ≤ r.n ∧ CT r.b r.n (r.k * r.c) r.k r.c
theorem dpAll_at {K : PySem.W.Frag} {H : Hp} : ∀ {vs : List V} {ds : List PyData}, DpAll K H vs ds → ∀ {i : Nat} {y : V}, vs[i]? = some y → ∃ d, ds[i]? = some d ∧ Dp K H y d
  | _, _, .nil, i, y, h => by cases h
  | _, _, .cons h t, 0, y, e => ⟨_, rfl, by rw [← Option.some.inj e]; exact h⟩
  | _, _, .cons h t, i + 1, y, e => dpAll_at t (show _ = _ from e)
theorem row_at {K : PySem.W.Frag} {H : Hp} {xs : List V} {T : List Rw4} (h : DpAll K H xs (T.map Rw4.d)) {i : Nat} {y : V} (hy : xs[i]? = some y) : ∃ (r : Rw4) (a : Addr), T[i]? = some r ∧ y = .ref a ∧ SqT K H a [.int (r.b : Nat), .int (r.n : Nat), .int (r.c : Nat)] := by
  obtain ⟨d, hd, hD⟩ := dpAll_at h hy
  rw [List.getElem?_map] at hd
  cases e : T[i]? with
  | none =>
    rw [e] at hd
    cases hd
  | some r =>
    rw [e] at hd
    have := Option.some.inj hd
    subst this
    unfold Rw4.d at hD
    cases hD with
    | tup h1 h2 =>
      cases h2 with
      | cons a1 t1 => cases t1 with
        | cons a2 t2 => cases t2 with
          | cons a3 t3 =>
            cases t3
            rw [dp_int a1, dp_int a2, dp_int a3] at h1
            exact ⟨r, _, rfl, rfl, h1⟩
def balR (r : Rw4) : Bool := bal r.b r.n r.k r.c
theorem dpAll_bls {K : PySem.W.Frag} {H : Hp} : ∀ bs : List Bool, DpAll K H (bs.map V.bl) (bs.map PyData.bool)
  | [] => .nil
  | b :: r => .cons (.bl b) (dpAll_bls r)
theorem take_at {α : Type} {l : List α} {i : Nat} {r : α} (h : l[i]? = some r) : l.take (i + 1) = l.take i ++ [r] := by
  rw [List.take_add_one, h]
  rfl
def sp_law (K : PySem.W.Frag) : Sp := fun vs H Q _ => ∃ (a : Addr) (ns : List Int), vs = [.ref a] ∧ SqL K H a (ns.map V.int) ∧ ns.length ≤ 63 ∧ ∀ H', Q (.bl true) H'

/-! what is so of written bases and denominators -/
def perB (b p d : Nat) : Bool := decide (1 ≤ d) && b ^ d % p == 1 % p && (List.range d).all fun j => j == 0 || b ^ j % p != 1 % p
theorem per_of {b p d : Nat} (h : perB b p d = true) : IsPer b p d := by
  unfold perB at h
  rw [Bool.and_eq_true, Bool.and_eq_true, decide_eq_true_eq, beq_iff_eq, List.all_eq_true] at h
  obtain ⟨⟨h1, h2⟩, h3⟩ := h
  refine ⟨h1, h2, fun j j1 jd => ?_⟩
  have := h3 j (List.mem_range.mpr jd)
  rw [Bool.or_eq_true, beq_iff_eq, bne_iff_ne] at this
  rcases this with z | z
  · omega
  · exact z
def headB (b q h : Nat) : Bool := b ^ h % q == 0 && (List.range h).all fun j => b ^ j % q != 0
theorem head_of {b q h : Nat} (e : headB b q h = true) : IsHead b q h := by
  unfold headB at e
  rw [Bool.and_eq_true, beq_iff_eq, List.all_eq_true] at e
  refine ⟨e.1, fun j jd => ?_⟩
  have := e.2 j (List.mem_range.mpr jd)
  rw [bne_iff_ne] at this
  exact this
def parB (b n p q h L : Nat) : Bool := Nat.gcd b p == 1 && n == p * q && b ^ h % q == 0 && headB b q h && perB b p L
theorem par_of {b n p q h L : Nat} (e : parB b n p q h L = true) : Par b n p q h L := by
  unfold parB at e
  rw [Bool.and_eq_true, Bool.and_eq_true, Bool.and_eq_true, Bool.and_eq_true, beq_iff_eq, beq_iff_eq, beq_iff_eq] at e
  obtain ⟨⟨⟨⟨h1, h2⟩, h3⟩, h4⟩, h5⟩ := e
  exact ⟨⟨h1, q, h, h2, Nat.dvd_of_mod_eq_zero h3⟩, h2, head_of h4, per_of h5⟩

section
variable {P : Program} {w : World} {K : PySem.W.Frag} {mg : Str → Option Value} {base : Heap}
theorem okG_law (T : Txt K mg) : FnG P w K mg base CX0 9 T.d_law.f T.d_law.fd ["script"] (sp_law K) := by
  refine fnG0 T.d_law.F sc_law (fun vs H Q E h => ?_) (fun cdv A outer s H vs Q E hgd hr h => ?_)
  · obtain ⟨a, ns, rfl, _⟩ := h; rfl
  · have hu := hu_of hr
    refine ⟨_, (pss_cons (ps_set (i := 1) sc_law.nd rfl (by first | exact .inl rfl | exact .inr rfl) (pe_call (ok_law_begun T) (hr.mono (by decide)) (by rfl) T.d_law_begun.m T.d_law_begun.F.kp T.d_law_begun.b .nil pass0 (pa_cons (pv 0) pa_nil)))
      (pss_cons (ps_for PassesOwn.never rfl (pi_range1 (by rfl) T.b_range (pa_cons (pe_op op_add pe_int (pe_callB (call_min2 rfl) (by rfl) T.b_min (by decide +kernel) (pa_cons (pe_callB (r := rLn K) call_ln (by rfl) T.b_len PySem.boot_len (pa_cons (pv 0) pa_nil)) (pa_cons pe_int pa_nil)))) pa_nil)) (pg_name (i := 2) sc_law.nd rfl (by first | exact .inl rfl | exact .inr rfl)) (pss_cons (ps_set (i := 3) sc_law.nd rfl (by first | exact .inl rfl | exact .inr rfl) (pe_call (ok_law_of T) (hr.mono (by decide)) (by rfl) T.d_law_of.m T.d_law_of.F.kp T.d_law_of.b .nil pass0 (pa_cons (pv 1) (pa_cons (pe_lst (pa_cons pe_int (pa_cons pe_int (pa_cons pe_int (pa_cons pe_int (pa_cons pe_int (pa_cons pe_int (pa_cons (pe_op op_add pe_int (pe_call (ok_law_draw T) (hr.mono (by decide)) (by rfl) T.d_law_draw.m T.d_law_draw.F.kp T.d_law_draw.b .nil pass0 (pa_cons (pv 1) (pa_cons pe_int pa_nil)))) pa_nil)))))))) pa_nil))))
      (pss_cons (ps_set (i := 4) sc_law.nd rfl (by first | exact .inl rfl | exact .inr rfl) (pe_call (ok_law_pure T) (hr.mono (by decide)) (by rfl) T.d_law_pure.m T.d_law_pure.F.kp T.d_law_pure.b .nil pass0 (pa_cons (pv 1) (pa_cons (pv 3) (pa_cons (pe_call (ok_law_of T) (hr.mono (by decide)) (by rfl) T.d_law_of.m T.d_law_of.F.kp T.d_law_of.b .nil pass0 (pa_cons (pv 1) (pa_cons (pe_lst (pa_cons pe_int (pa_cons pe_int (pa_cons pe_int (pa_cons pe_int pa_nil))))) pa_nil))) pa_nil)))))
      (pss_cons (ps_asg (pe_call (ok_law_splits T) (hr.mono (by decide)) (by rfl) T.d_law_splits.m T.d_law_splits.F.kp T.d_law_splits.b .nil pass0 (pa_cons (pv 3) (pa_cons (pv 4) pa_nil))) (pg_tup (by rfl) (pgs_cons (pg_name (i := 5) sc_law.nd rfl (by first | exact .inl rfl | exact .inr rfl)) (pgs_cons (pg_name (i := 6) sc_law.nd rfl (by first | exact .inl rfl | exact .inr rfl)) pgs_nil))))
      (pss_one (ps_if (pt_cmpR (r := rNeD K) (op_neD hr.units) (pe_lc (own := [("cut", 7)]) (g := gName 7) (tt := _) rfl sc_law.nd (pi_list (pe_slice (r := rSlL K) sl_list (pv 6) po_none (po_some pe_int))) (blkOk_by (own := [("cut", 7)]) (N := ["script", "m", "lap", "b", "n", "size", "some", "cut", "rows", "told"]) (sc := defScope s_law) (by decide +kernel)) (fun _ _ _ _ _ => (pg_name (i := 7) sc_law.nd rfl (by first | exact .inl rfl | exact .inr rfl))) (fun _ _ _ _ _ => (pts_one (pt_not (pt_val (pe_call (ok_law_right T) (hr.mono (by decide)) (by rfl) T.d_law_right.m T.d_law_right.F.kp T.d_law_right.b .nil pass0 (pa_cons (pv 3) (pa_cons (pv 4) (pa_cons (pv 7) (pa_cons (pv 5) pa_nil))))))))) (fun _ _ _ _ _ => (pv 7))) (pe_lst pa_nil) (nomark _)) (pss_one (ps_ret pe_bl)) pss_nil))))))
      (pss_cons (ps_set (i := 8) sc_law.nd rfl (by first | exact .inl rfl | exact .inr rfl) (pe_lst (pa_cons (pe_tup (pa_cons pe_int (pa_cons pe_int (pa_cons pe_int pa_nil)))) (pa_cons (pe_tup (pa_cons pe_int (pa_cons pe_int (pa_cons pe_int pa_nil)))) (pa_cons (pe_tup (pa_cons pe_int (pa_cons pe_int (pa_cons pe_int pa_nil)))) (pa_cons (pe_tup (pa_cons pe_int (pa_cons pe_int (pa_cons pe_int pa_nil)))) (pa_cons (pe_tup (pa_cons pe_int (pa_cons pe_int (pa_cons pe_int pa_nil)))) (pa_cons (pe_tup (pa_cons pe_int (pa_cons pe_int (pa_cons pe_int pa_nil)))) (pa_cons (pe_tup (pa_cons pe_int (pa_cons pe_int (pa_cons pe_int pa_nil)))) (pa_cons (pe_tup (pa_cons pe_int (pa_cons pe_int (pa_cons pe_int pa_nil)))) pa_nil))))))))))
      (pss_cons (ps_setLc (i := 9) (own := [("b", 3), ("n", 4), ("cut", 7)]) (g := gTup K 3 (gCons (gName 3) (gCons (gName 4) (gCons (gName 7) gNil)))) (tt := tYes) rfl sc_law.nd rfl rfl (sw_true rfl rfl rfl (by decide +kernel)) (pi_list (pv 8)) (blkOk_by (own := [("b", 3), ("n", 4), ("cut", 7)]) (N := ["script", "m", "lap", "b", "n", "size", "some", "cut", "rows", "told"]) (sc := defScope s_law) (by decide +kernel)) (fun _ _ _ _ _ => (pg_tup (by rfl) (pgs_cons (pg_name (i := 3) sc_law.nd rfl (by first | exact .inl rfl | exact .inr rfl)) (pgs_cons (pg_name (i := 4) sc_law.nd rfl (by first | exact .inl rfl | exact .inr rfl)) (pgs_cons (pg_name (i := 7) sc_law.nd rfl (by first | exact .inl rfl | exact .inr rfl)) pgs_nil))))) (fun _ _ _ _ _ => pts_nil) (fun _ _ _ _ _ => (pe_call (ok_is_balanced T) (hr.mono (by decide)) (by rfl) T.d_is_balanced.m T.d_is_balanced.F.kp T.d_is_balanced.b .nil pass0 (pa_cons (pv 3) (pa_cons (pv 4) (pa_cons (pv 7) pa_nil))))))
      (pss_cons (ps_if (PW.pt (pw_or (pt_cmpR (r := rNeD K) (op_neD hr.units) (pv 9) (pe_lst (pa_cons pe_bl (pa_cons pe_bl (pa_cons pe_bl (pa_cons pe_bl (pa_cons pe_bl (pa_cons pe_bl (pa_cons pe_bl (pa_cons pe_bl pa_nil))))))))) (nomark _)) (pw_or1 (pt_val (pe_call (ok_is_balanced T) (hr.mono (by decide)) (by rfl) T.d_is_balanced.m T.d_is_balanced.F.kp T.d_is_balanced.b .nil pass0 (pa_cons pe_int (pa_cons pe_int (pa_cons pe_int pa_nil)))))))) (pss_one (ps_ret pe_bl)) pss_nil)
      (pss_cons (ps_set (i := 8) sc_law.nd rfl (by first | exact .inl rfl | exact .inr rfl) (pe_lst (pa_cons (pe_tup (pa_cons pe_int (pa_cons pe_int (pa_cons pe_int pa_nil)))) (pa_cons (pe_tup (pa_cons pe_int (pa_cons pe_int (pa_cons pe_int pa_nil)))) (pa_cons (pe_tup (pa_cons pe_int (pa_cons pe_int (pa_cons pe_int pa_nil)))) (pa_cons (pe_tup (pa_cons pe_int (pa_cons pe_int (pa_cons pe_int pa_nil)))) (pa_cons (pe_tup (pa_cons pe_int (pa_cons pe_int (pa_cons pe_int pa_nil)))) (pa_cons (pe_tup (pa_cons pe_int (pa_cons pe_int (pa_cons pe_int pa_nil)))) (pa_cons (pe_tup (pa_cons pe_int (pa_cons pe_int (pa_cons pe_int pa_nil)))) (pa_cons (pe_tup (pa_cons pe_int (pa_cons pe_int (pa_cons pe_int pa_nil)))) (pa_cons (pe_tup (pa_cons pe_int (pa_cons pe_int (pa_cons pe_int pa_nil)))) pa_nil)))))))))))
      (pss_one (ps_ret (pe_cmpR (r := rEqD K) (op_eqD hr.units) (pe_lc (own := [("b", 3), ("n", 4), ("cut", 7)]) (g := gTup K 3 (gCons (gName 3) (gCons (gName 4) (gCons (gName 7) gNil)))) (tt := _) rfl sc_law.nd (pi_list (pv 8)) (blkOk_by (own := [("b", 3), ("n", 4), ("cut", 7)]) (N := ["script", "m", "lap", "b", "n", "size", "some", "cut", "rows", "told"]) (sc := defScope s_law) (by decide +kernel)) (fun _ _ _ _ _ => (pg_tup (by rfl) (pgs_cons (pg_name (i := 3) sc_law.nd rfl (by first | exact .inl rfl | exact .inr rfl)) (pgs_cons (pg_name (i := 4) sc_law.nd rfl (by first | exact .inl rfl | exact .inr rfl)) (pgs_cons (pg_name (i := 7) sc_law.nd rfl (by first | exact .inl rfl | exact .inr rfl)) pgs_nil))))) (fun _ _ _ _ _ => (pts_one (pt_val (pe_call (ok_is_balanced T) (hr.mono (by decide)) (by rfl) T.d_is_balanced.m T.d_is_balanced.F.kp T.d_is_balanced.b .nil pass0 (pa_cons (pv 3) (pa_cons (pv 4) (pa_cons (pv 7) pa_nil))))))) (fun _ _ _ _ _ => (pv 3))) (pe_lst (pa_cons pe_int (pa_cons pe_int (pa_cons pe_int (pa_cons pe_int pa_nil))))) (nomark _)))))))))), ?_⟩
    obtain ⟨a, ns, rfl, hS, hn, q⟩ := h
    refine ⟨_, rfl, a, ns, rfl, hS, hn, fun d H1 g1 M1 => ?_⟩
    refine ⟨_, rfl, a, _, rfl, .inl ((Kp.of g1).sqL hS), _, _, rfl, ?_⟩
    rw [List.length_map]
    obtain ⟨N, eN, hN⟩ : ∃ N : Nat, (3 : Int) + (if (5 : Int) < (ns.length : Int) then (5 : Int) else (ns.length : Int)) = (N : Int) ∧ N ≤ 24 := by
      split
      · exact ⟨8, rfl, by decide⟩
      · exact ⟨3 + ns.length, by omega, by omega⟩
    refine ⟨_, _, rfl, rfl, ?_⟩
    refine ⟨(N : Int), congrArg (fun z => [V.int z]) eN, by omega, by omega, ?_⟩
    refine for_range (lo := 0) (n := ((N : Int)).toNat) (fun i σ H' => MOk H' d (5 * i) ∧ ∃ v2 v3 v4 v5 v6, σ = [some (.ref a), some (.ref d), v2, v3, v4, v5, v6, none, none, none]) ⟨M1, none, none, none, none, none, ?_⟩ ?_ ?_
    · rfl
    · rintro i σ H2 hi ⟨M2, v2, v3, v4, v5, v6, rfl⟩
      refine ⟨_, rfl, _, rfl, d, 40, _, rfl, M2, ⟨by decide, by decide, by omega⟩, fun r0 H3 hr0 g3 M3 => ?_⟩
      refine ⟨_, _, rfl, rfl, by show 7 ≤ sizeLine; decide, fun p np => ?_⟩
      refine ⟨d, p, _, _, rfl, M3.gr (Gr.new np), upd_same, ⟨by simp, by show 7 ≤ 100000; decide, by omega⟩, fun v H4 hv g4 M4 => ?_⟩
      obtain ⟨b, rfl, hb1, hb2⟩ : ∃ b : Nat, v = .int b ∧ 2 ≤ b ∧ b ≤ 41 := by
        simp only [List.mem_cons, List.not_mem_nil, or_false] at hv
        rcases hv with e | e | e | e | e | e | e
        · exact ⟨2, e, by decide, by decide⟩
        · exact ⟨3, e, by decide, by decide⟩
        · exact ⟨7, e, by decide, by decide⟩
        · exact ⟨10, e, by decide, by decide⟩
        · exact ⟨10, e, by decide, by decide⟩
        · exact ⟨12, e, by decide, by decide⟩
        · exact ⟨2 + r0, e, by omega, by omega⟩
      refine ⟨_, rfl, _, rfl, _, rfl, by show 4 ≤ sizeLine; decide, fun p5 np5 => ?_⟩
      refine ⟨d, p5, _, _, rfl, M4.gr (Gr.new np5), upd_same, ⟨by simp, by show 4 ≤ 100000; decide, by omega⟩, fun v H5 hv g5 M5 => ?_⟩
      obtain ⟨most, rfl, hm1, hm2⟩ : ∃ m : Nat, v = .int m ∧ 1 ≤ m ∧ m ≤ 70 := by
        simp only [List.mem_cons, List.not_mem_nil, or_false] at hv
        rcases hv with e | e | e | e
        · exact ⟨9, e, by decide, by decide⟩
        · exact ⟨27, e, by decide, by decide⟩
        · exact ⟨40, e, by decide, by decide⟩
        · exact ⟨70, e, by decide, by decide⟩
      refine ⟨d, b, most, _, rfl, M5, ⟨hb1, by omega, hm1, by omega, by omega⟩, fun r n H6 hr1 hn1 hmin hg g6 M6 => ?_⟩
      have hn80 := gap hb1 hb2 (by omega) hmin
      obtain ⟨L, hLn, hL⟩ := per_exists (show 1 ≤ n by omega) hg
      refine ⟨_, rfl, _, rfl, b, n, L, rfl, ⟨by omega, by omega, by omega, hg, hL⟩, fun t S H7 g7 ht hS7 => ?_⟩
      refine ⟨t, _, rfl, sq_tup ht, rfl, _, _, rfl, _, _, rfl, rfl, ?_⟩
      have M7 := M6.gr g7
      refine ⟨_, rfl, ?_⟩
      dsimp only [tNoPart]
      refine ⟨_, rfl, S, _, rfl, sq_lst hS7, fun p8 np8 => ?_⟩
      obtain ⟨ys, hys, hsub⟩ := cut6 (splitsL L) 6
      rw [hys]
      have g8 : Gr [] H7 (upd H7 p8 (.lst (vn ys))) := Gr.new np8
      have e8 : (upd H7 p8 (.lst (vn ys))) p8 = some (.lst (vn ys)) := upd_same
      generalize upd H7 p8 (.lst (vn ys)) = H8 at g8 e8 ⊢
      have M8 := M7.gr g8
      refine ⟨p8, rfl, ⟨_, sq_lst e8⟩, fun E nE => ?_⟩
      refine lc_list (K := K) (a := p8) (xs := vn ys) (fun j H2 => Gr [] H8 H2 ∧ H2 E = some (.lst [])) ⟨Gr.new nE, upd_same⟩ (fun i H2 _ z => sq_lst (z.1 p8 _ (by simp) e8)) ?_ ?_
      · rintro j y H9 hy2 ⟨G9, hE⟩
        obtain ⟨hj, rfl⟩ := vn_get hy2
        have hkx := (mem_splits hL.1).mp (hsub _ (List.getElem_mem hj))
        generalize hk : ys[j] = c at hkx ⊢
        refine ⟨rfl, ?_⟩
        refine ⟨_, rfl, _, rfl, _, rfl, _, rfl, b, n, L, L / c, c, rfl, ⟨hb1, hb2, hn1 |> (fun _ => by omega), hn80, by omega, hg⟩, ⟨hL, hkx.1, Nat.div_pos (Nat.le_of_dvd hL.1 hkx.2) (by omega), (Nat.div_mul_cancel hkx.2).symm⟩, fun H10 g10 => ?_⟩
        exact ⟨true, rfl, iteF ⟨G9.trans g10, g10 E _ (by simp) hE⟩⟩
      rintro H9 ⟨G9, hE⟩
      refine ⟨Nat.zero_le _, fun u nu => ?_⟩
      have hE3 := (Gr.new (W := []) (o := .lst []) nu) E _ (by simp) hE
      refine ⟨.list [], .list [], dp_lst hE3 .nil, dp_lst upd_same .nil, rfl, rfl, _, rfl, ?_⟩
      exact iteF ⟨(M8.gr (G9.trans (Gr.new nu))).mono (by omega), _, _, _, _, _, rfl⟩
    rintro σ H2 ⟨M2, v2, v3, v4, v5, v6, rfl⟩
    have ok4 : ∀ {b n c k L : Nat}, Par b n n 1 0 L → (decide (2 ≤ b) && decide (b ≤ 1000) && decide (2 ≤ n) && decide (n ≤ 5000) && decide (2 ≤ c) && decide (1 ≤ k) && decide (L = k * c)) = true → Rw4.ok ⟨b, n, c, k⟩ := fun P h => by
      simp only [Bool.and_eq_true, decide_eq_true_eq] at h
      obtain ⟨⟨⟨⟨⟨⟨h1, h2⟩, h3⟩, h4⟩, h5⟩, h6⟩, h7⟩ := h
      exact ⟨⟨h1, h2, Nat.le_of_succ_le h3, h4⟩, P.hp.1, h3, h7 ▸ P.hL, h5, h6, rfl⟩
    obtain ⟨T1, hT1⟩ : ∃ T : List Rw4, T = [⟨10, 7, 2, 3⟩, ⟨10, 7, 3, 2⟩, ⟨10, 21, 2, 3⟩, ⟨10, 21, 3, 2⟩, ⟨10, 27, 3, 1⟩, ⟨10, 81, 3, 3⟩, ⟨10, 49, 2, 21⟩, ⟨10, 49, 42, 1⟩] := ⟨_, rfl⟩
    have okT1 : ∀ r ∈ T1, r.ok := by
      intro r hr
      rw [hT1] at hr
      simp only [List.mem_cons, List.not_mem_nil, or_false] at hr
      rcases hr with rfl | rfl | rfl | rfl | rfl | rfl | rfl | rfl
      · exact ok4 (par_of (L := 6) (by decide +kernel)) rfl
      · exact ok4 (par_of (L := 6) (by decide +kernel)) rfl
      · exact ok4 (par_of (L := 6) (by decide +kernel)) rfl
      · exact ok4 (par_of (L := 6) (by decide +kernel)) rfl
      · exact ok4 (par_of (L := 3) (by decide +kernel)) rfl
      · exact ok4 (par_of (L := 9) (by decide +kernel)) rfl
      · exact ok4 (par_of (L := 42) (by decide +kernel)) rfl
      · exact ok4 (par_of (L := 42) (by decide +kernel)) rfl
    refine st_asgL (K := K) (el_lst (es_cons (ev_tup (es_cons ev_int (es_cons ev_int (es_cons ev_int es_nil)))) (es_cons (ev_tup (es_cons ev_int (es_cons ev_int (es_cons ev_int es_nil)))) (es_cons (ev_tup (es_cons ev_int (es_cons ev_int (es_cons ev_int es_nil)))) (es_cons (ev_tup (es_cons ev_int (es_cons ev_int (es_cons ev_int es_nil)))) (es_cons (ev_tup (es_cons ev_int (es_cons ev_int (es_cons ev_int es_nil)))) (es_cons (ev_tup (es_cons ev_int (es_cons ev_int (es_cons ev_int es_nil)))) (es_cons (ev_tup (es_cons ev_int (es_cons ev_int (es_cons ev_int es_nil)))) (es_cons (ev_tup (es_cons ev_int (es_cons ev_int (es_cons ev_int es_nil)))) es_nil))))))))) fun l1 xs1 H3 g3 e3 a3' => ?_
    have a3 : DpAll K H3 xs1 (T1.map Rw4.d) := by
      rw [hT1]
      exact a3'
    have len1 : T1.length = 8 := by rw [hT1]; rfl
    have lx1 : xs1.length = 8 := by rw [dpAll_len a3, List.length_map, len1]
    refine ⟨_, rfl, l1, rfl, ⟨_, sq_lst e3⟩, fun D nD => ?_⟩
    refine lc_list (K := K) (a := l1) (xs := xs1) (fun i H' => Gr [] H3 H' ∧ H' D = some (.lst (((T1.take i).map balR).map V.bl))) ⟨Gr.new nD, upd_same⟩ (fun i H' _ z => sq_lst (z.1 l1 _ (by simp) e3)) ?_ ?_
    · rintro i y H' hy ⟨G, hD⟩
      obtain ⟨r, a, hr, rfl, hs⟩ := row_at a3 hy
      obtain ⟨o1, o2, o3, o4⟩ := okT1 r (List.mem_of_getElem? hr)
      refine ⟨a, _, rfl, (Kp.of G).sqT hs, rfl, _, _, rfl, _, _, rfl, _, _, rfl, rfl, rfl, ?_⟩
      dsimp only [tYes]
      refine iteT ?_
      refine ⟨_, rfl, _, rfl, _, rfl, r.b, r.n, r.k * r.c, r.k, r.c, rfl, o1, o2, o3, o4, fun H4 g4 => ?_⟩
      refine ⟨_, g4 D _ (by simp) hD, ?_, ?_, ?_⟩
      · rw [List.length_map, List.length_map, List.length_take]
        exact small5 (by omega)
      · intro u o _ e
        rw [upd_ne (ne_of_none e nD)]
        exact (G.trans g4) u o (by simp) e
      · rw [upd_same, take_at hr, List.map_append, List.map_append]
        rfl
    rintro H4 ⟨g4, hD⟩
    rw [List.take_of_length_le (by omega)] at hD
    have bD : DpAll K H4 ((T1.map balR).map V.bl) ((T1.map balR).map PyData.bool) := dpAll_bls _
    have vT1 : T1.map balR = [true, true, false, true, false, false, true, true] := by
      rw [hT1]
      decide +kernel
    refine tt_of (K := K) (ev_ne (ev_var rfl (dp_lst hD bD)) (ev_lst (es_cons ev_bl (es_cons ev_bl (es_cons ev_bl (es_cons ev_bl (es_cons ev_bl (es_cons ev_bl (es_cons ev_bl (es_cons ev_bl es_nil))))))))) (by rw [vT1]; decide +kernel) (by decide +kernel)) (Gr.refl _ _) fun H5 g5 => ?_
    refine iteFb (by rw [vT1]; decide +kernel) ?_
    have o33 : Rw4.ok ⟨10, 33, 2, 1⟩ := ok4 (par_of (L := 2) (by decide +kernel)) rfl
    refine ⟨10, 33, 2, 1, 2, rfl, o33.1, o33.2.1, o33.2.2.1, o33.2.2.2, fun H6 g6 => ⟨_, rfl, ?_⟩⟩
    refine iteFb (by decide +kernel) ?_
    obtain ⟨T2, hT2⟩ : ∃ T : List Rw4, T = [⟨7, 4, 2, 1⟩, ⟨7, 8, 2, 1⟩, ⟨7, 16, 2, 1⟩, ⟨3, 4, 2, 1⟩, ⟨3, 8, 2, 1⟩, ⟨9, 16, 2, 1⟩, ⟨3, 16, 4, 1⟩, ⟨3, 40, 4, 1⟩, ⟨3, 80, 4, 1⟩] := ⟨_, rfl⟩
    have okT2 : ∀ r ∈ T2, r.ok := by
      intro r hr
      rw [hT2] at hr
      simp only [List.mem_cons, List.not_mem_nil, or_false] at hr
      rcases hr with rfl | rfl | rfl | rfl | rfl | rfl | rfl | rfl | rfl
      · exact ok4 (par_of (L := 2) (by decide +kernel)) rfl
      · exact ok4 (par_of (L := 2) (by decide +kernel)) rfl
      · exact ok4 (par_of (L := 2) (by decide +kernel)) rfl
      · exact ok4 (par_of (L := 2) (by decide +kernel)) rfl
      · exact ok4 (par_of (L := 2) (by decide +kernel)) rfl
      · exact ok4 (par_of (L := 2) (by decide +kernel)) rfl
      · exact ok4 (par_of (L := 4) (by decide +kernel)) rfl
      · exact ok4 (par_of (L := 4) (by decide +kernel)) rfl
      · exact ok4 (par_of (L := 4) (by decide +kernel)) rfl
    refine st_asgL (K := K) (el_lst (es_cons (ev_tup (es_cons ev_int (es_cons ev_int (es_cons ev_int es_nil)))) (es_cons (ev_tup (es_cons ev_int (es_cons ev_int (es_cons ev_int es_nil)))) (es_cons (ev_tup (es_cons ev_int (es_cons ev_int (es_cons ev_int es_nil)))) (es_cons (ev_tup (es_cons ev_int (es_cons ev_int (es_cons ev_int es_nil)))) (es_cons (ev_tup (es_cons ev_int (es_cons ev_int (es_cons ev_int es_nil)))) (es_cons (ev_tup (es_cons ev_int (es_cons ev_int (es_cons ev_int es_nil)))) (es_cons (ev_tup (es_cons ev_int (es_cons ev_int (es_cons ev_int es_nil)))) (es_cons (ev_tup (es_cons ev_int (es_cons ev_int (es_cons ev_int es_nil)))) (es_cons (ev_tup (es_cons ev_int (es_cons ev_int (es_cons ev_int es_nil)))) es_nil)))))))))) fun l2 xs2 H7 g7 e7 a7' => ?_
    have a7 : DpAll K H7 xs2 (T2.map Rw4.d) := by
      rw [hT2]
      exact a7'
    have len2 : T2.length = 9 := by rw [hT2]; rfl
    have lx2 : xs2.length = 9 := by rw [dpAll_len a7, List.length_map, len2]
    refine ⟨_, rfl, l2, rfl, ⟨_, sq_lst e7⟩, fun E nE => ?_⟩
    refine lc_list (K := K) (a := l2) (xs := xs2) (fun i H' => Gr [] H7 H' ∧ H' E = some (.lst (vn (((T2.take i).filter balR).map Rw4.b)))) ⟨Gr.new nE, upd_same⟩ (fun i H' _ z => sq_lst (z.1 l2 _ (by simp) e7)) ?_ ?_
    · rintro i y H' hy ⟨G, hD⟩
      obtain ⟨r, a, hr, rfl, hs⟩ := row_at a7 hy
      obtain ⟨o1, o2, o3, o4⟩ := okT2 r (List.mem_of_getElem? hr)
      refine ⟨a, _, rfl, (Kp.of G).sqT hs, rfl, _, _, rfl, _, _, rfl, _, _, rfl, rfl, rfl, ?_⟩
      refine ⟨_, rfl, _, rfl, _, rfl, r.b, r.n, r.k * r.c, r.k, r.c, rfl, o1, o2, o3, o4, fun H8 g8 => ?_⟩
      refine ⟨_, rfl, ?_⟩
      have hD8 := g8 E _ (by simp) hD
      by_cases hb : bal r.b r.n r.k r.c = true
      · refine iteTb hb ⟨_, rfl, _, hD8, ?_, ?_, ?_⟩
        · rw [vn_len, List.length_map]
          refine small5 (Nat.le_trans (List.length_filter_le _ _) ?_)
          rw [List.length_take]
          omega
        · intro u o _ e
          rw [upd_ne (ne_of_none e nE)]
          exact (G.trans g8) u o (by simp) e
        · rw [upd_same, vn_snoc, take_at hr, List.filter_append, List.filter_cons, if_pos (show balR r = true from hb), List.map_append]
          rfl
      · refine iteFb (Bool.eq_false_iff.mpr hb) ⟨G.trans g8, ?_⟩
        rw [take_at hr, List.filter_append, List.filter_cons, if_neg (show ¬ balR r = true from hb)]
        simp only [List.filter_nil, List.append_nil]
        exact hD8
    rintro H8 ⟨g8, hD8⟩
    rw [List.take_of_length_le (by omega)] at hD8
    have vT2 : (T2.filter balR).map Rw4.b = [7, 7, 3, 3] := by
      rw [hT2]
      decide +kernel
    rw [vT2] at hD8
    refine (ev_lst (es_cons ev_int (es_cons ev_int (es_cons ev_int (es_cons ev_int es_nil)))) : EvD K _ _ _ _) _ (Gr.refl _ _) _ fun v H9 g9 e9 => ?_
    refine ⟨_, _, dp_vnL (g9 E _ (by simp) hD8), e9, by decide +kernel, by decide +kernel, ?_⟩
    exact cast (congrArg (fun z => Q (V.bl z) H9) (show true = _ by decide +kernel)) (q H9)

end
end Wn
namespace Wn
open PySem PySem.Spec PyProof.Rows L2
theorem all_mk {l : PySem.W.OpenLaw} {w : World} {K : PySem.W.Frag} {h : Heap} {mg : Str → Option Value} {fa : Addr} (X : K.In h) (G : h.Ns mainGlobals mg) (hfa : mg "law" = some (.ref fa))
    {f_is_integer : Addr} {oc_is_integer kV_is_integer dc_is_integer pm_is_integer cd_is_integer ct_is_integer : Value} {od_is_integer an_is_integer : Option Addr} {sl_is_integer : Array (Option Value)}
    {f_is_within : Addr} {oc_is_within kV_is_within dc_is_within pm_is_within cd_is_within ct_is_within : Value} {od_is_within an_is_within : Option Addr} {sl_is_within : Array (Option Value)}
    {f_need_base : Addr} {oc_need_base kV_need_base dc_need_base pm_need_base cd_need_base ct_need_base : Value} {od_need_base an_need_base : Option Addr} {sl_need_base : Array (Option Value)}
    {f_need_denominator : Addr} {oc_need_denominator kV_need_denominator dc_need_denominator pm_need_denominator cd_need_denominator ct_need_denominator : Value} {od_need_denominator an_need_denominator : Option Addr} {sl_need_denominator : Array (Option Value)}
    {f_need_fraction : Addr} {oc_need_fraction kV_need_fraction dc_need_fraction pm_need_fraction cd_need_fraction ct_need_fraction : Value} {od_need_fraction an_need_fraction : Option Addr} {sl_need_fraction : Array (Option Value)}
    {f_need_pure : Addr} {oc_need_pure kV_need_pure dc_need_pure pm_need_pure cd_need_pure ct_need_pure : Value} {od_need_pure an_need_pure : Option Addr} {sl_need_pure : Array (Option Value)}
    {f_need_pure_fraction : Addr} {oc_need_pure_fraction kV_need_pure_fraction dc_need_pure_fraction pm_need_pure_fraction cd_need_pure_fraction ct_need_pure_fraction : Value} {od_need_pure_fraction an_need_pure_fraction : Option Addr} {sl_need_pure_fraction : Array (Option Value)}
    {f_pure_part : Addr} {oc_pure_part kV_pure_part dc_pure_part pm_pure_part cd_pure_part ct_pure_part : Value} {od_pure_part an_pure_part : Option Addr} {sl_pure_part : Array (Option Value)}
    {f_period : Addr} {oc_period kV_period dc_period pm_period cd_period ct_period : Value} {od_period an_period : Option Addr} {sl_period : Array (Option Value)}
    {f_power_rest : Addr} {oc_power_rest kV_power_rest dc_power_rest pm_power_rest cd_power_rest ct_power_rest : Value} {od_power_rest an_power_rest : Option Addr} {sl_power_rest : Array (Option Value)}
    {f_piece_size : Addr} {oc_piece_size kV_piece_size dc_piece_size pm_piece_size cd_piece_size ct_piece_size : Value} {od_piece_size an_piece_size : Option Addr} {sl_piece_size : Array (Option Value)}
    {f_spaced : Addr} {oc_spaced kV_spaced dc_spaced pm_spaced cd_spaced ct_spaced : Value} {od_spaced an_spaced : Option Addr} {sl_spaced : Array (Option Value)}
    {f_quotient : Addr} {oc_quotient kV_quotient dc_quotient pm_quotient cd_quotient ct_quotient : Value} {od_quotient an_quotient : Option Addr} {sl_quotient : Array (Option Value)}
    {f_is_balanced_with : Addr} {oc_is_balanced_with kV_is_balanced_with dc_is_balanced_with pm_is_balanced_with cd_is_balanced_with ct_is_balanced_with : Value} {od_is_balanced_with an_is_balanced_with : Option Addr} {sl_is_balanced_with : Array (Option Value)}
    {f_is_balanced : Addr} {oc_is_balanced kV_is_balanced dc_is_balanced pm_is_balanced cd_is_balanced ct_is_balanced : Value} {od_is_balanced an_is_balanced : Option Addr} {sl_is_balanced : Array (Option Value)}
    {f_law_begun : Addr} {oc_law_begun kV_law_begun dc_law_begun pm_law_begun cd_law_begun ct_law_begun : Value} {od_law_begun an_law_begun : Option Addr} {sl_law_begun : Array (Option Value)}
    {f_law_draw : Addr} {oc_law_draw kV_law_draw dc_law_draw pm_law_draw cd_law_draw ct_law_draw : Value} {od_law_draw an_law_draw : Option Addr} {sl_law_draw : Array (Option Value)}
    {f_law_of : Addr} {oc_law_of kV_law_of dc_law_of pm_law_of cd_law_of ct_law_of : Value} {od_law_of an_law_of : Option Addr} {sl_law_of : Array (Option Value)}
    {f_law_divisor : Addr} {oc_law_divisor kV_law_divisor dc_law_divisor pm_law_divisor cd_law_divisor ct_law_divisor : Value} {od_law_divisor an_law_divisor : Option Addr} {sl_law_divisor : Array (Option Value)}
    {f_law_pure : Addr} {oc_law_pure kV_law_pure dc_law_pure pm_law_pure cd_law_pure ct_law_pure : Value} {od_law_pure an_law_pure : Option Addr} {sl_law_pure : Array (Option Value)}
    {f_law_ring : Addr} {oc_law_ring kV_law_ring dc_law_ring pm_law_ring cd_law_ring ct_law_ring : Value} {od_law_ring an_law_ring : Option Addr} {sl_law_ring : Array (Option Value)}
    {f_law_spread : Addr} {oc_law_spread kV_law_spread dc_law_spread pm_law_spread cd_law_spread ct_law_spread : Value} {od_law_spread an_law_spread : Option Addr} {sl_law_spread : Array (Option Value)}
    {f_law_worth : Addr} {oc_law_worth kV_law_worth dc_law_worth pm_law_worth cd_law_worth ct_law_worth : Value} {od_law_worth an_law_worth : Option Addr} {sl_law_worth : Array (Option Value)}
    {f_law_power : Addr} {oc_law_power kV_law_power dc_law_power pm_law_power cd_law_power ct_law_power : Value} {od_law_power an_law_power : Option Addr} {sl_law_power : Array (Option Value)}
    {f_law_splits : Addr} {oc_law_splits kV_law_splits dc_law_splits pm_law_splits cd_law_splits ct_law_splits : Value} {od_law_splits an_law_splits : Option Addr} {sl_law_splits : Array (Option Value)}
    {f_law_sliced : Addr} {oc_law_sliced kV_law_sliced dc_law_sliced pm_law_sliced cd_law_sliced ct_law_sliced : Value} {od_law_sliced an_law_sliced : Option Addr} {sl_law_sliced : Array (Option Value)}
    {f_law_tops : Addr} {oc_law_tops kV_law_tops dc_law_tops pm_law_tops cd_law_tops ct_law_tops : Value} {od_law_tops an_law_tops : Option Addr} {sl_law_tops : Array (Option Value)}
    {f_law_primes : Addr} {oc_law_primes kV_law_primes dc_law_primes pm_law_primes cd_law_primes ct_law_primes : Value} {od_law_primes an_law_primes : Option Addr} {sl_law_primes : Array (Option Value)}
    {f_law_by_primes : Addr} {oc_law_by_primes kV_law_by_primes dc_law_by_primes pm_law_by_primes cd_law_by_primes ct_law_by_primes : Value} {od_law_by_primes an_law_by_primes : Option Addr} {sl_law_by_primes : Array (Option Value)}
    {f_law_right : Addr} {oc_law_right kV_law_right dc_law_right pm_law_right cd_law_right ct_law_right : Value} {od_law_right an_law_right : Option Addr} {sl_law_right : Array (Option Value)}
    {f_law : Addr} {oc_law kV_law dc_law pm_law cd_law ct_law : Value} {od_law an_law : Option Addr} {sl_law : Array (Option Value)}
    {t_MOST_BASE : Tok}
    {t_MOST_DENOMINATOR : Tok}
    (a_is_integer : PySem.W.nsIn K mainGlobals "is_integer" = some (some (.ref f_is_integer))) (l_is_integer : K.lookup f_is_integer = some ⟨oc_is_integer, od_is_integer, .func (PySem.W.fnOf "is_integer" "is_integer" (defArgs s_is_integer) (defBody s_is_integer) (defScope s_is_integer) .none kV_is_integer dc_is_integer pm_is_integer an_is_integer cd_is_integer ct_is_integer), sl_is_integer⟩) (c_is_integer : PySem.W.codeIn K cd_is_integer "is_integer" = true) (k_is_integer : PySem.W.keepIn K (.ref f_is_integer) = true)
    (a_is_within : PySem.W.nsIn K mainGlobals "is_within" = some (some (.ref f_is_within))) (l_is_within : K.lookup f_is_within = some ⟨oc_is_within, od_is_within, .func (PySem.W.fnOf "is_within" "is_within" (defArgs s_is_within) (defBody s_is_within) (defScope s_is_within) .none kV_is_within dc_is_within pm_is_within an_is_within cd_is_within ct_is_within), sl_is_within⟩) (c_is_within : PySem.W.codeIn K cd_is_within "is_within" = true) (k_is_within : PySem.W.keepIn K (.ref f_is_within) = true)
    (a_need_base : PySem.W.nsIn K mainGlobals "need_base" = some (some (.ref f_need_base))) (l_need_base : K.lookup f_need_base = some ⟨oc_need_base, od_need_base, .func (PySem.W.fnOf "need_base" "need_base" (defArgs s_need_base) (defBody s_need_base) (defScope s_need_base) .none kV_need_base dc_need_base pm_need_base an_need_base cd_need_base ct_need_base), sl_need_base⟩) (c_need_base : PySem.W.codeIn K cd_need_base "need_base" = true) (k_need_base : PySem.W.keepIn K (.ref f_need_base) = true)
    (a_need_denominator : PySem.W.nsIn K mainGlobals "need_denominator" = some (some (.ref f_need_denominator))) (l_need_denominator : K.lookup f_need_denominator = some ⟨oc_need_denominator, od_need_denominator, .func (PySem.W.fnOf "need_denominator" "need_denominator" (defArgs s_need_denominator) (defBody s_need_denominator) (defScope s_need_denominator) .none kV_need_denominator dc_need_denominator pm_need_denominator an_need_denominator cd_need_denominator ct_need_denominator), sl_need_denominator⟩) (c_need_denominator : PySem.W.codeIn K cd_need_denominator "need_denominator" = true) (k_need_denominator : PySem.W.keepIn K (.ref f_need_denominator) = true)
    (a_need_fraction : PySem.W.nsIn K mainGlobals "need_fraction" = some (some (.ref f_need_fraction))) (l_need_fraction : K.lookup f_need_fraction = some ⟨oc_need_fraction, od_need_fraction, .func (PySem.W.fnOf "need_fraction" "need_fraction" (defArgs s_need_fraction) (defBody s_need_fraction) (defScope s_need_fraction) .none kV_need_fraction dc_need_fraction pm_need_fraction an_need_fraction cd_need_fraction ct_need_fraction), sl_need_fraction⟩) (c_need_fraction : PySem.W.codeIn K cd_need_fraction "need_fraction" = true) (k_need_fraction : PySem.W.keepIn K (.ref f_need_fraction) = true)
    (a_need_pure : PySem.W.nsIn K mainGlobals "need_pure" = some (some (.ref f_need_pure))) (l_need_pure : K.lookup f_need_pure = some ⟨oc_need_pure, od_need_pure, .func (PySem.W.fnOf "need_pure" "need_pure" (defArgs s_need_pure) (defBody s_need_pure) (defScope s_need_pure) .none kV_need_pure dc_need_pure pm_need_pure an_need_pure cd_need_pure ct_need_pure), sl_need_pure⟩) (c_need_pure : PySem.W.codeIn K cd_need_pure "need_pure" = true) (k_need_pure : PySem.W.keepIn K (.ref f_need_pure) = true)
    (a_need_pure_fraction : PySem.W.nsIn K mainGlobals "need_pure_fraction" = some (some (.ref f_need_pure_fraction))) (l_need_pure_fraction : K.lookup f_need_pure_fraction = some ⟨oc_need_pure_fraction, od_need_pure_fraction, .func (PySem.W.fnOf "need_pure_fraction" "need_pure_fraction" (defArgs s_need_pure_fraction) (defBody s_need_pure_fraction) (defScope s_need_pure_fraction) .none kV_need_pure_fraction dc_need_pure_fraction pm_need_pure_fraction an_need_pure_fraction cd_need_pure_fraction ct_need_pure_fraction), sl_need_pure_fraction⟩) (c_need_pure_fraction : PySem.W.codeIn K cd_need_pure_fraction "need_pure_fraction" = true) (k_need_pure_fraction : PySem.W.keepIn K (.ref f_need_pure_fraction) = true)
    (a_pure_part : PySem.W.nsIn K mainGlobals "pure_part" = some (some (.ref f_pure_part))) (l_pure_part : K.lookup f_pure_part = some ⟨oc_pure_part, od_pure_part, .func (PySem.W.fnOf "pure_part" "pure_part" (defArgs s_pure_part) (defBody s_pure_part) (defScope s_pure_part) .none kV_pure_part dc_pure_part pm_pure_part an_pure_part cd_pure_part ct_pure_part), sl_pure_part⟩) (c_pure_part : PySem.W.codeIn K cd_pure_part "pure_part" = true) (k_pure_part : PySem.W.keepIn K (.ref f_pure_part) = true)
    (a_period : PySem.W.nsIn K mainGlobals "period" = some (some (.ref f_period))) (l_period : K.lookup f_period = some ⟨oc_period, od_period, .func (PySem.W.fnOf "period" "period" (defArgs s_period) (defBody s_period) (defScope s_period) .none kV_period dc_period pm_period an_period cd_period ct_period), sl_period⟩) (c_period : PySem.W.codeIn K cd_period "period" = true) (k_period : PySem.W.keepIn K (.ref f_period) = true)
    (a_power_rest : PySem.W.nsIn K mainGlobals "power_rest" = some (some (.ref f_power_rest))) (l_power_rest : K.lookup f_power_rest = some ⟨oc_power_rest, od_power_rest, .func (PySem.W.fnOf "power_rest" "power_rest" (defArgs s_power_rest) (defBody s_power_rest) (defScope s_power_rest) .none kV_power_rest dc_power_rest pm_power_rest an_power_rest cd_power_rest ct_power_rest), sl_power_rest⟩) (c_power_rest : PySem.W.codeIn K cd_power_rest "power_rest" = true) (k_power_rest : PySem.W.keepIn K (.ref f_power_rest) = true)
    (a_piece_size : PySem.W.nsIn K mainGlobals "piece_size" = some (some (.ref f_piece_size))) (l_piece_size : K.lookup f_piece_size = some ⟨oc_piece_size, od_piece_size, .func (PySem.W.fnOf "piece_size" "piece_size" (defArgs s_piece_size) (defBody s_piece_size) (defScope s_piece_size) .none kV_piece_size dc_piece_size pm_piece_size an_piece_size cd_piece_size ct_piece_size), sl_piece_size⟩) (c_piece_size : PySem.W.codeIn K cd_piece_size "piece_size" = true) (k_piece_size : PySem.W.keepIn K (.ref f_piece_size) = true)
    (a_spaced : PySem.W.nsIn K mainGlobals "spaced" = some (some (.ref f_spaced))) (l_spaced : K.lookup f_spaced = some ⟨oc_spaced, od_spaced, .func (PySem.W.fnOf "spaced" "spaced" (defArgs s_spaced) (defBody s_spaced) (defScope s_spaced) .none kV_spaced dc_spaced pm_spaced an_spaced cd_spaced ct_spaced), sl_spaced⟩) (c_spaced : PySem.W.codeIn K cd_spaced "spaced" = true) (k_spaced : PySem.W.keepIn K (.ref f_spaced) = true)
    (a_quotient : PySem.W.nsIn K mainGlobals "quotient" = some (some (.ref f_quotient))) (l_quotient : K.lookup f_quotient = some ⟨oc_quotient, od_quotient, .func (PySem.W.fnOf "quotient" "quotient" (defArgs s_quotient) (defBody s_quotient) (defScope s_quotient) .none kV_quotient dc_quotient pm_quotient an_quotient cd_quotient ct_quotient), sl_quotient⟩) (c_quotient : PySem.W.codeIn K cd_quotient "quotient" = true) (k_quotient : PySem.W.keepIn K (.ref f_quotient) = true)
    (a_is_balanced_with : PySem.W.nsIn K mainGlobals "is_balanced_with" = some (some (.ref f_is_balanced_with))) (l_is_balanced_with : K.lookup f_is_balanced_with = some ⟨oc_is_balanced_with, od_is_balanced_with, .func (PySem.W.fnOf "is_balanced_with" "is_balanced_with" (defArgs s_is_balanced_with) (defBody s_is_balanced_with) (defScope s_is_balanced_with) .none kV_is_balanced_with dc_is_balanced_with pm_is_balanced_with an_is_balanced_with cd_is_balanced_with ct_is_balanced_with), sl_is_balanced_with⟩) (c_is_balanced_with : PySem.W.codeIn K cd_is_balanced_with "is_balanced_with" = true) (k_is_balanced_with : PySem.W.keepIn K (.ref f_is_balanced_with) = true)
    (a_is_balanced : PySem.W.nsIn K mainGlobals "is_balanced" = some (some (.ref f_is_balanced))) (l_is_balanced : K.lookup f_is_balanced = some ⟨oc_is_balanced, od_is_balanced, .func (PySem.W.fnOf "is_balanced" "is_balanced" (defArgs s_is_balanced) (defBody s_is_balanced) (defScope s_is_balanced) .none kV_is_balanced dc_is_balanced pm_is_balanced an_is_balanced cd_is_balanced ct_is_balanced), sl_is_balanced⟩) (c_is_balanced : PySem.W.codeIn K cd_is_balanced "is_balanced" = true) (k_is_balanced : PySem.W.keepIn K (.ref f_is_balanced) = true)
    (a_law_begun : PySem.W.nsIn K mainGlobals "_law_begun" = some (some (.ref f_law_begun))) (l_law_begun : K.lookup f_law_begun = some ⟨oc_law_begun, od_law_begun, .func (PySem.W.fnOf "_law_begun" "_law_begun" (defArgs s_law_begun) (defBody s_law_begun) (defScope s_law_begun) .none kV_law_begun dc_law_begun pm_law_begun an_law_begun cd_law_begun ct_law_begun), sl_law_begun⟩) (c_law_begun : PySem.W.codeIn K cd_law_begun "_law_begun" = true) (k_law_begun : PySem.W.keepIn K (.ref f_law_begun) = true)
    (a_law_draw : PySem.W.nsIn K mainGlobals "_law_draw" = some (some (.ref f_law_draw))) (l_law_draw : K.lookup f_law_draw = some ⟨oc_law_draw, od_law_draw, .func (PySem.W.fnOf "_law_draw" "_law_draw" (defArgs s_law_draw) (defBody s_law_draw) (defScope s_law_draw) .none kV_law_draw dc_law_draw pm_law_draw an_law_draw cd_law_draw ct_law_draw), sl_law_draw⟩) (c_law_draw : PySem.W.codeIn K cd_law_draw "_law_draw" = true) (k_law_draw : PySem.W.keepIn K (.ref f_law_draw) = true)
    (a_law_of : PySem.W.nsIn K mainGlobals "_law_of" = some (some (.ref f_law_of))) (l_law_of : K.lookup f_law_of = some ⟨oc_law_of, od_law_of, .func (PySem.W.fnOf "_law_of" "_law_of" (defArgs s_law_of) (defBody s_law_of) (defScope s_law_of) .none kV_law_of dc_law_of pm_law_of an_law_of cd_law_of ct_law_of), sl_law_of⟩) (c_law_of : PySem.W.codeIn K cd_law_of "_law_of" = true) (k_law_of : PySem.W.keepIn K (.ref f_law_of) = true)
    (a_law_divisor : PySem.W.nsIn K mainGlobals "_law_divisor" = some (some (.ref f_law_divisor))) (l_law_divisor : K.lookup f_law_divisor = some ⟨oc_law_divisor, od_law_divisor, .func (PySem.W.fnOf "_law_divisor" "_law_divisor" (defArgs s_law_divisor) (defBody s_law_divisor) (defScope s_law_divisor) .none kV_law_divisor dc_law_divisor pm_law_divisor an_law_divisor cd_law_divisor ct_law_divisor), sl_law_divisor⟩) (c_law_divisor : PySem.W.codeIn K cd_law_divisor "_law_divisor" = true) (k_law_divisor : PySem.W.keepIn K (.ref f_law_divisor) = true)
    (a_law_pure : PySem.W.nsIn K mainGlobals "_law_pure" = some (some (.ref f_law_pure))) (l_law_pure : K.lookup f_law_pure = some ⟨oc_law_pure, od_law_pure, .func (PySem.W.fnOf "_law_pure" "_law_pure" (defArgs s_law_pure) (defBody s_law_pure) (defScope s_law_pure) .none kV_law_pure dc_law_pure pm_law_pure an_law_pure cd_law_pure ct_law_pure), sl_law_pure⟩) (c_law_pure : PySem.W.codeIn K cd_law_pure "_law_pure" = true) (k_law_pure : PySem.W.keepIn K (.ref f_law_pure) = true)
    (a_law_ring : PySem.W.nsIn K mainGlobals "_law_ring" = some (some (.ref f_law_ring))) (l_law_ring : K.lookup f_law_ring = some ⟨oc_law_ring, od_law_ring, .func (PySem.W.fnOf "_law_ring" "_law_ring" (defArgs s_law_ring) (defBody s_law_ring) (defScope s_law_ring) .none kV_law_ring dc_law_ring pm_law_ring an_law_ring cd_law_ring ct_law_ring), sl_law_ring⟩) (c_law_ring : PySem.W.codeIn K cd_law_ring "_law_ring" = true) (k_law_ring : PySem.W.keepIn K (.ref f_law_ring) = true)
    (a_law_spread : PySem.W.nsIn K mainGlobals "_law_spread" = some (some (.ref f_law_spread))) (l_law_spread : K.lookup f_law_spread = some ⟨oc_law_spread, od_law_spread, .func (PySem.W.fnOf "_law_spread" "_law_spread" (defArgs s_law_spread) (defBody s_law_spread) (defScope s_law_spread) .none kV_law_spread dc_law_spread pm_law_spread an_law_spread cd_law_spread ct_law_spread), sl_law_spread⟩) (c_law_spread : PySem.W.codeIn K cd_law_spread "_law_spread" = true) (k_law_spread : PySem.W.keepIn K (.ref f_law_spread) = true)
    (a_law_worth : PySem.W.nsIn K mainGlobals "_law_worth" = some (some (.ref f_law_worth))) (l_law_worth : K.lookup f_law_worth = some ⟨oc_law_worth, od_law_worth, .func (PySem.W.fnOf "_law_worth" "_law_worth" (defArgs s_law_worth) (defBody s_law_worth) (defScope s_law_worth) .none kV_law_worth dc_law_worth pm_law_worth an_law_worth cd_law_worth ct_law_worth), sl_law_worth⟩) (c_law_worth : PySem.W.codeIn K cd_law_worth "_law_worth" = true) (k_law_worth : PySem.W.keepIn K (.ref f_law_worth) = true)
    (a_law_power : PySem.W.nsIn K mainGlobals "_law_power" = some (some (.ref f_law_power))) (l_law_power : K.lookup f_law_power = some ⟨oc_law_power, od_law_power, .func (PySem.W.fnOf "_law_power" "_law_power" (defArgs s_law_power) (defBody s_law_power) (defScope s_law_power) .none kV_law_power dc_law_power pm_law_power an_law_power cd_law_power ct_law_power), sl_law_power⟩) (c_law_power : PySem.W.codeIn K cd_law_power "_law_power" = true) (k_law_power : PySem.W.keepIn K (.ref f_law_power) = true)
    (a_law_splits : PySem.W.nsIn K mainGlobals "_law_splits" = some (some (.ref f_law_splits))) (l_law_splits : K.lookup f_law_splits = some ⟨oc_law_splits, od_law_splits, .func (PySem.W.fnOf "_law_splits" "_law_splits" (defArgs s_law_splits) (defBody s_law_splits) (defScope s_law_splits) .none kV_law_splits dc_law_splits pm_law_splits an_law_splits cd_law_splits ct_law_splits), sl_law_splits⟩) (c_law_splits : PySem.W.codeIn K cd_law_splits "_law_splits" = true) (k_law_splits : PySem.W.keepIn K (.ref f_law_splits) = true)
    (a_law_sliced : PySem.W.nsIn K mainGlobals "_law_sliced" = some (some (.ref f_law_sliced))) (l_law_sliced : K.lookup f_law_sliced = some ⟨oc_law_sliced, od_law_sliced, .func (PySem.W.fnOf "_law_sliced" "_law_sliced" (defArgs s_law_sliced) (defBody s_law_sliced) (defScope s_law_sliced) .none kV_law_sliced dc_law_sliced pm_law_sliced an_law_sliced cd_law_sliced ct_law_sliced), sl_law_sliced⟩) (c_law_sliced : PySem.W.codeIn K cd_law_sliced "_law_sliced" = true) (k_law_sliced : PySem.W.keepIn K (.ref f_law_sliced) = true)
    (a_law_tops : PySem.W.nsIn K mainGlobals "_law_tops" = some (some (.ref f_law_tops))) (l_law_tops : K.lookup f_law_tops = some ⟨oc_law_tops, od_law_tops, .func (PySem.W.fnOf "_law_tops" "_law_tops" (defArgs s_law_tops) (defBody s_law_tops) (defScope s_law_tops) .none kV_law_tops dc_law_tops pm_law_tops an_law_tops cd_law_tops ct_law_tops), sl_law_tops⟩) (c_law_tops : PySem.W.codeIn K cd_law_tops "_law_tops" = true) (k_law_tops : PySem.W.keepIn K (.ref f_law_tops) = true)
    (a_law_primes : PySem.W.nsIn K mainGlobals "_law_primes" = some (some (.ref f_law_primes))) (l_law_primes : K.lookup f_law_primes = some ⟨oc_law_primes, od_law_primes, .func (PySem.W.fnOf "_law_primes" "_law_primes" (defArgs s_law_primes) (defBody s_law_primes) (defScope s_law_primes) .none kV_law_primes dc_law_primes pm_law_primes an_law_primes cd_law_primes ct_law_primes), sl_law_primes⟩) (c_law_primes : PySem.W.codeIn K cd_law_primes "_law_primes" = true) (k_law_primes : PySem.W.keepIn K (.ref f_law_primes) = true)
    (a_law_by_primes : PySem.W.nsIn K mainGlobals "_law_by_primes" = some (some (.ref f_law_by_primes))) (l_law_by_primes : K.lookup f_law_by_primes = some ⟨oc_law_by_primes, od_law_by_primes, .func (PySem.W.fnOf "_law_by_primes" "_law_by_primes" (defArgs s_law_by_primes) (defBody s_law_by_primes) (defScope s_law_by_primes) .none kV_law_by_primes dc_law_by_primes pm_law_by_primes an_law_by_primes cd_law_by_primes ct_law_by_primes), sl_law_by_primes⟩) (c_law_by_primes : PySem.W.codeIn K cd_law_by_primes "_law_by_primes" = true) (k_law_by_primes : PySem.W.keepIn K (.ref f_law_by_primes) = true)
    (a_law_right : PySem.W.nsIn K mainGlobals "_law_right" = some (some (.ref f_law_right))) (l_law_right : K.lookup f_law_right = some ⟨oc_law_right, od_law_right, .func (PySem.W.fnOf "_law_right" "_law_right" (defArgs s_law_right) (defBody s_law_right) (defScope s_law_right) .none kV_law_right dc_law_right pm_law_right an_law_right cd_law_right ct_law_right), sl_law_right⟩) (c_law_right : PySem.W.codeIn K cd_law_right "_law_right" = true) (k_law_right : PySem.W.keepIn K (.ref f_law_right) = true)
    (a_law : PySem.W.nsIn K mainGlobals "law" = some (some (.ref f_law))) (l_law : K.lookup f_law = some ⟨oc_law, od_law, .func (PySem.W.fnOf "law" "law" (defArgs s_law) (defBody s_law) (defScope s_law) .none kV_law dc_law pm_law an_law cd_law ct_law), sl_law⟩) (c_law : PySem.W.codeIn K cd_law "law" = true) (k_law : PySem.W.keepIn K (.ref f_law) = true)
    (zb_isinstance : PySem.W.nsIn K mainGlobals "isinstance" = some none)
    (zb_int : PySem.W.nsIn K mainGlobals "int" = some none)
    (zb_bool : PySem.W.nsIn K mainGlobals "bool" = some none)
    (zb_len : PySem.W.nsIn K mainGlobals "len" = some none)
    (zb_range : PySem.W.nsIn K mainGlobals "range" = some none)
    (zb_tuple : PySem.W.nsIn K mainGlobals "tuple" = some none)
    (zb_list : PySem.W.nsIn K mainGlobals "list" = some none)
    (zb_sum : PySem.W.nsIn K mainGlobals "sum" = some none)
    (zb_min : PySem.W.nsIn K mainGlobals "min" = some none)
    (zb_gcd : PySem.W.nsIn K mainGlobals "gcd" = some (some (.builtin "math.gcd")))
    (zc_MOST_BASE : PySem.W.nsIn K mainGlobals "MOST_BASE" = some (some (.int 1000 t_MOST_BASE)))
    (zc_MOST_DENOMINATOR : PySem.W.nsIn K mainGlobals "MOST_DENOMINATOR" = some (some (.int 5000 t_MOST_DENOMINATOR)))
    : ∃ fd : FuncData, (∀ (s : Shared) (v : Value), BindsTo s fd ⟨[v], []⟩ [("script", v)]) ∧ ∀ base : Heap, K.In base → base.Ns mainGlobals mg → FnG l.prog w K mg base CX0 9 fa fd ["script"] (sp_law K) := by
  have T : Txt K mg := {
    d_is_integer := Dn.of X G (fun us hl => match us, hl with | [_], _ => rfl) a_is_integer l_is_integer c_is_integer k_is_integer
    d_is_within := Dn.of X G (fun us hl => match us, hl with | [_, _, _], _ => rfl) a_is_within l_is_within c_is_within k_is_within
    d_need_base := Dn.of X G (fun us hl => match us, hl with | [_], _ => rfl) a_need_base l_need_base c_need_base k_need_base
    d_need_denominator := Dn.of X G (fun us hl => match us, hl with | [_], _ => rfl) a_need_denominator l_need_denominator c_need_denominator k_need_denominator
    d_need_fraction := Dn.of X G (fun us hl => match us, hl with | [_], _ => rfl) a_need_fraction l_need_fraction c_need_fraction k_need_fraction
    d_need_pure := Dn.of X G (fun us hl => match us, hl with | [_, _], _ => rfl) a_need_pure l_need_pure c_need_pure k_need_pure
    d_need_pure_fraction := Dn.of X G (fun us hl => match us, hl with | [_, _], _ => rfl) a_need_pure_fraction l_need_pure_fraction c_need_pure_fraction k_need_pure_fraction
    d_pure_part := Dn.of X G (fun us hl => match us, hl with | [_, _], _ => rfl) a_pure_part l_pure_part c_pure_part k_pure_part
    d_period := Dn.of X G (fun us hl => match us, hl with | [_, _], _ => rfl) a_period l_period c_period k_period
    d_power_rest := Dn.of X G (fun us hl => match us, hl with | [_, _, _], _ => rfl) a_power_rest l_power_rest c_power_rest k_power_rest
    d_piece_size := Dn.of X G (fun us hl => match us, hl with | [_, _, _], _ => rfl) a_piece_size l_piece_size c_piece_size k_piece_size
    d_spaced := Dn.of X G (fun us hl => match us, hl with | [_, _, _, _], _ => rfl) a_spaced l_spaced c_spaced k_spaced
    d_quotient := Dn.of X G (fun us hl => match us, hl with | [_, _, _], _ => rfl) a_quotient l_quotient c_quotient k_quotient
    d_is_balanced_with := Dn.of X G (fun us hl => match us, hl with | [_, _, _, _], _ => rfl) a_is_balanced_with l_is_balanced_with c_is_balanced_with k_is_balanced_with
    d_is_balanced := Dn.of X G (fun us hl => match us, hl with | [_, _, _], _ => rfl) a_is_balanced l_is_balanced c_is_balanced k_is_balanced
    d_law_begun := Dn.of X G (fun us hl => match us, hl with | [_], _ => rfl) a_law_begun l_law_begun c_law_begun k_law_begun
    d_law_draw := Dn.of X G (fun us hl => match us, hl with | [_, _], _ => rfl) a_law_draw l_law_draw c_law_draw k_law_draw
    d_law_of := Dn.of X G (fun us hl => match us, hl with | [_, _], _ => rfl) a_law_of l_law_of c_law_of k_law_of
    d_law_divisor := Dn.of X G (fun us hl => match us, hl with | [_, _], _ => rfl) a_law_divisor l_law_divisor c_law_divisor k_law_divisor
    d_law_pure := Dn.of X G (fun us hl => match us, hl with | [_, _, _], _ => rfl) a_law_pure l_law_pure c_law_pure k_law_pure
    d_law_ring := Dn.of X G (fun us hl => match us, hl with | [_, _], _ => rfl) a_law_ring l_law_ring c_law_ring k_law_ring
    d_law_spread := Dn.of X G (fun us hl => match us, hl with | [_, _], _ => rfl) a_law_spread l_law_spread c_law_spread k_law_spread
    d_law_worth := Dn.of X G (fun us hl => match us, hl with | [_, _], _ => rfl) a_law_worth l_law_worth c_law_worth k_law_worth
    d_law_power := Dn.of X G (fun us hl => match us, hl with | [_, _], _ => rfl) a_law_power l_law_power c_law_power k_law_power
    d_law_splits := Dn.of X G (fun us hl => match us, hl with | [_, _], _ => rfl) a_law_splits l_law_splits c_law_splits k_law_splits
    d_law_sliced := Dn.of X G (fun us hl => match us, hl with | [_, _, _], _ => rfl) a_law_sliced l_law_sliced c_law_sliced k_law_sliced
    d_law_tops := Dn.of X G (fun us hl => match us, hl with | [_], _ => rfl) a_law_tops l_law_tops c_law_tops k_law_tops
    d_law_primes := Dn.of X G (fun us hl => match us, hl with | [_], _ => rfl) a_law_primes l_law_primes c_law_primes k_law_primes
    d_law_by_primes := Dn.of X G (fun us hl => match us, hl with | [_, _, _], _ => rfl) a_law_by_primes l_law_by_primes c_law_by_primes k_law_by_primes
    d_law_right := Dn.of X G (fun us hl => match us, hl with | [_, _, _, _], _ => rfl) a_law_right l_law_right c_law_right k_law_right
    d_law := Dn.of X G (fun us hl => match us, hl with | [_], _ => rfl) a_law l_law c_law k_law
    b_isinstance := PySem.W.mg_none_of X G zb_isinstance
    b_int := PySem.W.mg_none_of X G zb_int
    b_bool := PySem.W.mg_none_of X G zb_bool
    b_len := PySem.W.mg_none_of X G zb_len
    b_range := PySem.W.mg_none_of X G zb_range
    b_tuple := PySem.W.mg_none_of X G zb_tuple
    b_list := PySem.W.mg_none_of X G zb_list
    b_sum := PySem.W.mg_none_of X G zb_sum
    b_min := PySem.W.mg_none_of X G zb_min
    b_gcd := PySem.W.mg_of X G zb_gcd
    t_MOST_BASE := t_MOST_BASE
    c_MOST_BASE := PySem.W.mg_of X G zc_MOST_BASE
    t_MOST_DENOMINATOR := t_MOST_DENOMINATOR
    c_MOST_DENOMINATOR := PySem.W.mg_of X G zc_MOST_DENOMINATOR
  }
  have e := hfa.symm.trans T.d_law.m
  cases e
  exact ⟨T.d_law.fd, fun s v => .of_eq (T.d_law.e [v] rfl), fun base _ _ => okG_law T⟩
end Wn
open PySem PySem.W PyProof.Rows
set_option maxRecDepth 100000 in
set_option maxHeartbeats 0 in
theorem PySem.Challenge.cw_wheelnines_k07_whole_balance_holds : PySem.Challenge.rw_wheelnines_k07_whole_balance.Holds := by
  w_on; o_law; k_head; (case hw => w_witness2)
  k_fill
  refine Wn.walkG (l := PySem.Challenge.rw_wheelnines_k07_whole_balance) (n := 63) (k := 9) (x := "script") (sp := fun w => Wn.sp_law _) rfl (by decide) rfl ⟨rfl, by decide, by decide⟩ (fun w h Y => PySem.W.kIn_of Y) ?F (fun _ _ a ns hl _ hS => ⟨a, ns, rfl, hS, hl, fun _ => rfl⟩)
  case F =>
    intro w mg fa h KX G hmg
    refine' Wn.all_mk KX G hmg ?a_is_integer ?l_is_integer ?c_is_integer ?k_is_integer ?a_is_within ?l_is_within ?c_is_within ?k_is_within ?a_need_base ?l_need_base ?c_need_base ?k_need_base ?a_need_denominator ?l_need_denominator ?c_need_denominator ?k_need_denominator ?a_need_fraction ?l_need_fraction ?c_need_fraction ?k_need_fraction ?a_need_pure ?l_need_pure ?c_need_pure ?k_need_pure ?a_need_pure_fraction ?l_need_pure_fraction ?c_need_pure_fraction ?k_need_pure_fraction ?a_pure_part ?l_pure_part ?c_pure_part ?k_pure_part ?a_period ?l_period ?c_period ?k_period ?a_power_rest ?l_power_rest ?c_power_rest ?k_power_rest ?a_piece_size ?l_piece_size ?c_piece_size ?k_piece_size ?a_spaced ?l_spaced ?c_spaced ?k_spaced ?a_quotient ?l_quotient ?c_quotient ?k_quotient ?a_is_balanced_with ?l_is_balanced_with ?c_is_balanced_with ?k_is_balanced_with ?a_is_balanced ?l_is_balanced ?c_is_balanced ?k_is_balanced ?a_law_begun ?l_law_begun ?c_law_begun ?k_law_begun ?a_law_draw ?l_law_draw ?c_law_draw ?k_law_draw ?a_law_of ?l_law_of ?c_law_of ?k_law_of ?a_law_divisor ?l_law_divisor ?c_law_divisor ?k_law_divisor ?a_law_pure ?l_law_pure ?c_law_pure ?k_law_pure ?a_law_ring ?l_law_ring ?c_law_ring ?k_law_ring ?a_law_spread ?l_law_spread ?c_law_spread ?k_law_spread ?a_law_worth ?l_law_worth ?c_law_worth ?k_law_worth ?a_law_power ?l_law_power ?c_law_power ?k_law_power ?a_law_splits ?l_law_splits ?c_law_splits ?k_law_splits ?a_law_sliced ?l_law_sliced ?c_law_sliced ?k_law_sliced ?a_law_tops ?l_law_tops ?c_law_tops ?k_law_tops ?a_law_primes ?l_law_primes ?c_law_primes ?k_law_primes ?a_law_by_primes ?l_law_by_primes ?c_law_by_primes ?k_law_by_primes ?a_law_right ?l_law_right ?c_law_right ?k_law_right ?a_law ?l_law ?c_law ?k_law ?zb_isinstance ?zb_int ?zb_bool ?zb_len ?zb_range ?zb_tuple ?zb_list ?zb_sum ?zb_min ?zb_gcd ?zc_MOST_BASE ?zc_MOST_DENOMINATOR
    (case a_is_integer => k_is)
    (case l_is_integer => k_is)
    (case c_is_integer => k_is)
    (case k_is_integer => k_is)
    (case a_is_within => k_is)
    (case l_is_within => k_is)
    (case c_is_within => k_is)
    (case k_is_within => k_is)
    (case a_need_base => k_is)
    (case l_need_base => k_is)
    (case c_need_base => k_is)
    (case k_need_base => k_is)
    (case a_need_denominator => k_is)
    (case l_need_denominator => k_is)
    (case c_need_denominator => k_is)
    (case k_need_denominator => k_is)
    (case a_need_fraction => k_is)
    (case l_need_fraction => k_is)
    (case c_need_fraction => k_is)
    (case k_need_fraction => k_is)
    (case a_need_pure => k_is)
    (case l_need_pure => k_is)
    (case c_need_pure => k_is)
    (case k_need_pure => k_is)
    (case a_need_pure_fraction => k_is)
    (case l_need_pure_fraction => k_is)
    (case c_need_pure_fraction => k_is)
    (case k_need_pure_fraction => k_is)
    (case a_pure_part => k_is)
    (case l_pure_part => k_is)
    (case c_pure_part => k_is)
    (case k_pure_part => k_is)
    (case a_period => k_is)
    (case l_period => k_is)
    (case c_period => k_is)
    (case k_period => k_is)
    (case a_power_rest => k_is)
    (case l_power_rest => k_is)
    (case c_power_rest => k_is)
    (case k_power_rest => k_is)
    (case a_piece_size => k_is)
    (case l_piece_size => k_is)
    (case c_piece_size => k_is)
    (case k_piece_size => k_is)
    (case a_spaced => k_is)
    (case l_spaced => k_is)
    (case c_spaced => k_is)
    (case k_spaced => k_is)
    (case a_quotient => k_is)
    (case l_quotient => k_is)
    (case c_quotient => k_is)
    (case k_quotient => k_is)
    (case a_is_balanced_with => k_is)
    (case l_is_balanced_with => k_is)
    (case c_is_balanced_with => k_is)
    (case k_is_balanced_with => k_is)
    (case a_is_balanced => k_is)
    (case l_is_balanced => k_is)
    (case c_is_balanced => k_is)
    (case k_is_balanced => k_is)
    (case a_law_begun => k_is)
    (case l_law_begun => k_is)
    (case c_law_begun => k_is)
    (case k_law_begun => k_is)
    (case a_law_draw => k_is)
    (case l_law_draw => k_is)
    (case c_law_draw => k_is)
    (case k_law_draw => k_is)
    (case a_law_of => k_is)
    (case l_law_of => k_is)
    (case c_law_of => k_is)
    (case k_law_of => k_is)
    (case a_law_divisor => k_is)
    (case l_law_divisor => k_is)
    (case c_law_divisor => k_is)
    (case k_law_divisor => k_is)
    (case a_law_pure => k_is)
    (case l_law_pure => k_is)
    (case c_law_pure => k_is)
    (case k_law_pure => k_is)
    (case a_law_ring => k_is)
    (case l_law_ring => k_is)
    (case c_law_ring => k_is)
    (case k_law_ring => k_is)
    (case a_law_spread => k_is)
    (case l_law_spread => k_is)
    (case c_law_spread => k_is)
    (case k_law_spread => k_is)
    (case a_law_worth => k_is)
    (case l_law_worth => k_is)
    (case c_law_worth => k_is)
    (case k_law_worth => k_is)
    (case a_law_power => k_is)
    (case l_law_power => k_is)
    (case c_law_power => k_is)
    (case k_law_power => k_is)
    (case a_law_splits => k_is)
    (case l_law_splits => k_is)
    (case c_law_splits => k_is)
    (case k_law_splits => k_is)
    (case a_law_sliced => k_is)
    (case l_law_sliced => k_is)
    (case c_law_sliced => k_is)
    (case k_law_sliced => k_is)
    (case a_law_tops => k_is)
    (case l_law_tops => k_is)
    (case c_law_tops => k_is)
    (case k_law_tops => k_is)
    (case a_law_primes => k_is)
    (case l_law_primes => k_is)
    (case c_law_primes => k_is)
    (case k_law_primes => k_is)
    (case a_law_by_primes => k_is)
    (case l_law_by_primes => k_is)
    (case c_law_by_primes => k_is)
    (case k_law_by_primes => k_is)
    (case a_law_right => k_is)
    (case l_law_right => k_is)
    (case c_law_right => k_is)
    (case k_law_right => k_is)
    (case a_law => k_is)
    (case l_law => k_is)
    (case c_law => k_is)
    (case k_law => k_is)
    (case zb_isinstance => k_is)
    (case zb_int => k_is)
    (case zb_bool => k_is)
    (case zb_len => k_is)
    (case zb_range => k_is)
    (case zb_tuple => k_is)
    (case zb_list => k_is)
    (case zb_sum => k_is)
    (case zb_min => k_is)
    (case zb_gcd => k_is)
    (case zc_MOST_BASE => k_is)
    (case zc_MOST_DENOMINATOR => k_is)
