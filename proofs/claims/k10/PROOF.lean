import PyProof.Rows.All
import Wide.All
import OpenK.AllK
import Wide.FinOn
import HandS.ForMost
import HandS.Wide
import HandS.Gcd
import HandS.IsInst
import HandS.TupAny
import HandS.Style
import PyProof.ReprBulk
import PyProof.ReprRoads
import PyProof.ReprLen
import PyProof.Rows.SumAny
import PyProof.WalksMore
import HandS.SetFor
import HandS.Strs
import HandS.TupMul
import HandS.ListItems
import HandS.SortRule
import KE.KExcInit
import HandS.ExcInit
import HandS.ExcValue
import HandS.ExcField
import HandS.ExcIs
import HandS.ClsMeth
import KE.KExcIs
import KE.KTryMore
import HandS.TryMany
import HandS.Lambda
import KE.KDflt
import HandS.EndTab
import KE.KExcLine
import HandS.WordsExc
import HandS.Keys
import KE.RegKIsAll
import PySem.Challenge.RW_wheelnines_k10_whole_quotients
set_option Elab.async false
set_option linter.all false
set_option maxRecDepth 100000
set_option maxHeartbeats 4000000
namespace Wn
open PySem PySem.Spec PyProof.Rows L2
/-! a def of the text as it stands: where, its facts, its name -/
structure Dn (K : PySem.W.Frag) (mg : Str → Option Value) (x : Str) (st : Stmt) (ps : List Str) where
  f : Addr
  fd : FuncData
  F : Fun K x x st f fd
  e : ∀ us : List Value, us.length = ps.length → bindArgs fd ⟨us, []⟩ = pure (ps.zip us)
  m : mg x = some (.ref f)
theorem Dn.b {K : PySem.W.Frag} {mg : Str → Option Value} {x : Str} {st : Stmt} {ps : List Str} (D : Dn K mg x st ps) : Binds K D.fd ps [] := .all D.e
def Dn.of {K : PySem.W.Frag} {h : Heap} {mg : Str → Option Value} {x : Str} {st : Stmt} {ps : List Str} {f : Addr} {oc kV doc pm cdv ct : Value} {od an : Option Addr} {osl : Array (Option Value)} (X : K.In h) (G : h.Ns mainGlobals mg)
    (hb : ∀ us : List Value, us.length = ps.length → bindArgs (PySem.W.fnOf x x (defArgs st) (defBody st) (defScope st) .none kV doc pm an cdv ct) ⟨us, []⟩ = pure (ps.zip us))
    (a : PySem.W.nsIn K mainGlobals x = some (some (.ref f))) (l : K.lookup f = some ⟨oc, od, .func (PySem.W.fnOf x x (defArgs st) (defBody st) (defScope st) .none kV doc pm an cdv ct), osl⟩)
    (c : PySem.W.codeIn K cdv x = true) (k : PySem.W.keepIn K (.ref f) = true) : Dn K mg x st ps := ⟨f, _, fun_mk l c k, hb, PySem.W.mg_of X G a⟩
/-! all that stood stands, but what is at W -/
def Gr (W : List Addr) (H H' : Hp) : Prop := ∀ a o, a ∉ W → H a = some o → H' a = some o
theorem Gr.refl (W : List Addr) (H : Hp) : Gr W H H := fun _ _ _ h => h
theorem Gr.trans {W : List Addr} {H H1 H2 : Hp} (a : Gr W H H1) (b : Gr W H1 H2) : Gr W H H2 := fun x o n h => b x o n (a x o n h)
theorem Gr.new {W : List Addr} {H : Hp} {p : Addr} {o : HO} (h : H p = none) : Gr W H (upd H p o) := fun a u _ e => by
  rw [upd_ne (ne_of_none e h)]
  exact e
theorem Gr.wr {W : List Addr} {H : Hp} {p : Addr} {o : HO} (h : p ∈ W) : Gr W H (upd H p o) := fun a u n e => by
  have z : a ≠ p := fun z => by
    subst z
    exact n h
  rw [upd_ne z]
  exact e
theorem Gr.mono {W W' : List Addr} {H H' : Hp} (h : ∀ a, a ∈ W → a ∈ W') (g : Gr W H H') : Gr W' H H' := fun a o n e => g a o (fun z => n (h a z)) e
end Wn
/-! the mathematics: powers, remainders, pure parts, periods, heads -/
namespace Wn
theorem cop_pow {a b : Nat} (h : Nat.gcd a b = 1) (k : Nat) : Nat.gcd (a ^ k) b = 1 := Nat.Coprime.pow_left k h
theorem mod_iff {p a c : Nat} (h : a ≤ c) : a % p = c % p ↔ p ∣ c - a := by
  constructor
  · intro e
    exact Nat.dvd_of_mod_eq_zero (Nat.sub_mod_eq_zero_of_mod_eq e.symm)
  · rintro ⟨t, e⟩
    have : c = a + p * t := by omega
    rw [this, Nat.add_mul_mod_self_left]
/-! a pigeonhole -/
theorem nodup_le : ∀ (n : Nat) (l : List Nat), l.Nodup → (∀ x ∈ l, x < n) → l.length ≤ n := by
  intro n
  induction n with
  | zero =>
    intro l _ h
    cases l with
    | nil => exact Nat.le_refl _
    | cons x r => exact absurd (h x (List.mem_cons_self ..)) (Nat.not_lt_zero _)
  | succ n ih =>
    intro l nd h
    have h1 := ih (l.erase n) (nd.erase n) (fun x hx => by
      have hm := List.mem_of_mem_erase hx
      have hlt := h x hm
      have hne : x ≠ n := fun e => by
        subst e
        exact (List.Nodup.not_mem_erase nd) hx
      omega)
    by_cases hn : n ∈ l
    · rw [List.length_erase_of_mem hn] at h1
      omega
    · rw [List.erase_of_not_mem hn] at h1
      omega
/-- among n + 1 numbers below n two are the same -/
theorem pigeon (n : Nat) (f : Nat → Nat) (h : ∀ i, i ≤ n → f i < n) : ∃ i j, i < j ∧ j ≤ n ∧ f i = f j := by
  by_cases nd : ((List.range (n + 1)).map f).Nodup
  · have := nodup_le n _ nd (fun x hx => by
      obtain ⟨i, hi, e⟩ := List.mem_map.mp hx
      rw [← e]
      exact h i (by have := List.mem_range.mp hi; omega))
    rw [List.length_map, List.length_range] at this
    omega
  · rw [List.nodup_iff_pairwise_ne, List.pairwise_map] at nd
    apply Classical.byContradiction
    intro hc
    apply nd
    rw [List.pairwise_iff_getElem]
    intro i j hi hj hij e
    rw [List.getElem_range, List.getElem_range] at e
    rw [List.length_range] at hj
    exact hc ⟨i, j, hij, by omega, e⟩
/-! pure parts -/
def IsPure (b n p : Nat) : Prop := Nat.gcd b p = 1 ∧ ∃ q k, n = p * q ∧ q ∣ b ^ k
theorem cop_of_dvd_pow {b p q k : Nat} (h : Nat.gcd b p = 1) (hq : q ∣ b ^ k) : Nat.gcd p q = 1 := by
  have h1 : Nat.gcd (b ^ k) p = 1 := cop_pow h k
  have h2 : Nat.gcd p q ∣ Nat.gcd (b ^ k) p := Nat.dvd_gcd (Nat.dvd_trans (Nat.gcd_dvd_right p q) hq) (Nat.gcd_dvd_left p q)
  rw [h1] at h2
  exact Nat.dvd_one.mp h2
theorem IsPure.dvd {b n p p' : Nat} (h : IsPure b n p) (h' : IsPure b n p') : p ∣ p' := by
  obtain ⟨g, q, k, e, hq⟩ := h
  obtain ⟨g', q', k', e', hq'⟩ := h'
  have c : Nat.Coprime p q' := cop_of_dvd_pow g hq'
  refine c.dvd_of_dvd_mul_right ?_
  rw [← e', e]
  exact Nat.dvd_mul_right p q
theorem IsPure.uniq {b n p p' : Nat} (h : IsPure b n p) (h' : IsPure b n p') : p = p' := Nat.dvd_antisymm (h.dvd h') (h'.dvd h)
theorem IsPure.self {b n : Nat} (h : Nat.gcd b n = 1) : IsPure b n n := ⟨h, 1, 0, by simp, by simp⟩
/-! periods -/
def IsPer (b p d : Nat) : Prop := 1 ≤ d ∧ b ^ d % p = 1 % p ∧ ∀ j, 1 ≤ j → j < d → b ^ j % p ≠ 1 % p
theorem IsPer.uniq {b p d d' : Nat} (h : IsPer b p d) (h' : IsPer b p d') : d = d' := by
  obtain ⟨h1, h2, h3⟩ := h
  obtain ⟨g1, g2, g3⟩ := h'
  apply Nat.le_antisymm
  · apply Nat.le_of_not_lt
    intro l
    exact h3 d' g1 l g2
  · apply Nat.le_of_not_lt
    intro l
    exact g3 d h1 l h2
theorem least (P : Nat → Prop) [DecidablePred P] : ∀ n, P n → ∃ m, m ≤ n ∧ P m ∧ ∀ j, j < m → ¬ P j := by
  intro n
  induction n using Nat.strongRecOn with
  | _ n ih =>
    intro hn
    by_cases h : ∃ j, j < n ∧ P j
    · obtain ⟨j, hj, pj⟩ := h
      obtain ⟨m, hm, pm, q⟩ := ih j hj pj
      exact ⟨m, by omega, pm, q⟩
    · exact ⟨n, Nat.le_refl _, hn, fun j hj pj => h ⟨j, hj, pj⟩⟩
/-- a common factor that is pure may go: b ^ i * c ≡ b ^ i * d -/
theorem mod_cancel {p a c d : Nat} (g : Nat.gcd a p = 1) (h : a * c % p = a * d % p) : c % p = d % p := by
  have key : ∀ {c d : Nat}, c ≤ d → a * c % p = a * d % p → c % p = d % p := by
    intro c d hcd h
    have h1 : p ∣ a * (d - c) := by
      rw [Nat.mul_sub]
      exact (mod_iff (Nat.mul_le_mul_left a hcd)).mp h
    have h2 : p ∣ d - c := Nat.Coprime.dvd_of_dvd_mul_left (Nat.Coprime.symm g) h1
    exact (mod_iff hcd).mpr h2
  rcases Nat.le_total c d with l | l
  · exact key l h
  · exact (key l h.symm).symm
theorem per_exists {b p : Nat} (hp : 1 ≤ p) (g : Nat.gcd b p = 1) : ∃ d, d ≤ p ∧ IsPer b p d := by
  obtain ⟨i, j, hij, hj, e⟩ := pigeon p (fun k => b ^ k % p) (fun i _ => Nat.mod_lt _ hp)
  have e1 : b ^ (j - i) % p = 1 % p := by
    have e' : b ^ i * b ^ (j - i) % p = b ^ i * 1 % p := by
      rw [← Nat.pow_add, show i + (j - i) = j by omega, Nat.mul_one]
      exact e.symm
    exact mod_cancel (cop_pow g i) e'
  obtain ⟨m, hm, ⟨pm1, pm⟩, q⟩ := least (fun k => 1 ≤ k ∧ b ^ k % p = 1 % p) (j - i) ⟨by omega, e1⟩
  exact ⟨m, by omega, pm1, pm, fun k k1 kl z => q k kl ⟨k1, z⟩⟩
theorem pow_mod_step (b p k : Nat) : b ^ k % p * b % p = b ^ (k + 1) % p := by
  rw [Nat.mod_mul_mod, Nat.pow_succ]
theorem IsPer.mul {b p d : Nat} (h : IsPer b p d) (k : Nat) : b ^ (d * k) % p = 1 % p := by
  induction k with
  | zero => simp
  | succ k ih =>
    rw [Nat.mul_succ, Nat.pow_add, Nat.mul_mod, ih, h.2.1, ← Nat.mul_mod, Nat.mul_one]
theorem IsPer.iff {b p d : Nat} (h : IsPer b p d) (k : Nat) : b ^ k % p = 1 % p ↔ d ∣ k := by
  have e : b ^ k % p = b ^ (k % d) % p := by
    have := Nat.div_add_mod k d
    rw [show b ^ k = b ^ (d * (k / d) + k % d) by rw [this], Nat.pow_add, Nat.mul_mod, h.mul, ← Nat.mul_mod, Nat.one_mul]
  constructor
  · intro hk
    rw [e] at hk
    apply Nat.dvd_of_mod_eq_zero
    apply Classical.byContradiction
    intro hz
    exact h.2.2 (k % d) (by omega) (Nat.mod_lt _ h.1) hk
  · rintro ⟨m, rfl⟩
    exact h.mul m
/-! heads -/
def IsHead (b q h : Nat) : Prop := b ^ h % q = 0 ∧ ∀ j, j < h → b ^ j % q ≠ 0
theorem IsHead.uniq {b q h h' : Nat} (a : IsHead b q h) (c : IsHead b q h') : h = h' := by
  apply Nat.le_antisymm
  · apply Nat.le_of_not_lt
    intro l
    exact a.2 h' l c.1
  · apply Nat.le_of_not_lt
    intro l
    exact c.2 h l a.1
theorem head_exists {b q k : Nat} (h : q ∣ b ^ k) : ∃ m, m ≤ k ∧ IsHead b q m := by
  obtain ⟨m, hm, pm, r⟩ := least (fun j => b ^ j % q = 0) k (Nat.mod_eq_zero_of_dvd h)
  exact ⟨m, hm, pm, r⟩
theorem IsHead.iff {b q h : Nat} (a : IsHead b q h) (k : Nat) : q ∣ b ^ k ↔ h ≤ k := by
  constructor
  · intro d
    apply Nat.le_of_not_lt
    intro l
    exact a.2 k l (Nat.mod_eq_zero_of_dvd d)
  · intro l
    have d : q ∣ b ^ h := Nat.dvd_of_mod_eq_zero a.1
    rw [show k = h + (k - h) by omega, Nat.pow_add]
    exact Nat.dvd_trans d (Nat.dvd_mul_right _ _)
theorem head_le {b q h : Nat} (hq : 1 ≤ q) (a : IsHead b q h) : h ≤ q := by
  apply Nat.le_of_not_lt
  intro l
  -- among the first q + 1 remainders two are the same: then none is nought behind
  obtain ⟨i, j, hij, hj, e⟩ := pigeon q (fun k => b ^ k % q) (fun i _ => Nat.mod_lt _ hq)
  have key : ∀ k, b ^ (i + k) % q = b ^ (j + k) % q := by
    intro k
    rw [Nat.pow_add, Nat.pow_add, Nat.mul_mod, e, ← Nat.mul_mod]
  have hz : b ^ (j + (h - j)) % q = 0 := by
    rw [show j + (h - j) = h by omega]
    exact a.1
  rw [← key] at hz
  exact a.2 (i + (h - j)) (by omega) hz
/-! remainders -/
def rem (b n x i : Nat) : Nat := x * b ^ i % n
theorem rem_lt {b n x i : Nat} (h : 1 ≤ n) : rem b n x i < n := Nat.mod_lt _ h
theorem rem_succ (b n x i : Nat) : rem b n x i * b % n = rem b n x (i + 1) := by
  unfold rem
  rw [Nat.mod_mul_mod, Nat.pow_succ, Nat.mul_assoc]
theorem rem_zero {b n x : Nat} (h : x < n) : rem b n x 0 = x := by
  unfold rem
  rw [Nat.pow_zero, Nat.mul_one, Nat.mod_eq_of_lt h]
/-- THE RING: when remainders come again -/
theorem rem_eq {b n x p q h L i j : Nat} (gx : Nat.gcd x n = 1) (e : n = p * q) (gp : Nat.gcd b p = 1) (gq : Nat.gcd p q = 1) (hh : IsHead b q h) (hL : IsPer b p L) (hij : i < j) :
    rem b n x i = rem b n x j ↔ h ≤ i ∧ L ∣ j - i := by
  have hle : b ^ i ≤ b ^ j ∨ b = 0 := by
    rcases Nat.eq_zero_or_pos b with z | z
    · exact .inr z
    · exact .inl (Nat.pow_le_pow_right z (Nat.le_of_lt hij))
  have hs : b ^ j = b ^ i * b ^ (j - i) := by rw [← Nat.pow_add, show i + (j - i) = j by omega]
  unfold rem
  constructor
  · intro hr
    have h1 : b ^ i % n = b ^ j % n := mod_cancel gx hr
    have hp : b ^ i % p = b ^ j % p := by
      have := congrArg (· % p) h1
      rw [e, Nat.mod_mul_right_mod, Nat.mod_mul_right_mod] at this
      exact this
    have hq : b ^ i % q = b ^ j % q := by
      have := congrArg (· % q) h1
      rw [e, Nat.mod_mul_left_mod, Nat.mod_mul_left_mod] at this
      exact this
    have dL : L ∣ j - i := by
      rw [← hL.iff]
      refine mod_cancel (cop_pow gp i) ?_
      rw [← hs, Nat.mul_one]
      exact hp.symm
    refine ⟨?_, dL⟩
    rw [← hh.iff]
    -- q divides b ^ i * (b ^ (j - i) - 1), and b ^ (j - i) is a multiple that goes on: take many turns
    have key : ∀ k, b ^ i % q = b ^ (i + (j - i) * k) % q := by
      intro k
      induction k with
      | zero => simp
      | succ k ih =>
        rw [show i + (j - i) * (k + 1) = (j - i) + (i + (j - i) * k) by rw [Nat.mul_succ]; omega, Nat.pow_add, Nat.mul_mod, ← ih, ← Nat.mul_mod, ← Nat.pow_add, show (j - i) + i = j by omega]
        exact hq
    have hz : b ^ (i + (j - i) * h) % q = 0 := by
      apply Nat.mod_eq_zero_of_dvd
      rw [hh.iff]
      have : h ≤ (j - i) * h := Nat.le_mul_of_pos_left h (by omega)
      omega
    exact Nat.dvd_of_mod_eq_zero ((key h).trans hz)
  · rintro ⟨h1, h2⟩
    have hp : b ^ (j - i) % p = 1 % p := (hL.iff _).mpr h2
    have hqd : q ∣ b ^ i := (hh.iff i).mpr h1
    have hpd : b ^ i % p = b ^ j % p := by
      rw [hs, Nat.mul_mod, hp, ← Nat.mul_mod, Nat.mul_one]
    have both : b ^ i % n = b ^ j % n := by
      rcases hle with hle | hb
      · apply (mod_iff hle).mpr
        rw [e]
        refine Nat.Coprime.mul_dvd_of_dvd_of_dvd gq ?_ ?_
        · exact (mod_iff hle).mp hpd
        · rw [hs, ← Nat.mul_sub_one]
          exact Nat.dvd_trans hqd (Nat.dvd_mul_right _ _)
      · subst hb
        have hp1 : p = 1 := by rw [Nat.gcd_zero_left] at gp; exact gp
        subst hp1
        rw [Nat.one_mul] at e
        subst e
        rw [Nat.mod_eq_zero_of_dvd hqd, Nat.mod_eq_zero_of_dvd (by rw [hs]; exact Nat.dvd_trans hqd (Nat.dvd_mul_right _ _))]
    rw [Nat.mul_mod, both, ← Nat.mul_mod]
/-! all of a denominator in a base -/
structure Par (b n p q h L : Nat) : Prop where
  hp : IsPure b n p
  e : n = p * q
  hh : IsHead b q h
  hL : IsPer b p L
theorem pure_exists (b : Nat) : ∀ n, 1 ≤ n → ∃ p, IsPure b n p := by
  intro n
  induction n using Nat.strongRecOn with
  | _ n ih =>
    intro hn
    by_cases g : Nat.gcd b n = 1
    · exact ⟨n, IsPure.self g⟩
    · obtain ⟨c, hc⟩ := Nat.gcd_dvd_right b n
      have hg : 1 ≤ Nat.gcd b n := Nat.gcd_pos_of_pos_right b hn
      have hc1 : 1 ≤ c := by
        rcases Nat.eq_zero_or_pos c with z | z
        · rw [z] at hc
          omega
        · exact z
      have hcn : c < n := by
        have hg2 : 2 ≤ Nat.gcd b n := by omega
        have : 2 * c ≤ Nat.gcd b n * c := Nat.mul_le_mul_right c hg2
        omega
      obtain ⟨p, hp, q, k, e, d⟩ := ih c hcn hc1
      refine ⟨p, hp, Nat.gcd b n * q, k + 1, ?_, ?_⟩
      · conv => lhs; rw [hc, e]
        rw [Nat.mul_left_comm]
      · rw [Nat.pow_succ, Nat.mul_comm (b ^ k) b]
        exact Nat.mul_dvd_mul (Nat.gcd_dvd_left b n) d
theorem par_exists {b n : Nat} (hn : 1 ≤ n) : ∃ p q h L, Par b n p q h L := by
  obtain ⟨p, hp⟩ := pure_exists b n hn
  obtain ⟨g, q, k, e, d⟩ := id hp
  obtain ⟨h, _, hh⟩ := head_exists d
  have hp1 : 1 ≤ p := by
    rcases Nat.eq_zero_or_pos p with z | z
    · rw [z] at e
      omega
    · exact z
  obtain ⟨L, _, hL⟩ := per_exists hp1 g
  exact ⟨p, q, h, L, hp, e, hh, hL⟩
section
variable {b n p q h L : Nat}
theorem Par.p1 (P : Par b n p q h L) (hn : 1 ≤ n) : 1 ≤ p := by
  rcases Nat.eq_zero_or_pos p with z | z
  · have := P.e
    rw [z] at this
    omega
  · exact z
theorem Par.q1 (P : Par b n p q h L) (hn : 1 ≤ n) : 1 ≤ q := by
  rcases Nat.eq_zero_or_pos q with z | z
  · have := P.e
    rw [z] at this
    omega
  · exact z
theorem Par.pn (P : Par b n p q h L) (hn : 1 ≤ n) : p ≤ n := Nat.le_of_dvd hn ⟨q, P.e⟩
theorem Par.qn (P : Par b n p q h L) (hn : 1 ≤ n) : q ≤ n := Nat.le_of_dvd hn ⟨p, by rw [P.e, Nat.mul_comm]⟩
theorem Par.Ln (P : Par b n p q h L) (hn : 1 ≤ n) : L ≤ n := by
  obtain ⟨d, hd, hd'⟩ := per_exists (P.p1 hn) P.hp.1
  have := hd'.uniq P.hL
  have := P.pn hn
  omega
theorem Par.hn (P : Par b n p q h L) (hn : 1 ≤ n) : h ≤ n := Nat.le_trans (head_le (P.q1 hn) P.hh) (P.qn hn)
theorem Par.gq (P : Par b n p q h L) (hn : 1 ≤ n) : Nat.gcd p q = 1 := by
  obtain ⟨g, q', k, e, d⟩ := P.hp
  have : q' = q := by
    have := P.e
    rw [e] at this
    exact Nat.eq_of_mul_eq_mul_left (P.p1 hn) this
  subst this
  exact cop_of_dvd_pow g d
/-- the end of a row of remainders -/
theorem ring_end {x i j : Nat} (P : Par b n p q h L) (hn : 1 ≤ n) (gx : Nat.gcd x n = 1) (hd : ∀ u v, u < v → v < i → rem b n x u ≠ rem b n x v) (hj : j < i) (e : rem b n x j = rem b n x i) : i = h + L ∧ j = h := by
  have F := fun {u v : Nat} (l : u < v) => rem_eq (x := x) gx P.e P.hp.1 (P.gq hn) P.hh P.hL l
  obtain ⟨h1, h2⟩ := (F hj).mp e
  have hL1 := P.hL.1
  have hle := Nat.le_of_dvd (by omega) h2
  have hi : i ≤ h + L := by
    apply Nat.le_of_not_lt
    intro l
    exact hd h (h + L) (by omega) l ((F (by omega)).mpr ⟨Nat.le_refl _, by rw [show h + L - h = L by omega]; exact Nat.dvd_refl _⟩)
  omega
end
end Wn
namespace Wn
open PySem PySem.Spec PyProof.Rows L2
theorem CallR.imp {X : Cx} {f : Value} {r r' : List V → Hp → VK → Prop} (h : CallR X f r) (i : ∀ vs H Q, r' vs H Q → r vs H Q) : CallR X f r' :=
  fun pins s σ H vs us Q I rv x => h pins s σ H vs us Q I rv (i _ _ _ x)
/-! the built-in type of a value -/
def isB (T n : String) : Bool := T == n || (T == "bool" && n == "int")
def tyNames : List String := ["NoneType", "bool", "int", "str", "list", "tuple", "dict"]
def qyNames : List String := ["bool", "int", "str", "list", "tuple", "dict"]
theorem isB_ok : ∀ T ∈ tyNames, ∀ n ∈ qyNames, kitB T n = some (isB T n) := by decide +kernel
def rIs (K : PySem.W.Frag) : List V → Hp → VK → Prop := fun xs H Q => ∃ (x : V) (n : String), xs = [x, .ty n] ∧ ∃ T : String, (TyX K H x (.type T) ∧ T ∈ tyNames ∧ n ∈ qyNames) ∧ Q (.bl (isB T n)) H
theorem call_is {X : Cx} : CallR X (.builtin "isinstance") (rIs X.K) := CallR.imp call_isi fun vs H Q h => by
  obtain ⟨x, n, e, T, ⟨h1, h2, h3⟩, q⟩ := h
  exact ⟨x, .ty n, .type T, .type n, isB T n, e, .ty n, h1, kit_ty (isB_ok T h2 n h3), q⟩
theorem ty_int {K : PySem.W.Frag} {H : Hp} {i : Int} : TyX K H (.int i) (.type "int") := .base (.int i)
theorem ty_tup {K : PySem.W.Frag} {H : Hp} {a : Addr} {xs : List V} (h : H a = some (.tup xs)) : TyX K H (.ref a) (.type "tuple") := .base (.tup h)
theorem cxK {CX : CXT} {P : Program} {w : World} {K : PySem.W.Frag} {mg : Str → Option Value} {base : Heap} {N : List Str} {q : Str} {sc : Scope} {f : Addr} {cdv : Value} {A : Around} {outer : List Env} {s : Shared} {H : Hp} {E : XK} :
    (cxOf CX P w K mg base N q sc f cdv A outer s H E).nox.K = K := rfl
theorem cxK2 {CX : CXT} {P : Program} {w : World} {K : PySem.W.Frag} {mg : Str → Option Value} {base : Heap} {N : List Str} {q : Str} {sc : Scope} {f : Addr} {cdv : Value} {A : Around} {outer : List Env} {s : Shared} {H : Hp} {E : XK} :
    (cxOf CX P w K mg base N q sc f cdv A outer s H E).K = K := rfl
theorem start1 (x : Str) (N : List Str) (v : V) (vs : List V) : L2.start (x :: N) (v :: vs) = some v :: L2.start N vs := by
  unfold L2.start
  simp
theorem start2 (x : Str) (N : List Str) : L2.start (x :: N) [] = none :: L2.start N [] := by
  unfold L2.start
  simp [List.replicate_succ]
theorem start3 : L2.start [] [] = [] := rfl
theorem sq_tup {K : PySem.W.Frag} {H : Hp} {a : Addr} {xs : List V} (h : H a = some (.tup xs)) : SqT K H a xs := .inl (.inl h)
theorem sq_lst {K : PySem.W.Frag} {H : Hp} {a : Addr} {xs : List V} (h : H a = some (.lst xs)) : SqL K H a xs := .inl (.inl h)
theorem slA_of {K : PySem.W.Frag} {H : Hp} {a : Addr} {xs : List V} {lo hi : Option Int} {Q : VK} (h : H a = some (.tup xs)) (q : ∀ p H', Gr [] H H' → H' p = some (.tup (cutV xs lo hi)) → Q (.ref p) H') : rSlA K (.ref a) lo hi H Q := by
  refine ⟨a, xs, rfl, sq_tup h, ?_, ?_⟩
  · intro e
    refine q a H (Gr.refl _ _) ?_
    have z : cutV xs lo hi = xs := by
      unfold cutV
      rw [e.1, e.2, List.drop_zero, Nat.sub_zero, List.take_length]
    rw [z]
    exact h
  · intro _ p np
    exact q p _ (Gr.new np) upd_same
def rLn (K : PySem.W.Frag) : List V → Hp → VK → Prop := fun xs H Q => ∃ p ys, xs = [.ref p] ∧ (SqL K H p ys ∨ SqT K H p ys) ∧ Q (.int ys.length) H
theorem call_ln {X : Cx} : CallR X (.builtin "len") (rLn X.K) := call_len_seq
def rLsO (K : PySem.W.Frag) : List V → Hp → VK → Prop := fun xs H Q => ∃ p ys, xs = [.ref p] ∧ (SqL K H p ys ∨ SqT K H p ys) ∧ ∀ l, H l = none → Q (.ref l) (upd H l (.lst ys))
theorem call_lsO {X : Cx} : CallR X (.type "list") (rLsO X.K) := call_list_of
def rTpO (K : PySem.W.Frag) : List V → Hp → VK → Prop := fun xs H Q => ∃ p ys, xs = [.ref p] ∧ ((SqL K H p ys ∧ ∀ l, H l = none → Q (.ref l) (upd H l (.tup ys))) ∨ (SqT K H p ys ∧ Q (.ref p) H))
theorem call_tpO {X : Cx} : CallR X (.type "tuple") (rTpO X.K) := call_tuple_of
theorem cut_lo {xs : List V} {k : Nat} (h : k ≤ xs.length) : cutV xs none (some (k : Int)) = xs.take k := by
  unfold cutV
  rw [HT.sIx_nat, HT.sIx_none, List.drop_zero, Nat.sub_zero, Nat.min_eq_left h]
theorem cut_hi {xs : List V} {k : Nat} (h : k ≤ xs.length) : cutV xs (some (k : Int)) none = xs.drop k := by
  unfold cutV
  rw [HT.sIx_nat, HT.sIx_none, Nat.min_eq_left h]
  exact List.take_of_length_le (by rw [List.length_drop]; omega)
theorem icm (a b n : Nat) : (a : Int) * (b : Int) % (n : Int) = ((a * b % n : Nat) : Int) := by
  rw [← Int.natCast_mul, ← Int.natCast_emod]
theorem icd (a b n : Nat) : (a : Int) * (b : Int) / (n : Int) = ((a * b / n : Nat) : Int) := by
  rw [← Int.natCast_mul, ← Int.natCast_ediv]
local macro_rules | `(tactic| walk_at "vc") => `(tactic| simp only [cxK, cxK2, start1, start2, start3, tRet, tRetN, tSeq, tNext, tIfS, tAsg, gName, tDrop, tVar, tC, tOp, tUn, tTest, tB, tNot, tAnd, tOr, tAndV, tOrV, tNotV, tIf, tCons, tNil, tCB, tCall, tChain, tAug, ipI, rI, rI0, rU, rIs, rGcd, rEq, rNe, scal,
  List.getElem?_cons_zero, List.getElem?_cons_succ, List.set_cons_zero, List.set_cons_succ, Option.some.injEq, List.cons.injEq, V.int.injEq, V.bl.injEq, V.ref.injEq, V.str.injEq, and_true, true_and, exists_eq_left, exists_eq_left', exists_and_left, exists_and_right, List.append_nil, List.nil_append, List.cons_append, exists_eq_right, exists_eq_right', and_assoc, exists_const, V.ty.injEq, ↓reduceIte, Bool.false_eq_true, Bool.not_true, Bool.not_false, decide_eq_true_eq])
end Wn
/-! contracts where nothing is being shown (no repr runs around): for defs that ask repr of lists, tuples, dicts -/
namespace Wn
open PySem PySem.Spec PyProof.Rows L2
structure FnG (P : Program) (w : World) (K : PySem.W.Frag) (mg : Str → Option Value) (base : Heap) (CX : CXT) (k : Nat) (f : Addr) (fd : FuncData) (ps : List Str) (sp : Sp) : Prop where
  sz : ∀ vs H Q E, sp vs H Q E → vs.length = ps.length
  go : ∀ (A : Around), A.guards = some [] → Room k A → ∀ (outer : List Env) (s : Shared) (H : Hp) (args : Args) (us : List Value) (vs : List V) (Q : VK) (E : XK),
    Env0 P w K mg base A outer s H → BindsTo s fd args (ps.zip us) → Vals vs us → sp vs H Q E → codeAny (model P w) A (.call (.ref f) args) (CR CX outer P w H s Q E) s
section
variable {P : Program} {w : World} {K : PySem.W.Frag} {mg : Str → Option Value} {base : Heap} {CX : CXT} {k : Nat} {f : Addr} {fd : FuncData} {ps : List Str} {sp : Sp}
theorem FnG.of (F : FnOk P w K mg base CX k f fd ps sp) : FnG P w K mg base CX k f fd ps sp :=
  ⟨F.len, fun A _ hr outer s H args us vs Q E e b v h => F.run A outer s H args us vs Q E hr e b v h⟩
theorem FnG.up {j : Nat} (F : FnG P w K mg base CX j f fd ps sp) (h : j ≤ k) : FnG P w K mg base CX k f fd ps sp :=
  ⟨F.sz, fun A hg hr => F.go A hg (hr.mono h)⟩
/-- a def by its body -/
theorem fnG {x qual : Str} {st : Stmt} {N : List Str} (F : Fun K x qual st f fd) (S : FnScope N ps (defScope st)) (sz : ∀ vs H Q E, sp vs H Q E → vs.length = ps.length)
    (body : ∀ (cdv : Value) (A : Around) (outer : List Env) (s : Shared) (H : Hp) (vs : List V) (Q : VK) (E : XK), (A.deeper (envOfC qual (defScope st) s.heap.objs.size f cdv)).guards = some [] →
      Room k (A.deeper (envOfC qual (defScope st) s.heap.objs.size f cdv)) → sp vs H Q E →
      ∃ t, PSs (cxOf CX P w K mg base N qual (defScope st) f cdv A outer s H E) (defBody st) t ∧ t { nx := fun _ H' => Q .non H', rt := Q } (L2.start N vs) H) : FnG P w K mg base CX (k + 1) f fd ps sp := by
  obtain ⟨oc, od, kV, doc, pm, an, cdv, ct, osl, rfl, lk, hcd⟩ := F.ex
  refine ⟨sz, fun A hgd hr outer s H args us vs Q E e0 hb r h => ?_⟩
  have KI : K.In s.heap := e0.mod.kin.keeps fun b o e => (e0.bs b o e).1
  have NL : s.heap.NoLimit := e0.mod.nolimit.keeps fun b o e => (e0.bs b o e).1
  refine codeAny_call_function hr.depth (KI _ _ lk) rfl S.co S.gen rfl (PySem.W.codeRec_of KI hcd) (hb _ _ _ _ ?_)
  refine wpAny_newFunctionEnv_cells S.kind (fun y hy => ?_) fun env he s1 x => ?_
  · obtain ⟨n, v⟩ := y
    rcases S.par n (List.of_mem_zip hy).1 with q | q
    · exact .inl q
    · exact .inr ⟨q, PySem.W.cellsFrom_some _ _ _ (.inl q)⟩
  · subst he
    refine ⟨NL.keeps x.toInCall.keep, codeAny_func ?_⟩
    obtain ⟨t, ht, hq⟩ := body cdv A outer s H vs Q E hgd (hr.deeper _) h
    refine wpAny_mono (ht.run [] s1 _ H _ (inv_start S hr.hd e0 (sz _ _ _ _ h) r x) hq) (fun fl s' z => ?_) fun e s' z => z
    cases fl with
    | ret u =>
      obtain ⟨v, σ', H', J, rv, q⟩ := z
      exact ⟨v, H', J.os, J.bare, J.base, J.hok, rv, q⟩
    | next =>
      obtain ⟨σ', H', J, q⟩ := z
      exact ⟨.non, H', J.os, J.bare, J.base, J.hok, rfl, q⟩
    | brk =>
      obtain ⟨_, _, _, q⟩ := z
      exact q.elim
    | cont =>
      obtain ⟨_, _, _, q⟩ := z
      exact q.elim
/-- no exception leaves it -/
theorem fnG0 {x qual : Str} {st : Stmt} {N : List Str} (F : Fun K x qual st f fd) (S : FnScope N ps (defScope st)) (sz : ∀ vs H Q E, sp vs H Q E → vs.length = ps.length)
    (body : ∀ (cdv : Value) (A : Around) (outer : List Env) (s : Shared) (H : Hp) (vs : List V) (Q : VK) (E : XK), (A.deeper (envOfC qual (defScope st) s.heap.objs.size f cdv)).guards = some [] →
      Room k (A.deeper (envOfC qual (defScope st) s.heap.objs.size f cdv)) → sp vs H Q E →
      ∃ t, PSs (cxOf CX0 P w K mg base N qual (defScope st) f cdv A outer s H E).nox (defBody st) t ∧ t { nx := fun _ H' => Q .non H', rt := Q } (L2.start N vs) H) : FnG P w K mg base CX0 (k + 1) f fd ps sp :=
  fnG F S sz fun cdv A outer s H vs Q E g r h => let ⟨t, ht, q⟩ := body cdv A outer s H vs Q E g r h; ⟨t, ht.nox, q⟩
end
section
variable {X : Cx} {CX : CXT} {k : Nat} {f : Addr} {fd : FuncData} {ps : List Str} {sp : Sp} {dvs : List V} {ds : List Value} {E : XK} {x : Str} {p pos : Pos} {e : Expr} {es : List Expr} {t : TA}
theorem runG {pins : List (Addr × Obj)} {σ : L2.St} {H : Hp} {s : Shared} {Q : VK} {us : List Value} {vs : List V} (F : FnG X.prog X.w X.K X.mg X.base CX k f fd ps sp) (hgd : X.A.guards = some []) (hr : Room k X.A) (hb : Binds X.K fd ps ds) (hd : Vals dvs ds)
    (hx : Passes CX X E) (I : Inv X pins σ H s) (r : Vals vs us) (h : sp (vs ++ dvs) H Q E) : wpAny (model X.prog X.w) X.A (call (.ref f) us) (EP X pins σ Q) X.xe s := by
  have rr := r.append hd
  refine wpAny_call (codeAny_mono (F.go X.A hgd hr X.stack s H ⟨us, []⟩ (us ++ ds) (vs ++ dvs) Q E I.env0 (hb s us I.kIn (rr.length ▸ F.sz _ _ _ _ h)) rr h) fun z s' q => ?_)
  match z, q with
  | .error e, q => exact hx pins σ H s e s' I q
  | .ok (.ret u), q => exact I.after q
  | .ok .next, q => exact q.elim
  | .ok .brk, q => exact q.elim
  | .ok .cont, q => exact q.elim
theorem pe_callG (hgd : X.A.guards = some []) (F : FnG X.prog X.w X.K X.mg X.base CX k f fd ps sp) (hr : Room k X.A) (hg : Gl X x) (hm : X.mg x = some (.ref f)) (hk : PySem.W.keepIn X.K (.ref f) = true) (hb : Binds X.K fd ps ds) (hd : Vals dvs ds) (hx : Passes CX X E)
    (ha : PA X (e :: es) t) (hdb : (x == ("__debug__" : Str)) = false := by decide) (he : starEach (e :: es) X.env = (false, eval e X.env) :: starEach es X.env := by rfl) (hpl : (backTo pos (starEach es X.env)).any (·.1) = false := by rfl) :
    PE X (.Call (.Name x p) (e :: es) [] pos) (tCall sp dvs E t) :=
  ⟨fun pins s σ H Q I h => wpAny_Call_Name_kw (ld_glob I hg hm (PySem.W.callWith_K (h₀ := X.base) I.ok.mod.kin hk (thn (ha.run pos pins s σ H _ I h) fun us s1 ⟨vs, H1, I1, r, q⟩ => ⟨I1.kIn, runG F hgd hr hb hd hx I1 r q⟩) he hpl) hdb)⟩
theorem pe_callG0 (hgd : X.A.guards = some []) (F : FnG X.prog X.w X.K X.mg X.base CX k f fd ps sp) (hr : Room k X.A) (hg : Gl X x) (hm : X.mg x = some (.ref f)) (hk : PySem.W.keepIn X.K (.ref f) = true) (hb : Binds X.K fd ps ds) (hd : Vals dvs ds) (hx : Passes CX X E)
    (hdb : (x == ("__debug__" : Str)) = false := by decide) : PE X (.Call (.Name x p) [] [] pos) (tCall sp dvs E tNil) :=
  ⟨fun pins s σ H Q I h => wpAny_Call_Name_kw (ld_glob I hg hm (PySem.W.callWith_K0 I.kIn hk (runG (us := []) F hgd hr hb hd hx I .nil h)) hdb)⟩
end
/-! the law's own head -/
theorem law_callG {P : Program} {w : World} {K : PySem.W.Frag} {mg mb : Str → Option Value} {CX : CXT} {k : Nat} {fa a : Addr} {fd : FuncData} {x : Str} {sp : Sp} {s1 : Shared} {vs : List Value} {ns : List Int}
    (KX : K.In s1.heap) (hns : s1.heap.Ns mainGlobals mg) (hb : s1.heap.Ns builtinsNs mb) (hbb : ∀ x : Str, x ≠ "__name__" → mb x = bootBuiltins x) (hlim : s1.heap.NoLimit) (hg : s1.gens = #[])
    (ha : s1.heap.get? a = some { cls := .type "list", data := .seq vs.toArray }) (hi : IntsAre vs ns) (hl : ns.length ≤ sizeLine) (hr : Room k callerA)
    (F : ∀ base : Heap, K.In base → base.Ns mainGlobals mg → FnG P w K mg base CX k fa fd [x] sp) (hbind : ∀ (s : Shared) (u : Value), BindsTo s fd ⟨[u], []⟩ [(x, u)])
    (hsp : ∀ H : Hp, Only H → SqL K H a (ns.map V.int) → sp [.ref a] H (fun v _ => v = .bl true) fun _ _ _ => False)
    (hCX : ∀ H e s', CX [] H s1 (fun _ _ _ => False) e s' → False) :
    codeAny (model P w) callerA (.call (.ref fa) ⟨[.ref a], []⟩) (fun r s' => r = .ok (.ret (.bool true)) ∧ OldK s1.heap s'.heap ∧ s'.os = s1.os ∧ AllBare s'.gens) s1 := by
  -- the script is tracked, unless it is one of the text's own objects
  obtain ⟨H, hH⟩ : ∃ H : Hp, H = fun b => if b = a ∧ K.lookup a = none then some (.frz { cls := .type "list", data := .seq vs.toArray } (.lst (ns.map V.int))) else none := ⟨_, rfl⟩
  have at_ : ∀ b u, H b = some u → b = a ∧ K.lookup a = none ∧ u = .frz { cls := .type "list", data := .seq vs.toArray } (.lst (ns.map V.int)) := fun b u z => by
    rw [hH] at z
    dsimp only at z
    split at z
    · rename_i c
      exact ⟨c.1, c.2, (Option.some.inj z).symm⟩
    · cases z
  have off : ∀ b o, s1.heap.get? b = some o → (∀ q, K.lookup b = some q → True) → (∀ n, o.data ≠ .seq vs.toArray n) → H b = none := fun b o e _ d => by
    cases z : H b with
    | none => rfl
    | some u =>
      obtain ⟨rfl, _, _⟩ := at_ b u z
      rw [ha] at e
      cases e
      exact absurd rfl (d _)
  have kb : ∀ b o, K.lookup b = some o → H b = none := fun b o e => by
    cases z : H b with
    | none => rfl
    | some u =>
      obtain ⟨rfl, z2, _⟩ := at_ b u z
      rw [z2] at e
      cases e
  have ok : HOk P w H s1.heap := fun b u z => by
    obtain ⟨rfl, _, rfl⟩ := at_ b u z
    exact ⟨ha, by rw [List.length_map]; exact hl, vs, _, vals_ints hi, ha⟩
  have sq : SqL K H a (ns.map V.int) := by
    cases z : K.lookup a with
    | none =>
      refine .inl (.inr ⟨{ cls := .type "list", data := .seq vs.toArray }, ?_⟩)
      rw [hH]
      exact if_pos ⟨rfl, z⟩
    | some o =>
      have e := KX a o z
      rw [ha] at e
      cases e
      exact .inr ⟨_, vs.toArray, _, z, rfl, rfl, rfl, by rw [List.size_toArray, hi.length]; exact hl, by simpa using vals_ints hi⟩
  have only : Only H := fun b => by
    cases z : H b with
    | none => exact .inl rfl
    | some u =>
      obtain ⟨_, _, rfl⟩ := at_ b u z
      exact .inr ⟨_, _, rfl⟩
  have nsB : ∀ {b : Addr} {m : Str → Option Value}, s1.heap.Ns b m → (hidT s1.heap H).Ns b m := fun {b m} ⟨o, es, ep, e, d, r⟩ => ⟨o, es, ep, hidT_get e (off b o e (fun _ _ => trivial) fun n z => by rw [d] at z; cases z), d, r⟩
  have KB : K.In (hidT s1.heap H) := fun b o e => hidT_get (KX b o e) (kb b o e)
  have M : Mod K mg (hidT s1.heap H) := ⟨KB, nsB hns, ⟨mb, nsB hb, hbb⟩, let ⟨mc, h1, h2⟩ := hlim; ⟨mc, nsB h1, h2⟩⟩
  have E0' : Env0 P w K mg (hidT s1.heap H) callerA [] s1 H := ⟨rfl, M, fun b o e => of_hidT e, Nat.le_of_eq (hidT_size _ _), trivial, fun b z => absurd (show b ∈ ([] : List Addr) from z) (by simp), ok, .of_eq hg⟩
  refine codeAny_mono ((F _ KB (nsB hns)).go callerA rfl hr [] s1 H ⟨[.ref a], []⟩ [.ref a] [.ref a] _ _ E0' (hbind s1 (.ref a)) (.cons rfl .nil) (hsp H only sq)) fun r s' z => ?_
  match r, z with
  | .error e, z => exact (hCX H e s' z).elim
  | .ok .next, z => exact z.elim
  | .ok .brk, z => exact z.elim
  | .ok .cont, z => exact z.elim
  | .ok (.ret u), z =>
    obtain ⟨v, H', os, bare, un, ok', rv, q⟩ := z
    obtain rfl : v = .bl true := q
    obtain rfl : u = Value.bool true := rv
    refine ⟨rfl, OldK.of_keep fun b o e => ?_, os, bare⟩
    cases y : H b with
    | none => exact un.keep b o e y (fun c => absurd (show b ∈ ([] : List Addr) from c) (by simp)) (by simp)
    | some u =>
      obtain ⟨rfl, _, rfl⟩ := at_ b u y
      rw [ha] at e
      cases e
      exact (ok' _ _ (un.frzs _ _ _ y)).1
theorem walkG {l : PySem.W.OpenLaw} {n k : Nat} {q : Program} {loose : List Str} {XP : (Str → Option Value) → Heap → Prop} {YP : World → Heap → Prop} {d : DefRec} {K : Params → PySem.W.Frag} {sp : World → Sp} {x : Str}
    (hn : l.most = some n) (hn2 : n ≤ sizeLine) (hdf : d.params.defaults = []) (hr : Room k callerA) (hY : ∀ (w : World) (h : Heap), YP w h → (K w.params).In h)
    (F : ∀ (w : World) (mg : Str → Option Value) (fa : Addr) (h : Heap), (K w.params).In h → h.Ns mainGlobals mg → mg d.name = some (.ref fa) →
      ∃ fd : FuncData, (∀ (s : Shared) (u : Value), BindsTo s fd ⟨[u], []⟩ [(x, u)]) ∧ ∀ base : Heap, (K w.params).In base → base.Ns mainGlobals mg → FnG l.prog w (K w.params) mg base CX0 k fa fd [x] (sp w))
    (hsp : ∀ (w : World) (H : Hp) (a : Addr) (ns : List Int), ns.length ≤ n → Only H → SqL (K w.params) H a (ns.map V.int) → sp w [.ref a] H (fun v _ => v = .bl true) fun _ _ _ => False) :
    PySem.W.WalkO q loose XP YP l.row.toRowW d [] (fun f vs => PySem.call f vs) :=
  Att.attach_call hn hdf fun w s0 s1 mg mb fa o pm cd doc a vs ns G Y ho hd hcd hmg hobj hints hlen hg => by
    obtain ⟨fd, hb, hF⟩ := F w mg fa _ (hY w _ Y) G.T.g hmg
    exact law_callG (hY w _ Y) G.T.g G.T.b G.T.builtins G.T.nolimit hg hobj hints (Nat.le_trans hlen hn2) hr hF hb (fun H hO hS => hsp w H a ns hlen hO hS) fun H e s' z => z
end Wn
/-! repr of data -/
namespace Wn
open PySem PySem.Spec PyProof.Rows L2
/-- data that repr takes: leaves of at most B signs, weight at most W, depth at most D -/
structure Sm (d : PyData) (B D W : Nat) : Prop where
  show_ : d.showable = true
  leaf : d.leavesShort B = true
  nod : d.hasDict = false
  lay : d.canLay0 = true
  dep : d.depth ≤ D
  wei : d.bulk ≤ W
theorem Sm.all : ∀ {xs : List PyData} {B D W : Nat}, (∀ x ∈ xs, Sm x B D W) → PyData.showableAll xs = true ∧ PyData.leavesShortAll B xs = true ∧ PyData.hasDictAll xs = false ∧ PyData.canLayAll0 xs = true ∧ PyData.depthAll xs ≤ D ∧ PyData.bulkAll xs ≤ xs.length * (W + 1)
  | [], _, _, _, _ => ⟨rfl, rfl, rfl, rfl, Nat.zero_le _, Nat.zero_le _⟩
  | x :: xs, B, D, W, h => by
    obtain ⟨h1, h2, h3, h6, h4, h5⟩ := Sm.all (xs := xs) fun y hy => h y (List.mem_cons_of_mem _ hy)
    have hx := h x (List.mem_cons_self ..)
    refine ⟨?_, ?_, ?_, ?_, ?_, ?_⟩
    · show (x.showable && PyData.showableAll xs) = true
      rw [hx.show_, h1]
      rfl
    · show (x.leavesShort B && PyData.leavesShortAll B xs) = true
      rw [hx.leaf, h2]
      rfl
    · show (x.hasDict || PyData.hasDictAll xs) = false
      rw [hx.nod, h3]
      rfl
    · show (x.canLay0 && PyData.canLayAll0 xs) = true
      rw [hx.lay, h6]
      rfl
    · show max x.depth (PyData.depthAll xs) ≤ D
      exact Nat.max_le.mpr ⟨hx.dep, h4⟩
    · show x.bulk + 1 + PyData.bulkAll xs ≤ (xs.length + 1) * (W + 1)
      rw [Nat.succ_mul]
      have := hx.wei
      omega
theorem Sm.lst {xs : List PyData} {B D W : Nat} (n : Nat) (h : ∀ x ∈ xs, Sm x B D W) (hn : xs.length ≤ n) : Sm (.list xs) B (D + 1) (n * (W + 1)) := by
  obtain ⟨h1, h2, h3, h6, h4, h5⟩ := Sm.all h
  exact ⟨h1, h2, h3, h6, Nat.succ_le_succ h4, Nat.le_trans h5 (Nat.mul_le_mul_right _ hn)⟩
theorem Sm.tup {xs : List PyData} {B D W : Nat} (n : Nat) (h : ∀ x ∈ xs, Sm x B D W) (hn : xs.length ≤ n) : Sm (.tuple xs) B (D + 1) (n * (W + 1)) := by
  obtain ⟨h1, h2, h3, h6, h4, h5⟩ := Sm.all h
  exact ⟨h1, h2, h3, h6, Nat.succ_le_succ h4, Nat.le_trans h5 (Nat.mul_le_mul_right _ hn)⟩
theorem Sm.mono {d : PyData} {B D W D' W' : Nat} (h : Sm d B D W) (h1 : D ≤ D') (h2 : W ≤ W') : Sm d B D' W' := ⟨h.show_, h.leaf, h.nod, h.lay, Nat.le_trans h.dep h1, Nat.le_trans h.wei h2⟩
theorem log2_lt {a k : Nat} (hk : 1 ≤ k) (h : a < 2 ^ k) : a.log2 < k := by
  rcases Nat.eq_zero_or_pos a with z | z
  · rw [z, Nat.log2_zero]
    exact hk
  · exact (Nat.log2_lt (by omega)).mpr h
/-- a whole number below 10 ^ 12 and below 2 ^ k -/
theorem Sm.int {i : Int} {k : Nat} (hk : 1 ≤ k) (h : i.natAbs < 2 ^ k) (hk2 : k ≤ 39) : Sm (.int i) 13 0 k := by
  have hl := log2_lt hk h
  have h12 : i.natAbs < 10 ^ 12 := Nat.lt_of_lt_of_le h (Nat.le_trans (Nat.pow_le_pow_right (by decide) hk2) (by decide))
  refine ⟨?_, ?_, rfl, rfl, Nat.le_refl _, ?_⟩
  · show decide (i.natAbs.log2 < 1920) = true
    exact decide_eq_true (by omega)
  · show decide ((PyData.shown (.int i)).length ≤ 13) = true
    exact decide_eq_true (PyData.shown_int_le h12)
  · show 0 ≤ k
    omega
def Fits (d : PyData) : Prop := ∃ B D W, Sm d B D W ∧ 8 ≤ B ∧ D ≤ 100 ∧ (B + 2) * W + B ≤ 16777216
theorem Fits.len {d : PyData} (h : Fits d) : d.shown.length ≤ sizeLine := by
  obtain ⟨B, D, W, s, h1, h2, h3⟩ := h
  have := PyData.shown_le_bulk B h1 d s.leaf
  rw [sizeLine_eq]
  have : (B + 2) * d.bulk ≤ (B + 2) * W := Nat.mul_le_mul_left _ s.wei
  omega
theorem Fits.shaped {d : PyData} (h : d.canLay0 = true) (h2 : d.depth ≤ 64) : SeqAt.shaped d = true := by
  unfold SeqAt.shaped
  rw [h, decide_eq_true h2]
  rfl
theorem Sm.fits {d : PyData} {D W : Nat} (h : Sm d 13 D W) (h1 : D ≤ 64 := by decide) (h2 : W ≤ 1100000 := by decide) : Fits d := ⟨13, D, W, h, by decide, by omega, by omega⟩
theorem Sm.fitsB {d : PyData} {B D W : Nat} (h : Sm d B D W) (h0 : 8 ≤ B := by decide) (h1 : D ≤ 64 := by decide) (h2 : (B + 2) * W + B ≤ 16777216 := by decide) : Fits d := ⟨B, D, W, h, h0, by omega, h2⟩
theorem Sm.shaped {d : PyData} {B D W : Nat} (h : Sm d B D W) (h1 : D ≤ 64 := by decide) : SeqAt.shaped d = true := Fits.shaped h.lay (Nat.le_trans h.dep h1)
/-! data stands while lists and tuples stand -/
def Kp (H H' : Hp) : Prop := (∀ a xs, H a = some (.lst xs) → H' a = some (.lst xs)) ∧ (∀ a xs, H a = some (.tup xs) → H' a = some (.tup xs)) ∧ ∀ a o u, H a = some (.frz o u) → H' a = some (.frz o u)
theorem Kp.of {H H' : Hp} (g : Gr [] H H') : Kp H H' := ⟨fun a _ e => g a _ (by simp) e, fun a _ e => g a _ (by simp) e, fun a _ _ e => g a _ (by simp) e⟩
theorem Kp.ofM {H H' : Hp} {d : Addr} (g : Gr [d] H H') (h : ∃ kvs, H d = some (.dK kvs)) : Kp H H' := by
  obtain ⟨kvs, h⟩ := h
  have ne : ∀ {a o}, H a = some o → (∀ k, o ≠ .dK k) → a ∉ [d] := fun {a o} e k z => by
    rw [List.mem_singleton] at z
    subst z
    rw [h] at e
    exact k _ (Option.some.inj e).symm
  exact ⟨fun a _ e => g a _ (ne e fun _ z => by cases z) e, fun a _ e => g a _ (ne e fun _ z => by cases z) e, fun a _ _ e => g a _ (ne e fun _ z => by cases z) e⟩
theorem Kp.trans {H H1 H2 : Hp} (a : Kp H H1) (b : Kp H1 H2) : Kp H H2 := ⟨fun x _ e => b.1 x _ (a.1 x _ e), fun x _ e => b.2.1 x _ (a.2.1 x _ e), fun x _ _ e => b.2.2 x _ _ (a.2.2 x _ _ e)⟩
theorem Kp.sqL {K : PySem.W.Frag} {H H' : Hp} {a : Addr} {xs : List V} (k : Kp H H') (h : SqL K H a xs) : SqL K H' a xs := by
  rcases h with (h | ⟨o, h⟩) | h
  · exact .inl (.inl (k.1 _ _ h))
  · exact .inl (.inr ⟨o, k.2.2 _ _ _ h⟩)
  · exact .inr h
theorem Kp.sqT {K : PySem.W.Frag} {H H' : Hp} {a : Addr} {xs : List V} (k : Kp H H') (h : SqT K H a xs) : SqT K H' a xs := by
  rcases h with (h | ⟨o, h⟩) | h
  · exact .inl (.inl (k.2.1 _ _ h))
  · exact .inl (.inr ⟨o, k.2.2 _ _ _ h⟩)
  · exact .inr h
mutual
theorem Dp.kp {K : PySem.W.Frag} {H H' : Hp} (k : Kp H H') : ∀ {v : V} {d : PyData}, Dp K H v d → Dp K H' v d
  | _, _, .non => .non
  | _, _, .bl b => .bl b
  | _, _, .int i => .int i
  | _, _, .str x => .str x
  | _, _, .lst h1 h2 => .lst (k.sqL h1) (DpAll.kp k h2)
  | _, _, .tup h1 h2 => .tup (k.sqT h1) (DpAll.kp k h2)
theorem DpAll.kp {K : PySem.W.Frag} {H H' : Hp} (k : Kp H H') : ∀ {vs : List V} {ds : List PyData}, DpAll K H vs ds → DpAll K H' vs ds
  | _, _, .nil => .nil
  | _, _, .cons h1 h2 => .cons (Dp.kp k h1) (DpAll.kp k h2)
end
theorem dpAll_ints {K : PySem.W.Frag} {H : Hp} : ∀ ns : List Int, DpAll K H (ns.map V.int) (ns.map PyData.int)
  | [] => .nil
  | n :: r => .cons (.int n) (dpAll_ints r)
theorem dp_lst {K : PySem.W.Frag} {H : Hp} {a : Addr} {xs : List V} {ds : List PyData} (h : H a = some (.lst xs)) (h2 : DpAll K H xs ds) : Dp K H (.ref a) (.list ds) := .lst (sq_lst h) h2
theorem dp_tup {K : PySem.W.Frag} {H : Hp} {a : Addr} {xs : List V} {ds : List PyData} (h : H a = some (.tup xs)) (h2 : DpAll K H xs ds) : Dp K H (.ref a) (.tuple ds) := .tup (sq_tup h) h2
def rRepr (K : PySem.W.Frag) : List V → Hp → VK → Prop := fun xs H Q => ∃ (x : V) (d : PyData), xs = [x] ∧ Dp K H x d ∧ Fits d ∧ Q (.str d.shown) H
theorem call_repr {X : Cx} (hg : X.A.guards = some []) (hu : X.A.units + 200 < cLine) : CallR X (.builtin "repr") (rRepr X.K) := by
  intro pins s σ H xs us Q I r h
  obtain ⟨x, d, rfl, hd, hf, q⟩ := h
  obtain ⟨u, rfl, rx⟩ := vals1 r
  have fin : ∀ tk' tk, EP X pins σ Q (.str d.shown tk) { s with toks := tk' } := fun tk' tk => ⟨.str _, H, I.tok _, ⟨_, rfl⟩, q⟩
  have hl := hf.len
  cases hd with
  | non =>
    obtain rfl : u = Value.none := rx
    exact PySem.P.repr_of_none (fin _ _)
  | bl b =>
    obtain rfl : u = Value.bool b := rx
    exact PySem.P.repr_of_bool (fin _ _)
  | int i =>
    obtain ⟨t, rfl⟩ := rx
    obtain ⟨B, D, W, sm, _⟩ := hf
    exact PySem.P.repr_of_int (of_decide_eq_true sm.show_) (fin _ _)
  | str y =>
    obtain ⟨t, rfl⟩ := rx
    exact PySem.P.repr_of_str (fin _ _) hl
  | lst h1 h2 =>
    rename_i a xs ds
    obtain rfl : u = Value.ref a := rx
    obtain ⟨as, rd⟩ := Dp.reads I (.list ds) (.ref a) (.ref a) (.lst h1 h2) rfl
    obtain ⟨B, D, W, sm, _, hD, _⟩ := hf
    have := sm.dep
    refine repr_of_reads' rd sm.show_ (fun z => absurd (sm.nod.symm.trans z) (by decide)) hg (by omega) (fun _ _ e => e) (fun h' u tk k => ⟨.str _, H, I.un (Un.kept k) (I.hok.kept k), ⟨_, rfl⟩, q⟩) hl
  | tup h1 h2 =>
    rename_i a xs ds
    obtain rfl : u = Value.ref a := rx
    obtain ⟨as, rd⟩ := Dp.reads I (.tuple ds) (.ref a) (.ref a) (.tup h1 h2) rfl
    obtain ⟨B, D, W, sm, _, hD, _⟩ := hf
    have := sm.dep
    refine repr_of_reads' rd sm.show_ (fun z => absurd (sm.nod.symm.trans z) (by decide)) hg (by omega) (fun _ _ e => e) (fun h' u tk k => ⟨.str _, H, I.un (Un.kept k) (I.hok.kept k), ⟨_, rfl⟩, q⟩) hl
theorem gu_of {A : Around} {k : Nat} (hr : Room k A) : A.units + 200 < cLine := by
  have := hr.un
  omega
end Wn
/-! expressions that give data and leave all as it was -/
namespace Wn
open PySem PySem.Spec PyProof.Rows L2
section
variable {K : PySem.W.Frag} {σ : L2.St} {H : Hp}
def EvD (K : PySem.W.Frag) (te : TE) (σ : L2.St) (H : Hp) (d : PyData) : Prop := ∀ H1, Gr [] H H1 → ∀ Q : VK, (∀ v H2, Gr [] H1 H2 → Dp K H2 v d → Q v H2) → te σ H1 Q
def EvS (K : PySem.W.Frag) (ta : TA) (σ : L2.St) (H : Hp) (ds : List PyData) : Prop := ∀ H1, Gr [] H H1 → ∀ Q : List V → Hp → Prop, (∀ vs H2, Gr [] H1 H2 → DpAll K H2 vs ds → Q vs H2) → ta σ H1 Q
/-- a list that stands as such -/
def EvL (K : PySem.W.Frag) (te : TE) (σ : L2.St) (H : Hp) (ds : List PyData) : Prop := ∀ H1, Gr [] H H1 → ∀ Q : VK, (∀ p xs H2, Gr [] H1 H2 → H2 p = some (.lst xs) → DpAll K H2 xs ds → Q (.ref p) H2) → te σ H1 Q
theorem EvD.on {te : TE} {d : PyData} {H' : Hp} (h : EvD K te σ H d) (g : Gr [] H H') : EvD K te σ H' d := fun H1 g1 Q q => h H1 (g.trans g1) Q q
theorem EvL.d {te : TE} {ds : List PyData} (h : EvL K te σ H ds) : EvD K te σ H (.list ds) := fun H1 g Q q => h H1 g Q fun p xs H2 g2 e a => q _ H2 g2 (dp_lst e a)
theorem ev_var {i : Nat} {v : V} {d : PyData} (e : σ[i]? = some (some v)) (h : Dp K H v d) : EvD K (tVar i) σ H d := fun H1 g Q q => ⟨v, e, q v H1 (Gr.refl _ _) (Dp.kp (Kp.of g) h)⟩
theorem ev_varL {i : Nat} {p : Addr} {xs : List V} {ds : List PyData} (e : σ[i]? = some (some (.ref p))) (h : H p = some (.lst xs)) (a : DpAll K H xs ds) : EvL K (tVar i) σ H ds :=
  fun H1 g Q q => ⟨_, e, q p xs H1 (Gr.refl _ _) (g _ _ (by simp) h) (DpAll.kp (Kp.of g) a)⟩
theorem ev_int {i : Int} : EvD K (tC (.int i)) σ H (.int i) := fun H1 _ Q q => q _ H1 (Gr.refl _ _) (.int i)
theorem ev_bl {i : Bool} : EvD K (tC (.bl i)) σ H (.bool i) := fun H1 _ Q q => q _ H1 (Gr.refl _ _) (.bl i)
theorem ev_str {i : Str} : EvD K (tC (.str i)) σ H (.str i) := fun H1 _ Q q => q _ H1 (Gr.refl _ _) (.str i)
theorem ev_non : EvD K (tC .non) σ H .none := fun H1 _ Q q => q _ H1 (Gr.refl _ _) .non
theorem es_nil : EvS K tNil σ H [] := fun H1 _ Q q => q _ H1 (Gr.refl _ _) .nil
theorem es_cons {te : TE} {ta : TA} {d : PyData} {ds : List PyData} (h : EvD K te σ H d) (r : EvS K ta σ H ds) : EvS K (tCons te ta) σ H (d :: ds) := fun H1 g Q q =>
  h H1 g _ fun v H2 g2 dv => r H2 (g.trans g2) _ fun vs H3 g3 dvs => q _ H3 (g2.trans g3) (.cons (Dp.kp (Kp.of g3) dv) dvs)
theorem dpAll_len {H : Hp} : ∀ {vs : List V} {ds : List PyData}, DpAll K H vs ds → vs.length = ds.length
  | _, _, .nil => rfl
  | _, _, .cons _ t => congrArg (· + 1) (dpAll_len t)
theorem ev_tup {ta : TA} {ds : List PyData} (h : EvS K ta σ H ds) (hz : ds.length ≤ 1000 := by exact Nat.le_of_ble_eq_true rfl) : EvD K (tTup ta) σ H (.tuple ds) := fun H1 g Q q =>
  h H1 g _ fun vs H2 g2 a => ⟨by rw [dpAll_len a]; exact Nat.le_of_lt (small1000 hz), fun p np => q _ _ (g2.trans (Gr.new np)) (dp_tup upd_same (DpAll.kp (Kp.of (Gr.new np)) a))⟩
theorem el_lst {ta : TA} {ds : List PyData} (h : EvS K ta σ H ds) (hz : ds.length ≤ 1000 := by exact Nat.le_of_ble_eq_true rfl) : EvL K (tLst ta) σ H ds := fun H1 g Q q =>
  h H1 g _ fun vs H2 g2 a => ⟨by rw [dpAll_len a]; exact Nat.le_of_lt (small1000 hz), fun p np => q _ _ _ (g2.trans (Gr.new np)) upd_same (DpAll.kp (Kp.of (Gr.new np)) a)⟩
theorem ev_lst {ta : TA} {ds : List PyData} (h : EvS K ta σ H ds) (hz : ds.length ≤ 1000 := by exact Nat.le_of_ble_eq_true rfl) : EvD K (tLst ta) σ H (.list ds) := (el_lst h hz).d
theorem dpAll_append {H : Hp} : ∀ {vs ws : List V} {ds es : List PyData}, DpAll K H vs ds → DpAll K H ws es → DpAll K H (vs ++ ws) (ds ++ es)
  | _, _, _, _, .nil, b => b
  | _, _, _, _, .cons h t, b => .cons h (dpAll_append t b)
theorem el_cat {ta tb : TE} {ds es : List PyData} (h1 : EvL K ta σ H ds) (h2 : EvL K tb σ H es) (hz : ds.length + es.length ≤ 1000 := by exact Nat.le_of_ble_eq_true rfl) : EvL K (tOp rCat ta tb) σ H (ds ++ es) := fun H1 g Q q =>
  h1 H1 g _ fun p xs H2 g2 e2 a2 => h2 H2 (g.trans g2) _ fun p3 ys H3 g3 e3 a3 => by
    have e2' := g3 _ _ (by simp) e2
    refine ⟨p, p3, xs, ys, rfl, rfl, e2', e3, by rw [dpAll_len a2, dpAll_len a3]; exact Nat.le_of_lt (small1000 hz), fun p4 np => ?_⟩
    exact q p4 _ _ ((g2.trans g3).trans (Gr.new np)) upd_same (dpAll_append (DpAll.kp (Kp.of (g3.trans (Gr.new np))) a2) (DpAll.kp (Kp.of (Gr.new np)) a3))
/-! two data compared -/
theorem ev_eq {ta tb : TE} {d e : PyData} (h1 : EvD K ta σ H d) (h2 : EvD K tb σ H e) (s1 : SeqAt.shaped d = true) (s2 : SeqAt.shaped e = true) : EvD K (tOp (rEqD K) ta tb) σ H (.bool (PyData.eqv d e)) := fun H1 g Q q =>
  h1 H1 g _ fun v H2 g2 a => h2 H2 (g.trans g2) _ fun w H3 g3 b => ⟨d, e, Dp.kp (Kp.of g3) a, b, s1, s2, q _ H3 (g2.trans g3) (.bl _)⟩
theorem ev_ne {ta tb : TE} {d e : PyData} (h1 : EvD K ta σ H d) (h2 : EvD K tb σ H e) (s1 : SeqAt.shaped d = true) (s2 : SeqAt.shaped e = true) : EvD K (tOp (rNeD K) ta tb) σ H (.bool (!PyData.eqv d e)) := fun H1 g Q q =>
  h1 H1 g _ fun v H2 g2 a => h2 H2 (g.trans g2) _ fun w H3 g3 b => ⟨d, e, Dp.kp (Kp.of g3) a, b, s1, s2, q _ H3 (g2.trans g3) (.bl _)⟩
theorem iteFb {b : Bool} {A B : Prop} (h : b = false) (x : B) : if b = true then A else B := by
  rw [h]
  exact iteF x
theorem iteTb {b : Bool} {A B : Prop} (h : b = true) (x : A) : if b = true then A else B := by
  rw [h]
  exact iteT x
/-! statements over them -/
theorem st_asgD {te : TE} {i : Nat} {d : PyData} {D : Ends} (h : EvD K te σ H d) (k : ∀ v H2, Gr [] H H2 → Dp K H2 v d → D.nx (σ.set i (some v)) H2) : tAsg te (gName i) D σ H := h H (Gr.refl _ _) _ k
theorem st_asgL {te : TE} {i : Nat} {ds : List PyData} {D : Ends} (h : EvL K te σ H ds) (k : ∀ p xs H2, Gr [] H H2 → H2 p = some (.lst xs) → DpAll K H2 xs ds → D.nx (σ.set i (some (.ref p))) H2) : tAsg te (gName i) D σ H := h H (Gr.refl _ _) _ k
theorem dp_bool {H : Hp} {v : V} {b : Bool} (h : Dp K H v (.bool b)) : v = .bl b := by cases h; rfl
theorem dp_int {H : Hp} {v : V} {b : Int} (h : Dp K H v (.int b)) : v = .int b := by cases h; rfl
theorem st_retB {te : TE} {b : Bool} {D : Ends} (h : EvD K te σ H (.bool b)) (k : ∀ H2, Gr [] H H2 → D.rt (.bl b) H2) : tRet te D σ H := h H (Gr.refl _ _) _ fun v H2 g e => by rw [dp_bool e]; exact k H2 g
/-- a test that is data -/
theorem tt_of {te : TE} {b : Bool} {H1 : Hp} {Q : Bool → Hp → Prop} (h : EvD K te σ H (.bool b)) (g : Gr [] H H1) (q : ∀ H2, Gr [] H1 H2 → Q b H2) : tTest te σ H1 Q := h H1 g _ fun v H2 g2 e => ⟨b, dp_bool e, q H2 g2⟩
theorem tb_of {te : TE} {b : Bool} {H1 : Hp} {Q : Bool → Hp → Prop} (h : EvD K te σ H (.bool b)) (g : Gr [] H H1) (q : ∀ H2, Gr [] H1 H2 → Q b H2) : tB te σ H1 Q := h H1 g _ fun v H2 g2 e => ⟨b, dp_bool e, q H2 g2⟩
theorem ev_andV {ta tb : TE} {a b : Bool} (h1 : EvD K ta σ H (.bool a)) (h2 : EvD K tb σ H (.bool b)) : EvD K (tAndV ta tb) σ H (.bool (a && b)) := fun H1 g Q q =>
  h1 H1 g _ fun v H2 g2 e => ⟨a, dp_bool e, by
    cases a with
    | true => exact iteT (h2 H2 (g.trans g2) _ fun w H3 g3 e3 => q w H3 (g2.trans g3) e3)
    | false => exact iteF (q _ H2 g2 (.bl false))⟩
end
end Wn
/-! sum of a tuple of whole numbers -/
namespace Wn
open PySem PySem.Spec PyProof.Rows L2
section
variable {prog : Program} {w : World} {A : Around} {E : Value → Shared → Prop} {s : Shared} {l : Addr} {its : List Value} {ns : List Int} {Q : Value → Shared → Prop}
theorem sum_tup0 {xs : Array (Int × Tok)} (hh : A.handled = none) (hl : s.heap.IsTuple l (intItems xs))
    (h : ∀ h' tk t', (∀ b o, s.heap.get? b = some o → h'.get? b = some o) → Q (.int (preSum (numAt xs) xs.size) t') { s with heap := h', toks := tk }) : wpAny (model prog w) A (call (.builtin "sum") [.ref l]) Q E s := by
  refine call_sum_walkG (wpAny_pyIter_tuple hl ?_)
  obtain ⟨o, ho, hc, n, hd⟩ := hl
  have lt : l < s.heap.objs.size := Heap.lt_size ho
  have kp : ∀ b u, s.heap.get? b = some u → (s.heap.push { cls := .type "tuple_iterator", data := .fields #[.ref l, .int 0 0] }).get? b = some u := fun b u e => Heap.get?_push_of_some _ e
  refine ⟨s.heap.objs.size, _, _, _, _, _, numAt xs, rfl, Walks.tuple (A := A.in1) hh s.heap.objs.size l (Nat.ne_of_lt lt) (intItems xs), ⟨⟨_, Heap.get?_push_size _ rfl, rfl, rfl⟩, ⟨o, kp _ _ ho, hc, n, hd⟩⟩, fun b hb => ?_, fun _ _ => intItems_at, fun h' tk t' hk => ?_⟩
  · have hz : (s.heap.push { cls := .type "tuple_iterator", data := .fields #[.ref l, .int 0 0] }).objs.size = s.heap.objs.size + 1 := by simp [Heap.push]
    simp only [List.mem_cons, List.not_mem_nil, or_false] at hb
    show b < (s.heap.push _).objs.size
    rw [hz]
    rcases hb with rfl | rfl
    · exact Nat.lt_succ_self _
    · exact Nat.lt_succ_of_lt lt
  · have := h h' tk t' (fun b u e => hk b u (by
      rw [List.mem_singleton]
      exact Nat.ne_of_lt (Heap.lt_size e)) (kp b u e))
    simpa [intItems] using this
theorem sum_tup (hh : A.handled = none) (hl : s.heap.IsTuple l its.toArray) (hi : IntsAre its ns)
    (h : ∀ h' tk t', (∀ b o, s.heap.get? b = some o → h'.get? b = some o) → Q (.int ns.sum t') { s with heap := h', toks := tk }) : wpAny (model prog w) A (call (.builtin "sum") [.ref l]) Q E s := by
  obtain ⟨xs, e⟩ := hi.allInts.items
  have hn : numsOf (intItems xs).toList = ns := by
    rw [← e]
    exact hi.numsOf
  rw [nums_intItems] at hn
  rw [e] at hl
  refine sum_tup0 hh hl fun h' tk t' hk => ?_
  have := h h' tk t' hk
  rw [preSum_eq, List.take_of_length_le (by simp), hn]
  exact this
end
def rSumT (K : PySem.W.Frag) : List V → Hp → VK → Prop := fun vs H Q => ∃ (a : Addr) (ns : List Int), vs = [V.ref a] ∧ SqT K H a (ns.map V.int) ∧ Q (.int ns.sum) H
theorem cr_sumT {X : Cx} (hc : X.calm = true) : CallR X (.builtin "sum") (rSumT X.K) := by
  intro pins s σ H vs us Q I r h
  obtain ⟨a, ns, rfl, hs, q⟩ := h
  obtain ⟨its, rv, hl, _⟩ := I.tuple hs
  rw [Vals.ref1 r]
  exact sum_tup (I.ok.hd hc) hl rv.ints fun h' tk t' hk => ⟨.int _, H, I.kept hk, ⟨_, rfl⟩, q⟩
end Wn
/-! a list with a step: xs[::k] -/
namespace Wn
open PySem PySem.Spec PyProof.Rows L2
def stepV (xs : List V) (k : Nat) : List V := (List.range ((xs.length + k - 1) / k)).filterMap fun i => xs[k * i]?
theorem vals_picks {xs : List V} {us : List Value} (r : Vals xs us) (f : Nat → Nat) : ∀ js : List Nat, Vals (js.filterMap fun i => xs[f i]?) (js.filterMap fun i => us[f i]?)
  | [] => .nil
  | j :: js => by
    have ih := vals_picks r f js
    cases e : xs[f j]? with
    | none =>
      have e2 := r.none_of e
      rw [List.filterMap_cons, List.filterMap_cons, e, e2]
      exact ih
    | some x =>
      obtain ⟨u, e2, h⟩ := r.get e
      rw [List.filterMap_cons, List.filterMap_cons, e, e2]
      exact .cons h ih
theorem pick_step (us : List Value) {k : Nat} (hk : 1 ≤ k) : slicePick us.toArray none none (some (k : Int)) = ((List.range ((us.length + k - 1) / k)).filterMap fun i => us[k * i]?).toArray := by
  have e : sliceBounds none none (some (k : Int)) us.toArray.size = ((0 : Int), (us.length : Int), (k : Int)) := by
    have h : (k : Int) > 0 := by omega
    simp only [sliceBounds, Option.getD_some, h, if_true, List.size_toArray]
  unfold slicePick
  rw [e]
  show (List.filterMap (fun i => us.toArray[i]?) (sliceRange 0 (us.length : Int) (k : Int))).toArray = _
  congr 1
  have e2 : sliceRange 0 (us.length : Int) (k : Int) = (List.range ((us.length + k - 1) / k)).map fun i => k * i := by
    unfold sliceRange
    have h : (k : Int) > 0 := by omega
    rw [if_pos h]
    have c : (if (0 : Int) < (us.length : Int) then ((us.length : Int) - 0 + k - 1) / k else 0).toNat = (us.length + k - 1) / k := by
      by_cases z : (0 : Int) < (us.length : Int)
      · rw [if_pos z, show ((us.length : Int) - 0 + k - 1) = ((us.length + k - 1 : Nat) : Int) by omega, ← Int.natCast_ediv]
        rfl
      · rw [if_neg z]
        have : us.length = 0 := by omega
        rw [this, Nat.zero_add, Nat.div_eq_of_lt (by omega)]
        rfl
    dsimp only
    rw [c]
    apply List.map_congr_left
    intro i _
    rw [Int.zero_add, ← Int.natCast_mul]
    rfl
  rw [e2, List.filterMap_map]
  congr 1
  funext i
  simp
theorem stepV_len (xs : List V) (k : Nat) (hk : 1 ≤ k) : (stepV xs k).length ≤ xs.length := by
  unfold stepV
  refine Nat.le_trans (List.length_filterMap_le _ _) ?_
  rw [List.length_range]
  rcases Nat.eq_zero_or_pos xs.length with z | z
  · rw [z, Nat.zero_add, Nat.div_eq_of_lt (by omega)]
    exact Nat.le_refl _
  · refine Nat.lt_succ_iff.mp ((Nat.div_lt_iff_lt_mul (by omega)).mpr ?_)
    have : xs.length * 1 ≤ xs.length * k := Nat.mul_le_mul_left _ hk
    rw [Nat.succ_mul]
    omega
def rStL (K : PySem.W.Frag) : V → V → Hp → VK → Prop := fun x y H Q => ∃ (a : Addr) (xs : List V) (k : Nat), x = .ref a ∧ y = .int k ∧ 1 ≤ k ∧ SqL K H a xs ∧ ∀ p, H p = none → Q (.ref p) (upd H p (.lst (stepV xs k)))
def tStL (r : R2) (te ts : TE) : TE := fun σ H Q => te σ H fun x H1 => ts σ H1 fun y H2 => r x y H2 Q
variable {X : Cx} {e st : Expr} {te ts : TE} {pos p2 : Pos}
theorem pe_stepL {r : R2} (he : PE X e te) (hs : PE X st ts) (hr : r = rStL X.K := by rfl) : PE X (.Subscript e (.Slice none none (some st) p2) pos) (tStL r te ts) := by
  subst hr
  refine ⟨fun pins s σ H Q I h => ?_⟩
  refine Subscript_ (thn (he.run pins s σ H _ I h) fun v s1 ⟨x, H1, I1, r1, q1⟩ => ?_)
  refine wpAny_Slice ?_
  rw [evalPart_none]
  refine wpAny_pure (wpAny_pure ?_)
  rw [evalPart_some]
  refine thn (hs.run pins s1 σ H1 _ I1 q1) fun vs s3 ⟨y, H3, I3, ry, q3⟩ => ?_
  obtain ⟨a, xs, k, rfl, rfl, hk, hx, q⟩ := q3
  cases r1
  obtain ⟨t, rfl⟩ := ry
  have I4 : Inv X pins σ H3 { s3 with heap := s3.heap.push { cls := .type "slice", data := .fields #[.none, .none, .int k t] } } := I3.kept (t' := s3.toks) fun b ob q => Heap.get?_push_of_some _ q
  obtain ⟨its, r, ht, hz⟩ := I4.list hx
  have hlen := r.length
  have hg : wpAny (model X.prog X.w) X.A (getItem (.ref a) (.ref s3.heap.objs.size)) (EP X pins σ Q) X.xe { s3 with heap := s3.heap.push { cls := .type "slice", data := .fields #[.none, .none, .int k t] } } := by
    refine wpAny_getItem_list_slice (st := some (k : Int)) ht.isList (Heap.IsSliceOf.new ..) .none .none (.int _ _) (by intro z; have := Option.some.inj z; omega) ?_ (by rw [List.size_toArray] <;> omega)
    rw [pick_step its hk, ← hlen]
    refine ⟨.ref _, _, I4.laid (t' := s3.toks) (o := .lst (stepV xs k)) (fun b ob q => Heap.get?_push_of_some _ q) (Nat.le_refl _) ?_, rfl, q _ (I4.hok.fresh (Nat.le_refl _))⟩
    exact ⟨Nat.le_trans (stepV_len xs k hk) hz, _, 0, vals_picks r _ _, Heap.get?_push_size _ rfl⟩
  show wpAny (model X.prog X.w) X.A (subscriptTail e (.Slice none none (some st) p2) (.ref a) (.ref s3.heap.objs.size)) (EP X pins σ Q) X.xe { s3 with heap := s3.heap.push { cls := .type "slice", data := .fields #[.none, .none, .int k t] } }
  exact tail_any (ops := [.ref a, .ref s3.heap.objs.size]) ht.isList.typeIs slot_list_getitem.lookup hg (by with_unfolding_all rfl)
end Wn
/-! sums of powers, and which cuts balance -/
namespace Wn
open PySem PySem.Spec PyProof.Rows L2
def geo (g : Nat) : Nat → Nat
  | 0 => 0
  | c + 1 => geo g c + g ^ c
theorem geo_add (g a : Nat) : ∀ d, geo g (a + d) = geo g a + g ^ a * geo g d
  | 0 => by simp [geo]
  | d + 1 => by
    rw [← Nat.add_assoc]
    show geo g (a + d) + g ^ (a + d) = geo g a + g ^ a * (geo g d + g ^ d)
    rw [geo_add g a d, Nat.mul_add, Nat.pow_add, Nat.add_assoc]
theorem geo_mul (g m : Nat) : ∀ c, geo g (m * c) = geo g m * geo (g ^ m) c
  | 0 => by simp [geo]
  | c + 1 => by
    show geo g (m * c + m) = geo g m * (geo (g ^ m) c + (g ^ m) ^ c)
    rw [geo_add, geo_mul g m c, Nat.mul_add, ← Nat.pow_mul, Nat.mul_comm (g ^ (m * c))]
theorem geo_tel (g : Nat) : ∀ c, geo g c * g + 1 = geo g c + g ^ c
  | 0 => by simp [geo]
  | c + 1 => by
    show (geo g c + g ^ c) * g + 1 = geo g c + g ^ c + g ^ (c + 1)
    rw [Nat.add_mul, Nat.pow_succ]
    have := geo_tel g c
    omega
def restSum (b n x s c : Nat) : Nat := ((List.range c).map fun i => rem b n x (s * i)).sum
theorem restSum_succ (b n x s c : Nat) : restSum b n x s (c + 1) = restSum b n x s c + rem b n x (s * c) := by
  unfold restSum
  rw [List.range_succ, List.map_append, List.sum_append]
  simp
theorem restSum_mod (b n x s : Nat) : ∀ c, restSum b n x s c % n = x * geo (b ^ s) c % n
  | 0 => by simp [restSum, geo]
  | c + 1 => by
    rw [restSum_succ, Nat.add_mod, restSum_mod b n x s c]
    show (_ + rem b n x (s * c) % n) % n = x * (geo (b ^ s) c + (b ^ s) ^ c) % n
    rw [Nat.mul_add, Nat.add_mod (x * _)]
    unfold rem
    rw [Nat.mod_mod, Nat.pow_mul]
def bal (b n s c : Nat) : Bool := decide (restSum b n 1 s c % n = 0)
theorem bal_iff {b n s c : Nat} : bal b n s c = true ↔ n ∣ geo (b ^ s) c := by
  unfold bal
  rw [decide_eq_true_eq, restSum_mod, Nat.one_mul]
  exact (Nat.dvd_iff_mod_eq_zero ..).symm
theorem bal_mul {b n s c m : Nat} (h : bal b n (m * s) c = true) : bal b n s (m * c) = true := by
  rw [bal_iff] at h ⊢
  rw [geo_mul, ← Nat.pow_mul, Nat.mul_comm s m]
  exact Nat.dvd_trans h (Nat.dvd_mul_left _ _)
theorem bal_prime {b n s c L : Nat} (hb : 1 ≤ b) (hn : 2 ≤ n) (hp : ∀ k, 2 ≤ k → k < n → ¬ n % k = 0) (hL : IsPer b n L) (hc : 2 ≤ c) (hs : 1 ≤ s) (e : L = s * c) : bal b n s c = true := by
  rw [bal_iff]
  have hsL : s < L := by
    rw [e]
    have : s * 2 ≤ s * c := Nat.mul_le_mul_left _ hc
    omega
  have g1 : 1 ≤ b ^ s := Nat.one_le_pow _ _ hb
  have h1 : (b ^ s) ^ c % n = 1 % n := by
    rw [← Nat.pow_mul, ← e]
    exact hL.2.1
  have h2 : ¬ n ∣ b ^ s - 1 := fun z => hL.2.2 s hs hsL ((mod_iff g1).mpr z).symm
  have t := geo_tel (b ^ s) c
  have t2 : geo (b ^ s) c * (b ^ s - 1) = (b ^ s) ^ c - 1 := by
    rw [Nat.mul_sub, Nat.mul_one]
    omega
  have h3 : n ∣ geo (b ^ s) c * (b ^ s - 1) := by
    rw [t2]
    exact (mod_iff (Nat.one_le_pow _ _ g1)).mp h1.symm
  have hd : Nat.gcd n (b ^ s - 1) ∣ n := Nat.gcd_dvd_left _ _
  have hdn := Nat.le_of_dvd (by omega) hd
  have hd0 : 1 ≤ Nat.gcd n (b ^ s - 1) := Nat.gcd_pos_of_pos_left _ (by omega)
  have hd1 : Nat.gcd n (b ^ s - 1) = 1 := by
    rcases Nat.lt_or_eq_of_le hdn with z | z
    · rcases Nat.lt_or_eq_of_le hd0 with y | y
      · exact absurd (Nat.mod_eq_zero_of_dvd hd) (hp _ y z)
      · exact y.symm
    · exact absurd (z ▸ Nat.gcd_dvd_right n (b ^ s - 1)) h2
  exact Nat.Coprime.dvd_of_dvd_mul_right hd1 h3
/-! which cuts -/
def from2 (k : Nat) : List Nat := (List.range k).map (2 + ·)
theorem from2_succ (k : Nat) : from2 (k + 1) = from2 k ++ [2 + k] := by
  unfold from2
  rw [List.range_succ, List.map_append]
  rfl
theorem mem_from2 {k c : Nat} : c ∈ from2 k ↔ 2 ≤ c ∧ c < 2 + k := by
  unfold from2
  rw [List.mem_map]
  constructor
  · rintro ⟨i, hi, rfl⟩
    rw [List.mem_range] at hi
    omega
  · rintro ⟨h1, h2⟩
    exact ⟨c - 2, List.mem_range.mpr (by omega), by omega⟩
def splitsL (L : Nat) : List Nat := (from2 (L - 1)).filter fun c => decide (L % c = 0)
theorem mem_splits {L c : Nat} (hL : 1 ≤ L) : c ∈ splitsL L ↔ 2 ≤ c ∧ c ∣ L := by
  unfold splitsL
  rw [List.mem_filter, mem_from2, decide_eq_true_eq]
  constructor
  · rintro ⟨⟨h1, h2⟩, h3⟩
    exact ⟨h1, Nat.dvd_of_mod_eq_zero h3⟩
  · rintro ⟨h1, h2⟩
    have := Nat.le_of_dvd hL h2
    exact ⟨⟨h1, by omega⟩, Nat.mod_eq_zero_of_dvd h2⟩
def dueL (b n L : Nat) : List Nat := (splitsL L).filter fun c => bal b n (L / c) c
def below (xs : List Nat) (c : Nat) : List Nat := xs.filter fun k => decide (k < c) && decide (c % k = 0)
def isLeast (xs : List Nat) (c : Nat) : Bool := (below xs c).isEmpty
def leastL (xs : List Nat) : List Nat := xs.filter (isLeast xs)
theorem asc_splits (L : Nat) : (splitsL L).Pairwise (· < ·) := by
  unfold splitsL from2
  refine List.Pairwise.filter _ ?_
  rw [List.pairwise_map]
  exact List.Pairwise.imp (fun h => by omega) List.pairwise_lt_range
theorem asc_due (b n L : Nat) : (dueL b n L).Pairwise (· < ·) := (asc_splits L).filter _
theorem isLeast_iff {xs : List Nat} {c : Nat} : isLeast xs c = true ↔ ∀ k ∈ xs, k < c → ¬ c % k = 0 := by
  unfold isLeast below
  rw [List.isEmpty_iff, List.filter_eq_nil_iff]
  constructor
  · intro h k hk hc hm
    exact h k hk (by rw [decide_eq_true hc, decide_eq_true hm]; rfl)
  · intro h k hk hm
    rw [Bool.and_eq_true, decide_eq_true_eq, decide_eq_true_eq] at hm
    exact h k hk hm.1 hm.2
theorem least_under {xs : List Nat} (h2 : ∀ k ∈ xs, 1 ≤ k) : ∀ (m k : Nat), k ≤ m → k ∈ xs → ∃ k0 ∈ xs, k0 ∣ k ∧ isLeast xs k0 = true
  | 0, k, hm, hk => absurd (h2 k hk) (by omega)
  | m + 1, k, hm, hk => by
    by_cases h : isLeast xs k = true
    · exact ⟨k, hk, Nat.dvd_refl k, h⟩
    · rw [isLeast_iff] at h
      have : ∃ j, j ∈ xs ∧ j < k ∧ k % j = 0 := by
        apply Classical.byContradiction
        intro z
        exact h fun j hj hl hm' => z ⟨j, hj, hl, hm'⟩
      obtain ⟨j, hj, hl, hm'⟩ := this
      obtain ⟨k0, h0, hd, hs⟩ := least_under h2 m j (by omega) hj
      exact ⟨k0, h0, Nat.dvd_trans hd (Nat.dvd_of_mod_eq_zero hm'), hs⟩
/-- the look at the least ones found so far -/
theorem least_step {xs : List Nat} (h2 : ∀ k ∈ xs, 1 ≤ k) (asc : xs.Pairwise (· < ·)) {i : Nat} (hi : i < xs.length) :
    (((xs.take i).filter (isLeast xs)).map fun k => !decide (xs[i] % k = 0)).all id = isLeast xs xs[i] := by
  rw [Bool.eq_iff_iff, List.all_map, List.all_eq_true, isLeast_iff]
  have lt : ∀ k ∈ xs.take i, k < xs[i] := fun k hk => by
    obtain ⟨j, hj, rfl⟩ := List.mem_iff_getElem.mp hk
    rw [List.length_take] at hj
    rw [List.getElem_take]
    exact List.pairwise_iff_getElem.mp asc j i (by omega) hi (by omega)
  have back : ∀ k ∈ xs, k < xs[i] → k ∈ xs.take i := fun k hk hl => by
    obtain ⟨j, hj, rfl⟩ := List.mem_iff_getElem.mp hk
    rw [List.mem_iff_getElem]
    have hji : j < i := by
      rcases Nat.lt_trichotomy j i with z | z | z
      · exact z
      · subst z
        omega
      · have := List.pairwise_iff_getElem.mp asc i j hi hj z
        omega
    exact ⟨j, by rw [List.length_take]; omega, by rw [List.getElem_take]⟩
  constructor
  · intro h k hk hl hm
    obtain ⟨k0, h0, hd, hs⟩ := least_under h2 k k (Nat.le_refl _) hk
    have hk0 : k0 < xs[i] := Nat.lt_of_le_of_lt (Nat.le_of_dvd (h2 k hk) hd) hl
    have := h k0 (List.mem_filter.mpr ⟨back k0 h0 hk0, hs⟩)
    rw [Function.comp_apply, id_eq, Bool.not_eq_true', decide_eq_false_iff_not] at this
    exact this (Nat.mod_eq_zero_of_dvd (Nat.dvd_trans hd (Nat.dvd_of_mod_eq_zero hm)))
  · intro h k hk
    obtain ⟨hk1, hk2⟩ := List.mem_filter.mp hk
    rw [Function.comp_apply, id_eq, Bool.not_eq_true', decide_eq_false_iff_not]
    exact h k (List.mem_of_mem_take hk1) (lt k hk1)
theorem due_mul {b n L c k : Nat} (hL : 1 ≤ L) (hc : c ∈ dueL b n L) (hk : k ∈ splitsL L) (hd : k % c = 0) : k ∈ dueL b n L := by
  obtain ⟨hc1, hc2⟩ := List.mem_filter.mp hc
  refine List.mem_filter.mpr ⟨hk, ?_⟩
  obtain ⟨k1, k2⟩ := (mem_splits hL).mp hk
  obtain ⟨c1, c2⟩ := (mem_splits hL).mp hc1
  obtain ⟨m, rfl⟩ := Nat.dvd_of_mod_eq_zero hd
  obtain ⟨s, rfl⟩ := k2
  have hm : 1 ≤ m := by
    rcases Nat.eq_zero_or_pos m with z | z
    · subst z
      omega
    · exact z
  have e1 : c * m * s / c = m * s := by
    rw [Nat.mul_assoc]
    exact Nat.mul_div_cancel_left _ (by omega)
  have e2 : c * m * s / (c * m) = s := Nat.mul_div_cancel_left _ (by omega)
  rw [e1] at hc2
  rw [e2, Nat.mul_comm c m]
  exact bal_mul hc2
theorem due_prime {b n L : Nat} (hb : 1 ≤ b) (hn : 2 ≤ n) (hp : ∀ k, 2 ≤ k → k < n → ¬ n % k = 0) (hL : IsPer b n L) : dueL b n L = splitsL L := by
  unfold dueL
  rw [List.filter_eq_self]
  intro c hc
  obtain ⟨h1, s, e⟩ := (mem_splits hL.1).mp hc
  have hs : 1 ≤ s := by
    rcases Nat.eq_zero_or_pos s with z | z
    · rw [z, Nat.mul_zero] at e
      have := hL.1
      omega
    · exact z
  have : L / c = s := by
    rw [e]
    exact Nat.mul_div_cancel_left _ (by omega)
  rw [this]
  exact bal_prime hb hn hp hL h1 hs (by rw [e, Nat.mul_comm])
/-! lists of whole numbers from 0 on -/
def vn (xs : List Nat) : List V := xs.map fun k => V.int (k : Nat)
def ni (xs : List Nat) : List Int := xs.map fun k => ((k : Nat) : Int)
theorem vn_ni (xs : List Nat) : vn xs = (ni xs).map V.int := by
  unfold vn ni
  rw [List.map_map]
  rfl
theorem vn_len (xs : List Nat) : (vn xs).length = xs.length := by simp [vn]
theorem vn_snoc (xs : List Nat) (k : Nat) : vn xs ++ [V.int (k : Nat)] = vn (xs ++ [k]) := by simp [vn]
theorem vn_get {xs : List Nat} {i : Nat} {y : V} (h : (vn xs)[i]? = some y) : ∃ hi : i < xs.length, y = V.int (xs[i] : Nat) := by
  unfold vn at h
  rw [List.getElem?_map] at h
  cases e : xs[i]? with
  | none =>
    rw [e] at h
    cases h
  | some n =>
    rw [e] at h
    obtain ⟨hi, e2⟩ := List.getElem?_eq_some_iff.mp e
    subst e2
    exact ⟨hi, (Option.some.inj h).symm⟩
theorem ni_sum : ∀ xs : List Nat, (ni xs).sum = ((xs.sum : Nat) : Int)
  | [] => rfl
  | x :: r => by
    show (x : Int) + (ni r).sum = ((x + r.sum : Nat) : Int)
    rw [ni_sum r]
    omega
theorem filt_yes {xs : List Nat} {g : Nat → Bool} {i : Nat} (hi : i < xs.length) (h : g xs[i] = true) : (xs.take (i + 1)).filter g = (xs.take i).filter g ++ [xs[i]] := by
  rw [List.take_succ_eq_append_getElem hi, List.filter_append, List.filter_cons, if_pos h]
  rfl
theorem filt_no {xs : List Nat} {g : Nat → Bool} {i : Nat} (hi : i < xs.length) (h : g xs[i] = false) : (xs.take (i + 1)).filter g = (xs.take i).filter g := by
  rw [List.take_succ_eq_append_getElem hi, List.filter_append, List.filter_cons, if_neg (by rw [h]; decide)]
  simp
theorem from2_len (k : Nat) : (from2 k).length = k := by simp [from2]
theorem from2_get {k i : Nat} (h : i < k) : (from2 k)[i]'(by rw [from2_len]; exact h) = 2 + i := by simp [from2]
theorem eqv_niL (ys : List Nat) : PyData.eqv (.list ((ni ys).map PyData.int)) (.list []) = ys.isEmpty := by
  cases ys with
  | nil => rfl
  | cons y r => rfl
theorem inV_ni (k : Nat) : ∀ xs : List Nat, inV (.int (k : Nat)) (vn xs) = decide (k ∈ xs) := by
  intro xs
  induction xs with
  | nil => rfl
  | cons y r ih =>
    show ((((y : Nat) : Int) == ((k : Nat) : Int)) || inV (.int (k : Nat)) (vn r)) = _
    rw [ih, Bool.eq_iff_iff, Bool.or_eq_true, beq_iff_eq, decide_eq_true_eq, decide_eq_true_eq, List.mem_cons]
    constructor
    · rintro (h | h)
      · exact .inl (by omega)
      · exact .inr h
    · rintro (h | h)
      · exact .inl (by omega)
      · exact .inr h
theorem flat_ni : ∀ xs : List Nat, (vn xs).all flatV = true
  | [] => rfl
  | _ :: r => flat_ni r
theorem blkOk_of {N N0 : List Str} {sc sc0 scope : Scope} {own : List (Str × Nat)} (hN : N = N0) (hs : sc = sc0) (h : blkC N0 sc0 scope own = true) : BlkOk N sc scope own := by
  subst hN hs
  exact blkOk_by h
end Wn
/-! values of digits, and the sum of the pieces -/
namespace Wn
open PySem PySem.Spec PyProof.Rows L2
def wrt (b : Nat) (ds : List Nat) : Nat := ds.foldl (fun f d => f * b + d) 0
theorem wrt_snoc (b : Nat) (ds : List Nat) (d : Nat) : wrt b (ds ++ [d]) = wrt b ds * b + d := by simp [wrt]
def dg (b n x lo c : Nat) : List Nat := (List.range c).map fun i => rem b n x (lo + i) * b / n
theorem dg_len (b n x lo c : Nat) : (dg b n x lo c).length = c := by simp [dg]
theorem dg_succ (b n x lo c : Nat) : dg b n x lo (c + 1) = dg b n x lo c ++ [rem b n x (lo + c) * b / n] := by
  unfold dg
  rw [List.range_succ, List.map_append]
  rfl
theorem wrt_dg (b n x lo : Nat) : ∀ c, n * wrt b (dg b n x lo c) + rem b n x (lo + c) = rem b n x lo * b ^ c
  | 0 => by simp [dg, wrt]
  | c + 1 => by
    have ih := wrt_dg b n x lo c
    have dm := Nat.div_add_mod (rem b n x (lo + c) * b) n
    rw [rem_succ] at dm
    rw [dg_succ, wrt_snoc, Nat.pow_succ, ← Nat.mul_assoc, ← ih, Nat.mul_add, Nat.add_mul, ← Nat.mul_assoc]
    have e : lo + (c + 1) = lo + c + 1 := rfl
    rw [e]
    omega
/-- the value of piece number j of k digits -/
def pce (b n x k j : Nat) : Nat := wrt b (dg b n x (k * j) k)
def pcs (b n x k c : Nat) : List Nat := (List.range c).map (pce b n x k)
theorem pcs_len (b n x k c : Nat) : (pcs b n x k c).length = c := by simp [pcs]
theorem pcs_succ (b n x k c : Nat) : pcs b n x k (c + 1) = pcs b n x k c ++ [pce b n x k c] := by
  unfold pcs
  rw [List.range_succ, List.map_append]
  rfl
theorem pcs_sum (b n x k : Nat) : ∀ c, n * (pcs b n x k c).sum + restSum b n x k c + rem b n x (k * c) = b ^ k * restSum b n x k c + rem b n x 0
  | 0 => by simp [pcs, restSum]
  | c + 1 => by
    have ih := pcs_sum b n x k c
    have w := wrt_dg b n x (k * c) k
    have e : k * (c + 1) = k * c + k := rfl
    rw [e, pcs_succ, List.sum_append, restSum_succ, Nat.mul_add, Nat.mul_add]
    have e2 : ([pce b n x k c] : List Nat).sum = pce b n x k c := by simp
    rw [e2]
    unfold pce
    rw [Nat.mul_comm (b ^ k) (rem b n x (k * c)), ← w]
    omega
theorem pcs_all {b n x k c : Nat} (hb : 1 ≤ b) (h : rem b n x (k * c) = rem b n x 0) : n * (pcs b n x k c).sum = (b ^ k - 1) * restSum b n x k c := by
  have e := pcs_sum b n x k c
  rw [h] at e
  have h1 : 1 ≤ b ^ k := Nat.one_le_pow _ _ hb
  rw [Nat.sub_mul, Nat.one_mul]
  omega
theorem pcs_quot {b n x k c : Nat} (hb : 2 ≤ b) (hk : 1 ≤ k) (hn : 1 ≤ n) (h : rem b n x (k * c) = rem b n x 0) :
    ((pcs b n x k c).sum % (b ^ k - 1) = 0 ↔ restSum b n x k c % n = 0) ∧ (restSum b n x k c % n = 0 → (pcs b n x k c).sum / (b ^ k - 1) = restSum b n x k c / n) := by
  have e := pcs_all (b := b) (n := n) (x := x) (k := k) (c := c) (by omega) h
  have h1 : 2 ≤ b ^ k := Nat.le_trans hb (Nat.le_self_pow (by omega) b)
  generalize (pcs b n x k c).sum = S at e ⊢
  generalize restSum b n x k c = R at e ⊢
  generalize hm : b ^ k - 1 = m at e ⊢
  have m1 : 1 ≤ m := by omega
  refine ⟨⟨fun z => ?_, fun z => ?_⟩, fun z => ?_⟩
  · obtain ⟨q, rfl⟩ := Nat.dvd_of_mod_eq_zero z
    have : m * R = m * (n * q) := by rw [← e, Nat.mul_left_comm]
    rw [Nat.eq_of_mul_eq_mul_left m1 this]
    exact Nat.mul_mod_right _ _
  · obtain ⟨q, rfl⟩ := Nat.dvd_of_mod_eq_zero z
    have : n * S = n * (m * q) := by rw [e, Nat.mul_left_comm]
    rw [Nat.eq_of_mul_eq_mul_left hn this]
    exact Nat.mul_mod_right _ _
  · obtain ⟨q, rfl⟩ := Nat.dvd_of_mod_eq_zero z
    have : n * S = n * (m * q) := by rw [e, Nat.mul_left_comm]
    rw [Nat.eq_of_mul_eq_mul_left hn this, Nat.mul_div_cancel_left _ m1, Nat.mul_div_cancel_left _ hn]
theorem pce_lt {b n x k j : Nat} (hb : 1 ≤ b) (hn : 1 ≤ n) : pce b n x k j < b ^ k := by
  have w := wrt_dg b n x (k * j) k
  have r := rem_lt (b := b) (n := n) (x := x) (i := k * j) hn
  unfold pce
  have h1 : n * wrt b (dg b n x (k * j) k) ≤ rem b n x (k * j) * b ^ k := by omega
  have h2 : rem b n x (k * j) * b ^ k < n * b ^ k := Nat.mul_lt_mul_of_pos_right r (Nat.pow_pos hb)
  exact Nat.lt_of_mul_lt_mul_left (Nat.lt_of_le_of_lt h1 h2)
theorem rem_period {b n x L : Nat} (h : b ^ L % n = 1 % n) : rem b n x L = rem b n x 0 := by
  unfold rem
  rw [Nat.mul_mod, h, ← Nat.mul_mod, Nat.pow_zero]
/-! whole numbers of more signs -/
theorem Sm.intB {i : Int} {k : Nat} (hk : 1 ≤ k) (h : i.natAbs < 2 ^ k) (hk2 : k ≤ 1000) : Sm (.int i) 303 0 k := by
  have hl := log2_lt hk h
  have h12 : i.natAbs < 10 ^ 302 := Nat.lt_of_lt_of_le h (Nat.le_trans (Nat.pow_le_pow_right (by decide) hk2) (by decide +kernel))
  refine ⟨?_, ?_, rfl, rfl, Nat.le_refl _, ?_⟩
  · show decide (i.natAbs.log2 < 1920) = true
    exact decide_eq_true (by omega)
  · show decide ((PyData.shown (.int i)).length ≤ 303) = true
    refine decide_eq_true ?_
    have e := int_text_length_le10 (k := 302) (by decide) h12
    show (Str.ofString (toString i)).length ≤ 303
    rw [PySem.ofString_length]
    exact e
  · show 0 ≤ k
    omega
/-- .. of up to 1900 bits -/
theorem Sm.intW {i : Int} (h : i.natAbs < 2 ^ 1900) : Sm (.int i) 600 0 0 := by
  have hl := log2_lt (k := 1900) (by decide) h
  have h12 : i.natAbs < 10 ^ 599 := Nat.lt_of_lt_of_le h (by decide +kernel)
  refine ⟨?_, ?_, rfl, rfl, Nat.le_refl _, Nat.le_refl _⟩
  · show decide (i.natAbs.log2 < 1920) = true
    exact decide_eq_true (by omega)
  · show decide ((PyData.shown (.int i)).length ≤ 600) = true
    refine decide_eq_true ?_
    have e := int_text_length_le10 (k := 599) (by decide) h12
    show (Str.ofString (toString i)).length ≤ 600
    rw [PySem.ofString_length]
    exact e
theorem Sm.int0 {i : Int} {k : Nat} (hk : 1 ≤ k) (h : i.natAbs < 2 ^ k) (hk2 : k ≤ 39) : Sm (.int i) 13 0 0 := by
  obtain ⟨a, b, c, d, e, _⟩ := Sm.int hk h hk2
  exact ⟨a, b, c, d, e, Nat.le_refl _⟩
end Wn
/-! d.update(e) for dicts of whole numbers and texts; dict(xs) with a name -/
namespace Wn
open PySem PySem.Spec PyProof.Rows L2
def rUpd : V → List V → Hp → VK → Prop := fun x vs H Q => ∃ (a o : Addr) (kvs more : List (Key × V)), x = .ref a ∧ vs = [.ref o] ∧ a ≠ o ∧ H a = some (.dK kvs) ∧ H o = some (.dK more) ∧ kvs.length + more.length ≤ sizeLine ∧ Q .non (upd H a (.dK (mergeK kvs more)))
theorem mt_update {X : Cx} : MtR X "dict.update" rUpd := by
  intro pins s σ H x vs v us Q I rx rv h
  obtain ⟨a, o, kvs, more, rfl, rfl, hne, ha, ho, hz, q⟩ := h
  cases rx
  obtain ⟨u, rfl, ru⟩ := rv.one
  cases ru
  obtain ⟨z1, n1, vs1, rel1, d1⟩ := dk_of I.hok ha
  obtain ⟨z2, n2, vs2, rel2, d2⟩ := dk_of I.hok ho
  have l1 := rel1.length
  have l2 := rel2.length
  refine call_meetsIn PySem.F.slot_dict_update d1.typeIs PySem.F.entry_dict_update (PySem.F.args_dict_update_2 _ _) (meets_dict_update (mixKind X.prog X.w) a o hne n2) ⟨vs1, vs2, d1, d2, by omega, fun h' d1' d2' hs => ?_⟩
  have hlm := length_mergeK more kvs
  have he : ∃ q, h'.get? a = some q := let ⟨q, _, _, hq, _⟩ := d1'; ⟨q, hq⟩
  exact ⟨.non, _, d_write I (by rw [ha]; exact True.intro) hs he (dk_new (by omega) n1 (rel2.merge rel1) d1'), rfl, q⟩
def rDP (K : PySem.W.Frag) : List V → Hp → VK → Prop := fun xs H Q => ∃ (a : Addr) (ps : List Addr) (kvs : List (Key × V)), xs = [.ref a] ∧ SqL K H a (ps.map V.ref) ∧ Paired (fun p kv => SqT K H p [kV kv.1, kv.2]) ps kvs ∧
    ∀ p, H p = none → Q (.ref p) (upd H p (.dK (mergeK [] kvs)))
theorem call_dP {X : Cx} (h : X.calm = true) : CallR X (.type "dict") (rDP X.K) := call_dictP h
theorem valV_merge : ∀ (more kvs : List (Key × V)) (k : Key), (valV (mergeK kvs more) k).isSome = ((valV kvs k).isSome || decide (∃ kv ∈ more, kv.1 = k))
  | [], kvs, k => by simp [mergeK]
  | p :: r, kvs, k => by
    show (valV (mergeK (putK kvs p.1 p.2) r) k).isSome = _
    rw [valV_merge r, valV_put, Bool.eq_iff_iff]
    by_cases e : k = p.1
    · subst e
      simp
    · rw [if_neg e]
      have e' : ¬ p.1 = k := fun z => e z.symm
      simp [e']
end Wn
/-! wheels: rows of remainders -/
namespace Wn
open PySem PySem.Spec PyProof.Rows L2
def topB (b n L x : Nat) : Bool := decide (Nat.gcd x n = 1) && (List.range L).all fun i => decide (x ≤ rem b n x i)
def wl (b n L : Nat) : List Nat := (List.range n).filter (topB b n L)
def InOrb (b n L y r : Nat) : Prop := ∃ i, i < L ∧ rem b n y i = r
theorem top_iff {b n L x : Nat} : topB b n L x = true ↔ Nat.gcd x n = 1 ∧ ∀ i, i < L → x ≤ rem b n x i := by
  unfold topB
  rw [Bool.and_eq_true, decide_eq_true_eq, List.all_eq_true]
  constructor
  · rintro ⟨h1, h2⟩
    refine ⟨h1, fun i hi => ?_⟩
    have := h2 i (List.mem_range.mpr hi)
    rwa [decide_eq_true_eq] at this
  · rintro ⟨h1, h2⟩
    exact ⟨h1, fun i hi => decide_eq_true (h2 i (List.mem_range.mp hi))⟩
theorem rem_rem (b n y i j : Nat) : rem b n (rem b n y i) j = rem b n y (i + j) := by
  unfold rem
  rw [Nat.mod_mul_mod, Nat.mul_assoc, ← Nat.pow_add]
theorem rem_per {b n L y : Nat} (h : IsPer b n L) (hy : y < n) : rem b n y L = y := by
  unfold rem
  rw [Nat.mul_mod, h.2.1, ← Nat.mul_mod, Nat.mul_one, Nat.mod_eq_of_lt hy]
theorem orb_symm {b n L x y : Nat} (h : IsPer b n L) (hy : y < n) (o : InOrb b n L y x) : InOrb b n L x y := by
  obtain ⟨i, hi, e⟩ := o
  subst e
  rcases Nat.eq_zero_or_pos i with z | z
  · subst z
    exact ⟨0, h.1, by rw [rem_rem, rem_zero hy]⟩
  · exact ⟨L - i, by omega, by rw [rem_rem, show i + (L - i) = L by omega, rem_per h hy]⟩
theorem rem_cop {b n x : Nat} (g : Nat.gcd b n = 1) (gx : Nat.gcd x n = 1) (i : Nat) : Nat.gcd (rem b n x i) n = 1 := by
  unfold rem
  rw [← Nat.gcd_rec n (x * b ^ i), Nat.gcd_comm]
  exact Nat.Coprime.mul_left gx (cop_pow g i)
theorem not_top {b n L x : Nat} (g : Nat.gcd b n = 1) (h : IsPer b n L) (hx : x < n) (gx : Nat.gcd x n = 1) : topB b n L x = false ↔ ∃ y, y < x ∧ Nat.gcd y n = 1 ∧ InOrb b n L y x := by
  have hn : 1 ≤ n := by omega
  constructor
  · intro z
    have z' : ¬ topB b n L x = true := by rw [z]; decide
    rw [top_iff] at z'
    have : ∃ i, i < L ∧ rem b n x i < x := by
      apply Classical.byContradiction
      intro c
      exact z' ⟨gx, fun i hi => Nat.le_of_not_lt fun l => c ⟨i, hi, l⟩⟩
    obtain ⟨i, hi, l⟩ := this
    exact ⟨_, l, rem_cop g gx i, orb_symm h hx ⟨i, hi, rfl⟩⟩
  · rintro ⟨y, hy, gy, o⟩
    obtain ⟨j, hj, e⟩ := orb_symm h (by omega) o
    cases c : topB b n L x with
    | false => rfl
    | true =>
      have := (top_iff.mp c).2 j hj
      omega
/-- who has been met before x comes -/
def Met (b n L k r : Nat) : Prop := ∃ y, y < k ∧ Nat.gcd y n = 1 ∧ InOrb b n L y r
theorem met_top {b n L k r : Nat} (g : Nat.gcd b n = 1) (h : IsPer b n L) (hk : k ≤ n) : Met b n L k r ↔ ∃ y, y < k ∧ topB b n L y = true ∧ InOrb b n L y r := by
  constructor
  · rintro ⟨y, hy, gy, i, hi, e⟩
    -- the least of its row
    obtain ⟨m, hm, ⟨j, hj, ej⟩, q⟩ := least (fun z => ∃ j, j < L ∧ rem b n y j = z) y ⟨0, h.1, rem_zero (by omega)⟩
    have hjm : rem b n y j = m := ej
    refine ⟨m, by omega, top_iff.mpr ⟨?_, fun t ht => ?_⟩, ?_⟩
    · rw [← hjm]
      exact rem_cop g gy j
    · apply Nat.le_of_not_lt
      intro l
      refine q _ l ⟨(j + t) % L, Nat.mod_lt _ h.1, ?_⟩
      rw [← hjm, rem_rem]
      have := Nat.div_add_mod (j + t) L
      show rem b n y ((j + t) % L) = rem b n y (j + t)
      conv => rhs; rw [← this]
      rw [← rem_rem]
      congr 1
      unfold rem
      rw [Nat.mul_mod, h.mul, ← Nat.mul_mod, Nat.mul_one, Nat.mod_eq_of_lt (by omega)]
    · refine ⟨(L - j + i) % L, Nat.mod_lt _ h.1, ?_⟩
      have := Nat.div_add_mod (L - j + i) L
      rw [← e, ← hjm, rem_rem]
      have e2 : rem b n y (j + (L - j + i) % L) = rem b n y (j + (L - j + i)) := by
        conv => rhs; rw [← this]
        rw [show j + (L * ((L - j + i) / L) + (L - j + i) % L) = L * ((L - j + i) / L) + (j + (L - j + i) % L) by omega, ← rem_rem (i := L * ((L - j + i) / L))]
        congr 1
        unfold rem
        rw [Nat.mul_mod, h.mul, ← Nat.mul_mod, Nat.mul_one, Nat.mod_eq_of_lt (by omega)]
      rw [e2, show j + (L - j + i) = L + i by omega, ← rem_rem, rem_per h (by omega)]
  · rintro ⟨y, hy, t, o⟩
    exact ⟨y, hy, (top_iff.mp t).1, o⟩
theorem met_succ {b n L k r : Nat} : Met b n L (k + 1) r ↔ Met b n L k r ∨ (Nat.gcd k n = 1 ∧ InOrb b n L k r) := by
  constructor
  · rintro ⟨y, hy, gy, o⟩
    rcases Nat.lt_or_eq_of_le (show y ≤ k by omega) with z | z
    · exact .inl ⟨y, z, gy, o⟩
    · subst z
      exact .inr ⟨gy, o⟩
  · rintro (⟨y, hy, gy, o⟩ | ⟨gk, o⟩)
    · exact ⟨y, by omega, gy, o⟩
    · exact ⟨k, by omega, gk, o⟩
/-- a number whose least one stands before it brings nothing new -/
theorem met_skip {b n L k r : Nat} (g : Nat.gcd b n = 1) (h : IsPer b n L) (hk : k < n) (c : topB b n L k = false) : Met b n L (k + 1) r ↔ Met b n L k r := by
  rw [met_top g h (by omega), met_top g h (by omega)]
  constructor
  · rintro ⟨y, hy, t, o⟩
    rcases Nat.lt_or_eq_of_le (show y ≤ k by omega) with z | z
    · exact ⟨y, z, t, o⟩
    · subst z
      rw [c] at t
      cases t
  · rintro ⟨y, hy, t, o⟩
    exact ⟨y, by omega, t, o⟩
def rl (b n x L : Nat) : List Nat := (List.range L).map fun i => rem b n x i
theorem rl_len (b n x L : Nat) : (rl b n x L).length = L := by simp [rl]
theorem mem_rl {b n x L r : Nat} : r ∈ rl b n x L ↔ InOrb b n L x r := by
  unfold rl
  rw [List.mem_map]
  constructor
  · rintro ⟨i, hi, e⟩
    exact ⟨i, List.mem_range.mp hi, e⟩
  · rintro ⟨i, hi, e⟩
    exact ⟨i, List.mem_range.mpr hi, e⟩
theorem rl_lt {b n x L r : Nat} (hn : 1 ≤ n) (h : r ∈ rl b n x L) : r < n := by
  obtain ⟨i, _, rfl⟩ := mem_rl.mp h
  exact rem_lt hn
def copL (n : Nat) : List Nat := (List.range n).filter fun x => decide (Nat.gcd x n = 1)
theorem wl_take_succ {b n L k : Nat} (hk : k < n) : ((List.range n).take (k + 1)).filter (topB b n L) = ((List.range n).take k).filter (topB b n L) ++ (if topB b n L k = true then [k] else []) := by
  rw [List.take_succ_eq_append_getElem (by simpa using hk), List.filter_append, List.getElem_range, List.filter_cons]
  split <;> simp
end Wn
namespace Wn
open PySem PySem.Spec PyProof.Rows L2
theorem orb_trans {b n L x y r : Nat} (h : IsPer b n L) (hy : y < n) (o : InOrb b n L y x) (o2 : InOrb b n L x r) : InOrb b n L y r := by
  obtain ⟨i, hi, rfl⟩ := o
  obtain ⟨j, hj, rfl⟩ := o2
  refine ⟨(i + j) % L, Nat.mod_lt _ h.1, ?_⟩
  rw [rem_rem]
  have := Nat.div_add_mod (i + j) L
  show rem b n y ((i + j) % L) = rem b n y (i + j)
  conv => rhs; rw [← this]
  rw [← rem_rem]
  congr 1
  unfold rem
  rw [Nat.mul_mod, h.mul, ← Nat.mul_mod, Nat.mul_one, Nat.mod_eq_of_lt hy]
theorem asc_cop (n : Nat) : (copL n).Pairwise (· < ·) := List.Pairwise.filter _ List.pairwise_lt_range
theorem mem_cop {n x : Nat} : x ∈ copL n ↔ x < n ∧ Nat.gcd x n = 1 := by
  unfold copL
  rw [List.mem_filter, List.mem_range, decide_eq_true_eq]
theorem cop_len (n : Nat) : (copL n).length ≤ n := by
  unfold copL
  exact Nat.le_trans (List.length_filter_le _ _) (by simp)
theorem cop_take {n i y : Nat} (hi : i < (copL n).length) : y ∈ (copL n).take i ↔ y < (copL n)[i] ∧ Nat.gcd y n = 1 := by
  have hx := mem_cop.mp (List.getElem_mem hi)
  constructor
  · intro h
    obtain ⟨j, hj, rfl⟩ := List.mem_iff_getElem.mp h
    rw [List.length_take] at hj
    rw [List.getElem_take]
    exact ⟨List.pairwise_iff_getElem.mp (asc_cop n) j i (by omega) hi (by omega), (mem_cop.mp (List.getElem_mem _)).2⟩
  · rintro ⟨hl, hg⟩
    have hm : y ∈ copL n := mem_cop.mpr ⟨by omega, hg⟩
    obtain ⟨j, hj, rfl⟩ := List.mem_iff_getElem.mp hm
    rw [List.mem_iff_getElem]
    have hji : j < i := by
      rcases Nat.lt_trichotomy j i with z | z | z
      · exact z
      · subst z
        omega
      · have := List.pairwise_iff_getElem.mp (asc_cop n) i j hi hj z
        omega
    exact ⟨j, by rw [List.length_take]; omega, by rw [List.getElem_take]⟩
theorem cop_top (b n L : Nat) : (copL n).filter (topB b n L) = wl b n L := by
  unfold copL wl
  rw [List.filter_filter]
  congr 1
  funext x
  cases t : topB b n L x with
  | false => rfl
  | true => rw [decide_eq_true (top_iff.mp t).1]; rfl
theorem valV_mem : ∀ (l : List (Key × V)) (k : Key), (valV l k).isSome = true ↔ ∃ kv ∈ l, kv.1 = k
  | [], k => by simp [valV]
  | p :: r, k => by
    by_cases e : p.1 = k
    · rw [valV_pos e]
      simp [e]
    · rw [valV_neg e, valV_mem r]
      simp [e]
end Wn
/-! set(xs) of a list of whole numbers -/
namespace Wn
open PySem PySem.Spec PyProof.Rows L2
abbrev eSet (w : World) : Obj := { cls := .type "set", dict := none, data := .set #[] 0 (.fresh 0 0 (!w.params.followText "set-order")) }
section
variable {P : Program} {w : World} {A : Around} {E : Value → Shared → Prop} {z : Shared}
theorem set_lst {l : Addr} {us : Array Value} (ks : List Int) {Q : Value → Shared → Prop} (hh : A.handled = none) (hl : z.heap.IsList l us) (hu : IntsAre us.toList ks) (hb : ks.length + 1 < scanBound)
    (go : ∀ (hp : Heap) (tk c : Nat), SetR w hp z.heap.objs.size (fun j => decide (j ∈ ks)) c → (∀ b o, z.heap.get? b = some o → hp.get? b = some o) → Q (.ref z.heap.objs.size) { z with heap := hp, toks := tk }) :
    wpAny (model P w) A (call (.type "set") [.ref l]) Q E z := by
  have hsz : us.size = ks.length := Array.length_toList (xs := us) ▸ IntsAre.length hu
  obtain ⟨c0, t0, mr⟩ := F.called_set.mro
  have p1 := F.called_set.made; have p2 := F.called_set.sub
  refine wpAny_call (codeAny_of_tree (show wpAny _ _ (callAny (.type "set") _) _ _ _ from wpAny_pure ⟨Code.quiet_builtin _ (by decide +kernel), codeAny_builtin F.entry_type_call ?_⟩))
  rw [Around.under_plain (weight_type_call_type "set" [Value.ref l] []) rfl]
  have p3 := F.called_set.notType; have p4 := F.called_set.canCreate; have p5 := F.typeCall_set_1 (.ref l)
  repeat (any_goals (first | assumption | wp_step))
  refine codeAny_mono (code_set_led1 (.ref l) (E := E) (Q₁ := fun v s1 => v = .ref z.heap.objs.size ∧ s1 = { z with heap := z.heap.push (eSet w) }) ⟨rfl, rfl⟩) fun r s1 hr => ?_
  cases r with
  | error e => exact hr
  | ok fl =>
    cases fl with
    | ret v =>
      obtain ⟨rfl, rfl⟩ := hr
      have aS : (z.heap.push (eSet w)).get? z.heap.objs.size = some (eSet w) := Heap.get?_push_size _ rfl
      have tS : Shared.TypeIs { z with heap := z.heap.push (eSet w) } (.ref z.heap.objs.size) "set" := ⟨_, aS, rfl⟩
      have p6 := F.called_set.init.lookup; have p7 := F.called_set.init.bind (.ref z.heap.objs.size)
      repeat (any_goals (first | assumption | wp_step))
      refine codeAny_mono (codeAny_call_builtin (R := wants (fun r s2 => r = .none ∧ ∃ hp tk c, s2 = { z with heap := hp, toks := tk } ∧ SetR w hp z.heap.objs.size (fun j => decide (j ∈ ks)) c ∧ (∀ b o, z.heap.get? b = some o → hp.get? b = some o)) E)
        F.called_set.init.plain F.entry_set_init (check_set_init_1 tS ?_)) fun r2 s2 hr2 => ?_
      · obtain ⟨⟨oc, od, odata, osl⟩, ho, hc, nl, hd⟩ := hl
        simp only at hc hd; subst hc; subst hd
        have ho' : (z.heap.push (eSet w)).get? l = some { cls := .type "list", dict := od, data := .seq us nl, slots := osl } := Heap.get?_push_of_some _ ho
        have q1 := F.sub_list_set; have q2 := F.sub_list_frozenset
        have q3 : (Value.type "list" == Value.type "dict") = false := by decide
        have il : (z.heap.push (eSet w)).IsList l us := ⟨_, ho', rfl, nl, rfl⟩
        unfold Builtin.«set.__init__» noKeywords Builtin.Frozenset.updateFrom
        generalize eI : pyIter = PI; wp_walk; subst eI
        refine wpAny_pyIter_list il (wpAny_bind (wpAny_runValue ?_))
        have lt : l < z.heap.objs.size := Heap.lt_size ho
        have h3 : A.in1.in1.in1.handled = none := by simp [hh]
        have eI : (z.heap.push (eSet w)).objs.size = z.heap.objs.size + 1 := Heap.size_push ..
        have nI : l ≠ (z.heap.push (eSet w)).objs.size := by rw [eI]; exact Nat.ne_of_lt (Nat.lt_succ_of_lt lt)
        have nS : z.heap.objs.size ∉ [(z.heap.push (eSet w)).objs.size, l] := by
          rw [eI]; simp only [List.mem_cons, List.not_mem_nil, or_false]; exact fun h => h.elim (Nat.ne_of_lt (Nat.lt_succ_self _)) (Nat.ne_of_gt lt)
        have items : ∀ (i : Nat) (v : Value), us[i]? = some v → ∃ k t, ks[i]? = some k ∧ v = .int k t := fun i v hv => by
          have hi : i < ks.length := hsz ▸ (Array.getElem?_eq_some_iff.mp hv).1
          obtain ⟨t, e⟩ := PyProof.Rows.IntsAre.int_at hu i v (by simpa using hv)
          exact ⟨ks[i], t, by simp [hi], by rw [e]; simp [hi]⟩
        refine set_update_ints ((Walks.list h3 _ l nI us).toS) z.heap.objs.size nS ks hsz hb items (us.size - 0) 0 _ (by omega) (Nat.zero_le _) ⟨⟨_, Heap.get?_push_size _ rfl, rfl, rfl⟩, il.push _⟩ ⟨0, Nat.le_refl 0, setR_new_at (Heap.get?_push_of_some _ aS)⟩ fun s3 c3 mv hc3 R3 => ?_
        obtain ⟨h3', g3, d3, tk3, os3⟩ := s3
        have e1 : g3 = z.gens := mv.gens; have e2 : d3 = z.drawn := mv.drawn; have e3 : os3 = z.os := mv.os
        subst e1; subst e2; subst e3
        refine wpAny_pure (show wpAny _ _ (ret Value.none) _ _ _ from wpAny_pure ⟨rfl, h3', tk3, c3, rfl, R3, fun b o e => ?_⟩)
        have lb : b < z.heap.objs.size := Heap.lt_size e
        refine mv.heap b o ?_ (Heap.get?_push_of_some _ (Heap.get?_push_of_some _ e))
        simp only [List.mem_cons, List.not_mem_nil, or_false]; rw [eI]; exact fun h => h.elim (Nat.ne_of_lt lb) (Nat.ne_of_lt (Nat.lt_succ_of_lt lb))
      · cases r2 with
        | error e => exact hr2
        | ok fl2 =>
          cases fl2 with
          | ret r =>
            obtain ⟨rfl, hp, tk, c, rfl, R, kp⟩ := hr2
            repeat (any_goals (first | assumption | wp_step))
            exact go _ _ _ R kp
          | _ => exact hr2.elim
    | _ => exact hr.elim
end
theorem ints_vals : ∀ {ns : List Int} {us : List Value}, Vals (ns.map V.int) us → IntsAre us ns
  | [], _, .nil => .nil
  | _ :: _, _, .cons ⟨k, e⟩ t => e ▸ IntsAre.cons _ k (ints_vals t)
def rSetL (K : PySem.W.Frag) (w : World) : List V → Hp → VK → Prop := fun xs H Q => ∃ (l : Addr) (ns : List Int), xs = [V.ref l] ∧ SqL K H l (ns.map V.int) ∧ ns.length ≤ 4000 ∧
  ∀ (a : Addr) (ks : List Int), H a = none → ks.Nodup → (∀ k, k ∈ ks ↔ k ∈ ns) → Q (.ref a) (upd H a (SetO w a (fun j => decide (j ∈ ns)) ks.length))
theorem call_setL {X : Cx} (hc : X.calm = true) : CallR X (.type "set") (rSetL X.K X.w) := by
  intro pins s σ H xs us Q I r h
  obtain ⟨l, ns, rfl, hs, hz, q⟩ := h
  obtain ⟨its, rv, hl, _⟩ := I.list hs
  rw [Vals.ref1 r]
  refine set_lst ns (I.ok.hd hc) hl.isList (by simpa using ints_vals rv) (by unfold scanBound; omega) fun hp tk c R kp => ?_
  have R' := R
  obtain ⟨o, es, ep, t, _, _, _, _, nd, hm, _, _, hn, _⟩ := R
  have e : (es.toList.map keyOf).length = c := by rw [List.length_map, Array.length_toList, hn]
  have free := I.hok.fresh (Nat.le_refl s.heap.objs.size)
  have q' := q s.heap.objs.size (es.toList.map keyOf) free nd (fun k => by rw [← hm]; simp)
  rw [e] at q'
  exact ⟨.ref _, _, I.laid (t' := tk) kp (Nat.le_refl _) (setO_new R'), rfl, q'⟩
/-! ascending lists with the same members are one -/
theorem asc_eq : ∀ {xs ys : List Int}, xs.Pairwise (· < ·) → ys.Pairwise (· < ·) → (∀ k, k ∈ xs ↔ k ∈ ys) → xs = ys
  | [], [], _, _, _ => rfl
  | [], y :: ys, _, _, h => absurd ((h y).mpr List.mem_cons_self) (by simp)
  | x :: xs, [], _, _, h => absurd ((h x).mp List.mem_cons_self) (by simp)
  | x :: xs, y :: ys, hx, hy, h => by
    have hx' := List.pairwise_cons.mp hx
    have hy' := List.pairwise_cons.mp hy
    have e : x = y := by
      rcases List.mem_cons.mp ((h x).mp List.mem_cons_self) with z | z
      · exact z
      · rcases List.mem_cons.mp ((h y).mpr List.mem_cons_self) with z2 | z2
        · exact z2.symm
        · have h1 := hy'.1 x z
          have h2 := hx'.1 y z2
          omega
    subst e
    rw [asc_eq hx'.2 hy'.2 fun k => ?_]
    have hk := h k
    simp only [List.mem_cons] at hk
    constructor
    · intro z
      rcases hk.mp (.inr z) with z2 | z2
      · have := hx'.1 k z
        omega
      · exact z2
    · intro z
      rcases hk.mpr (.inr z) with z2 | z2
      · have := hy'.1 k z
        omega
      · exact z2
end Wn
/-! a tuple times any small number -/
namespace Wn
open PySem PySem.Spec PyProof.Rows L2
theorem tmul_same (l : Addr) (us : Array Value) (n : Nat) (dd : Option Addr) (sl : Array (Option Value)) (k : Int) (u : Tok) (c0 : (decide (k < -(2 ^ 63)) || decide (k ≥ 2 ^ 63)) = false) (c1 : (us.isEmpty || k == 1) = true) :
    Meets (Builtin.«tuple.__mul__» ⟨[.ref l, .int k u], []⟩) (fun _ R s => s.heap.get? l = some { cls := .type "tuple", dict := dd, data := .seq us n, slots := sl } ∧ R (.ok (.ret (Value.ref l))) s) :=
  .of_wp fun prog w A R s ⟨hl, go⟩ => by
    obtain ⟨hp, g, d, tk, os⟩ := s
    have f1 := AutoSeq1.idx_int
    wp_walk using wpAny_loadPart' hl
    repeat (first
      | (refine wpAny_ite_false (decide_eq_false (by rw [c0]; exact Bool.false_ne_true)) ?_; wp_walk using wpAny_loadPart' hl)
      | (refine wpAny_ite_true (decide_eq_true (by rw [c1])) ?_; wp_walk using wpAny_loadPart' hl))
    exact ⟨_, rfl, go⟩
theorem tmul_none (l : Addr) (us : Array Value) (n : Nat) (dd : Option Addr) (sl : Array (Option Value)) (k : Int) (u : Tok) (c0 : (decide (k < -(2 ^ 63)) || decide (k ≥ 2 ^ 63)) = false) (c1 : (us.isEmpty || k == 1) = false) (c2 : (decide (k ≤ 0) || us.isEmpty) = true) :
    Meets (Builtin.«tuple.__mul__» ⟨[.ref l, .int k u], []⟩) (fun _ R s => s.heap.get? l = some { cls := .type "tuple", dict := dd, data := .seq us n, slots := sl } ∧
      R (.ok (.ret (Value.ref s.heap.objs.size))) { s with heap := s.heap.push { cls := Value.type "tuple", data := Data.seq #[] }, toks := s.toks }) :=
  .of_wp fun prog w A R s ⟨hl, go⟩ => by
    obtain ⟨hp, g, d, tk, os⟩ := s
    have f1 := AutoSeq1.idx_int
    wp_walk using wpAny_loadPart' hl
    repeat (first
      | (refine wpAny_ite_false (decide_eq_false (by rw [c0]; exact Bool.false_ne_true)) ?_; wp_walk using wpAny_loadPart' hl)
      | (refine wpAny_ite_false (decide_eq_false (by rw [c1]; exact Bool.false_ne_true)) ?_; wp_walk using wpAny_loadPart' hl)
      | (refine wpAny_ite_true (decide_eq_true (by rw [c2])) ?_; wp_walk using wpAny_loadPart' hl))
    exact ⟨_, rfl, go⟩
def rRepG (K : PySem.W.Frag) : R2 := fun x y H Q => ∃ (l : Addr) (k : Int) (xs : List V), x = .ref l ∧ y = .int k ∧ SqT K H l xs ∧ (-1000 ≤ k ∧ k ≤ 1000 ∧ xs.length ≤ 1000) ∧
  ((k = 1 ∨ xs = []) → Q (.ref l) H) ∧ (k ≠ 1 → xs ≠ [] → ∀ p, H p = none → Q (.ref p) (upd H p (.tup (List.replicate k.toNat xs).flatten)))
theorem op_repG {X : Cx} : OpR X (binaryOp .Mult) (rRepG X.K) := by
  intro pins s σ H x y v u Q I rx ry h
  obtain ⟨l, k, xs, rfl, rfl, hT, ⟨h0, h1, hz⟩, q1, q2⟩ := h
  by_cases hb : 2 ≤ k ∧ xs ≠ []
  · exact op_repT pins s σ H _ _ _ _ _ I rx ry ⟨l, k, xs, rfl, rfl, hT, hb.2, hb.1, h1, hz, q2 (by omega) hb.2⟩
  cases rx
  obtain ⟨t, rfl⟩ := ry
  obtain ⟨its, r, ⟨⟨cls, dd, data, sl⟩, ho, hc, n, hd⟩, hs⟩ := I.tuple hT
  simp only at hc hd
  subst hc hd
  have c0 : (decide (k < -(2 ^ 63)) || decide (k ≥ 2 ^ 63)) = false := by
    rw [decide_eq_false (by omega), decide_eq_false (by omega)] <;> rfl
  have hne : its.toArray.isEmpty = true ↔ xs = [] := by
    cases r with
    | nil => exact ⟨fun _ => rfl, fun _ => rfl⟩
    | cons a b => exact ⟨fun z => by simp at z, fun z => by cases z⟩
  by_cases c1 : (its.toArray.isEmpty || k == 1) = true
  · have hk : k = 1 ∨ xs = [] := by
      rcases Bool.or_eq_true _ _ ▸ c1 with z | z
      · exact .inr (hne.mp z)
      · exact .inl (beq_iff_eq.mp z)
    refine wpAny_binaryOp_repeat_ref (T := "tuple") (U := "int") (by decide) ⟨_, ho, rfl⟩ (fun s' => typeIs_int s' k t) noFill_tuple_mul F.fills_int_mul F.slot_int_rmul repeat_tuple F.slot_int_index.lookup
      (call_meets F.slot_int_rmul (typeIs_int s k t) F.entry_int_rmul (F.args_int_rmul_2 _ _) (int_rmul_tuple k t l its.toArray n dd sl)
        ⟨ho, rfl, ⟨_, ho, rfl⟩, call_meets F.slot_tuple_mul ⟨_, ho, rfl⟩ F.entry_tuple_mul (F.args_tuple_mul_2 _ _) (tmul_same l its.toArray n dd sl k t c0 c1) ⟨ho, .ref l, H, I, rfl, q1 hk⟩⟩)
  · have c1' : (its.toArray.isEmpty || k == 1) = false := by simpa using c1
    rw [Bool.or_eq_false_iff] at c1'
    have hx : xs ≠ [] := fun z => by
      rw [hne.mpr z] at c1'
      cases c1'.1
    have hk1 : k ≠ 1 := fun z => by
      have := c1'.2
      rw [z] at this
      cases this
    have hk0 : k ≤ 0 := by
      rcases Int.lt_or_le 0 k with z | z
      · exact absurd ⟨by omega, hx⟩ hb
      · exact z
    have q3 := q2 hk1 hx s.heap.objs.size (I.hok.fresh (Nat.le_refl _))
    rw [show k.toNat = 0 by omega] at q3
    refine wpAny_binaryOp_repeat_ref (T := "tuple") (U := "int") (by decide) ⟨_, ho, rfl⟩ (fun s' => typeIs_int s' k t) noFill_tuple_mul F.fills_int_mul F.slot_int_rmul repeat_tuple F.slot_int_index.lookup
      (call_meets F.slot_int_rmul (typeIs_int s k t) F.entry_int_rmul (F.args_int_rmul_2 _ _) (int_rmul_tuple k t l its.toArray n dd sl)
        ⟨ho, rfl, ⟨_, ho, rfl⟩, call_meets F.slot_tuple_mul ⟨_, ho, rfl⟩ F.entry_tuple_mul (F.args_tuple_mul_2 _ _) (tmul_none l its.toArray n dd sl k t c0 (by rw [c1'.1, c1'.2]; rfl) (by rw [decide_eq_true hk0]; rfl)) ⟨ho, ?_⟩⟩)
    refine ⟨.ref s.heap.objs.size, _, I.laid (t' := s.toks) (o := .tup (List.replicate 0 xs).flatten) (fun b ob q => Heap.get?_push_of_some _ q) (Nat.le_refl _) ?_, rfl, q3⟩
    exact ⟨Nat.zero_le _, [], .nil, IsTup.new _ _⟩
end Wn
/-! rotations -/
namespace Wn
open PySem PySem.Spec PyProof.Rows L2
def rotL (ds : List Nat) (k : Nat) : List Nat := ds.drop k ++ ds.take k
theorem rotL_len (ds : List Nat) (k : Nat) : (rotL ds k).length = ds.length := by
  unfold rotL
  rw [List.length_append, List.length_drop, List.length_take]
  omega
theorem rotL_zero (ds : List Nat) : rotL ds 0 = ds := by simp [rotL]
theorem rotL_succ {ds : List Nat} {k : Nat} (h : k < ds.length) : (rotL ds k).drop 1 ++ (rotL ds k).take 1 = rotL ds (k + 1) := by
  unfold rotL
  rw [List.drop_eq_getElem_cons h]
  simp only [List.cons_append, List.drop_succ_cons, List.drop_zero, List.take_succ_cons, List.take_zero]
  rw [List.append_assoc, List.take_succ_eq_append_getElem h]
theorem mem_rotL {ds : List Nat} {k x : Nat} (h : x ∈ rotL ds k) : x ∈ ds := by
  unfold rotL at h
  rcases List.mem_append.mp h with z | z
  · exact List.mem_of_mem_drop z
  · exact List.mem_of_mem_take z
/-- the repeating digits -/
def dgl (b n x L : Nat) : List Nat := (List.range L).map fun i => rem b n x i * b / n
theorem dgl_len (b n x L : Nat) : (dgl b n x L).length = L := by simp [dgl]
theorem rem_cyc {b n x L : Nat} (h : IsPer b n L) (i : Nat) : rem b n x (i + L) = rem b n x i := by
  unfold rem
  rw [Nat.pow_add, ← Nat.mul_assoc, Nat.mul_mod, h.2.1, ← Nat.mul_mod, Nat.mul_one]
theorem dgl_rot {b n x L k : Nat} (h : IsPer b n L) (hk : k ≤ L) : rotL (dgl b n x L) k = dgl b n (rem b n x k) L := by
  unfold rotL
  apply List.ext_getElem
  · rw [List.length_append, List.length_drop, List.length_take, dgl_len, dgl_len]
    omega
  · intro i h1 h2
    rw [dgl_len] at h2
    rw [List.getElem_append]
    split
    · rename_i hi
      rw [List.length_drop, dgl_len] at hi
      rw [List.getElem_drop]
      simp only [dgl, List.getElem_map, List.getElem_range]
      rw [rem_rem]
    · rename_i hi
      rw [List.length_drop, dgl_len] at hi
      rw [List.getElem_take]
      simp only [dgl, List.getElem_map, List.getElem_range, List.length_drop, List.length_map, List.length_range]
      rw [rem_rem, show k + i = i - (L - k) + L by omega, rem_cyc h]
theorem dgl_inj {b n x y L : Nat} (hb : 2 ≤ b) (h : IsPer b n L) (hx : x < n) (hy : y < n) (e : dgl b n x L = dgl b n y L) : x = y := by
  have hn : 1 ≤ n := by omega
  have hd : ∀ i, i < L → rem b n x i * b / n = rem b n y i * b / n := fun i hi => by
    have h1 : (dgl b n x L)[i]'(by rw [dgl_len]; exact hi) = (dgl b n y L)[i]'(by rw [dgl_len]; exact hi) := by simp only [e]
    simp only [dgl, List.getElem_map, List.getElem_range] at h1
    exact h1
  have st : ∀ z i, rem b n z i * b = n * (rem b n z i * b / n) + rem b n z (i + 1) := fun z i => by
    rw [← rem_succ]
    exact (Nat.div_add_mod _ _).symm
  -- the difference grows by the base at each step
  have key : ∀ i, i ≤ L → (rem b n x i : Int) - rem b n y i = ((x : Int) - y) * (b : Int) ^ i := by
    intro i
    induction i with
    | zero =>
      intro _
      rw [rem_zero hx, rem_zero hy]
      simp
    | succ i ih =>
      intro hi
      have h1 := ih (by omega)
      have h2 := st x i
      have h3 := st y i
      rw [hd i (by omega)] at h2
      generalize rem b n y i * b / n = q at h2 h3
      have h4 : (rem b n x i : Int) * b = n * q + rem b n x (i + 1) := by exact_mod_cast h2
      have h5 : (rem b n y i : Int) * b = n * q + rem b n y (i + 1) := by exact_mod_cast h3
      rw [Int.pow_succ, ← Int.mul_assoc, ← h1, Int.sub_mul]
      omega
  have k := key L (Nat.le_refl _)
  rw [rem_per h hx, rem_per h hy] at k
  have hL := h.1
  have hp : (2 : Int) ≤ (b : Int) ^ L := by
    have : 2 ≤ b ^ L := Nat.le_trans hb (Nat.le_self_pow (by omega) b)
    exact_mod_cast this
  have : ((x : Int) - y) * ((b : Int) ^ L - 1) = 0 := by
    rw [Int.mul_sub, Int.mul_one]
    omega
  rcases Int.mul_eq_zero.mp this with z | z <;> omega
/-- among the first ones each comes once -/
theorem rem_once {b n x L i j : Nat} (g : Nat.gcd b n = 1) (gx : Nat.gcd x n = 1) (h : IsPer b n L) (hi : i < L) (hj : j < L) (e : rem b n x i = rem b n x j) : i = j := by
  have key : ∀ {i j : Nat}, i < j → j < L → rem b n x i = rem b n x j → False := fun {i j} hij hj e => by
    have e1 : b ^ i % n = b ^ j % n := mod_cancel gx e
    have e2 : b ^ (j - i) % n = 1 % n := by
      refine mod_cancel (cop_pow g i) ?_
      rw [← Nat.pow_add, show i + (j - i) = j by omega, Nat.mul_one]
      exact e1.symm
    exact h.2.2 (j - i) (by omega) (by omega) e2
  rcases Nat.lt_trichotomy i j with z | z | z
  · exact (key z hj e).elim
  · exact z
  · exact (key z hi e.symm).elim
/-- the first place from which y comes; the period where there is none -/
def topI (b n x y L : Nat) : Nat := ((List.range L).find? fun i => decide (rem b n x i = y)).getD L
theorem topI_hit {b n x y L i : Nat} (hi : i < L) (e : rem b n x i = y) (no : ∀ j, j < i → rem b n x j ≠ y) : topI b n x y L = i := by
  unfold topI
  have : (List.range L).find? (fun i => decide (rem b n x i = y)) = some i := by
    rw [List.find?_range_eq_some]
    refine ⟨decide_eq_true e, List.mem_range.mpr hi, fun j hj => ?_⟩
    simp only [Bool.not_eq_true', decide_eq_false_iff_not]
    exact no j hj
  rw [this]
  rfl
theorem topI_miss {b n x y L : Nat} (no : ∀ j, j < L → rem b n x j ≠ y) : topI b n x y L = L := by
  unfold topI
  have : (List.range L).find? (fun i => decide (rem b n x i = y)) = none := by
    rw [List.find?_eq_none]
    intro i hi
    rw [decide_eq_true_eq]
    exact no i (List.mem_range.mp hi)
  rw [this]
  rfl
theorem topI_cases (b n x y L : Nat) : (topI b n x y L < L ∧ rem b n x (topI b n x y L) = y ∧ ∀ j, j < topI b n x y L → rem b n x j ≠ y) ∨ (topI b n x y L = L ∧ ∀ j, j < L → rem b n x j ≠ y) := by
  by_cases h : ∃ i, i < L ∧ rem b n x i = y
  · obtain ⟨i, hi, e⟩ := h
    obtain ⟨m, hm, pm, q⟩ := least (fun i => rem b n x i = y) i e
    have e1 := topI_hit (L := L) (show m < L by omega) pm (fun j hj z => q j hj z)
    rw [e1]
    exact .inl ⟨by omega, pm, fun j hj z => q j hj z⟩
  · have no : ∀ j, j < L → rem b n x j ≠ y := fun j hj z => h ⟨j, hj, z⟩
    exact .inr ⟨topI_miss no, no⟩
end Wn
/-! values of digits and of their rotations; multipliers -/
namespace Wn
open PySem PySem.Spec PyProof.Rows L2
theorem wrt_from (b : Nat) : ∀ (ds : List Nat) (f : Nat), ds.foldl (fun f d => f * b + d) f = f * b ^ ds.length + wrt b ds
  | [], f => by simp [wrt]
  | d :: r, f => by
    have h1 := wrt_from b r (f * b + d)
    have h2 := wrt_from b r (0 * b + d)
    unfold wrt at h1 h2 ⊢
    simp only [List.foldl_cons, List.length_cons]
    rw [h1, h2, Nat.pow_succ, Nat.add_mul, Nat.zero_mul, Nat.zero_add, Nat.mul_assoc, Nat.mul_comm b]
    omega
theorem wrt_cons (b x : Nat) (r : List Nat) : wrt b (x :: r) = x * b ^ r.length + wrt b r := by
  have := wrt_from b r (0 * b + x)
  rw [Nat.zero_mul, Nat.zero_add] at this
  rw [← this]
  simp [wrt]
theorem wrt_append (b : Nat) (xs ys : List Nat) : wrt b (xs ++ ys) = wrt b xs * b ^ ys.length + wrt b ys := by
  rw [← wrt_from b ys (wrt b xs)]
  simp [wrt, List.foldl_append]
theorem wrt_lt {b : Nat} : ∀ {ds : List Nat}, (∀ d ∈ ds, d < b) → wrt b ds < b ^ ds.length
  | [], _ => by simp [wrt]
  | x :: r, h => by
    have ih := wrt_lt (ds := r) fun d hd => h d (List.mem_cons_of_mem _ hd)
    have hx := h x List.mem_cons_self
    rw [wrt_cons, List.length_cons, Nat.pow_succ, Nat.mul_comm (b ^ r.length)]
    have : (x + 1) * b ^ r.length ≤ b * b ^ r.length := Nat.mul_le_mul_right _ hx
    rw [Nat.succ_mul] at this
    omega
theorem rot_at {ds : List Nat} {i : Nat} (h : i < ds.length) : rotL ds i = ds[i] :: (ds.drop (i + 1) ++ ds.take i) := by
  unfold rotL
  rw [List.drop_eq_getElem_cons h]
  rfl
theorem wrt_rot {b : Nat} {ds : List Nat} {i : Nat} (h : i < ds.length) (hb : 1 ≤ b) : ((wrt b (rotL ds i) : Nat) : Int) * (b : Int) - ((ds[i] : Nat) : Int) * (((b ^ ds.length : Nat) : Int) - 1) = ((wrt b (rotL ds (i + 1)) : Nat) : Int) := by
  have e : rotL ds (i + 1) = (ds.drop (i + 1) ++ ds.take i) ++ [ds[i]] := by
    rw [← rotL_succ h, rot_at h]
    rfl
  have hl : (ds.drop (i + 1) ++ ds.take i).length + 1 = ds.length := by
    rw [List.length_append, List.length_drop, List.length_take]
    omega
  rw [rot_at h, e, wrt_cons, wrt_snoc, ← hl]
  generalize ds.drop (i + 1) ++ ds.take i = r
  generalize wrt b r = w
  generalize ds[i] = x
  rw [Nat.pow_succ]
  generalize b ^ r.length = p
  push_cast
  rw [Int.add_mul, Int.mul_sub, Int.mul_one, Int.mul_assoc (x : Int) (p : Int) (b : Int)]
  omega
/-- k times their value is that of a rotation -/
def IsMul (b : Nat) (ds : List Nat) (k : Nat) : Prop := ∃ j, j < ds.length ∧ wrt b (rotL ds j) = k * wrt b ds
/-- those met among the first i rotations -/
def mulL (b : Nat) (ds : List Nat) (i : Nat) : List Nat := ((List.range i).filter fun j => decide (wrt b (rotL ds j) % wrt b ds = 0)).map fun j => wrt b (rotL ds j) / wrt b ds
theorem mulL_succ (b : Nat) (ds : List Nat) (i : Nat) : mulL b ds (i + 1) = mulL b ds i ++ (if wrt b (rotL ds i) % wrt b ds = 0 then [wrt b (rotL ds i) / wrt b ds] else []) := by
  unfold mulL
  rw [List.range_succ, List.filter_append, List.map_append]
  congr 1
  by_cases h : wrt b (rotL ds i) % wrt b ds = 0
  · rw [if_pos h, List.filter_cons_of_pos (by simpa using h)]
    rfl
  · rw [if_neg h, List.filter_cons_of_neg (by simpa using h)]
    rfl
theorem mulL_len (b : Nat) (ds : List Nat) (i : Nat) : (mulL b ds i).length ≤ i := by
  unfold mulL
  rw [List.length_map]
  exact Nat.le_trans (List.length_filter_le _ _) (by simp)
theorem mem_mulL {b : Nat} {ds : List Nat} {k i : Nat} (hv : 1 ≤ wrt b ds) : k ∈ mulL b ds i ↔ ∃ j, j < i ∧ wrt b (rotL ds j) = k * wrt b ds := by
  unfold mulL
  rw [List.mem_map]
  constructor
  · rintro ⟨j, hj, rfl⟩
    rw [List.mem_filter, List.mem_range, decide_eq_true_eq] at hj
    exact ⟨j, hj.1, (Nat.div_mul_cancel (Nat.dvd_of_mod_eq_zero hj.2)).symm⟩
  · rintro ⟨j, hj, e⟩
    refine ⟨j, ?_, ?_⟩
    · rw [List.mem_filter, List.mem_range, decide_eq_true_eq, e]
      exact ⟨hj, Nat.mul_mod_left _ _⟩
    · rw [e, Nat.mul_div_cancel _ hv]
/-- there are few of them -/
def Few (b : Nat) (ds : List Nat) : Prop := ∀ ks : List Nat, ks.Nodup → (∀ k ∈ ks, IsMul b ds k) → ks.length < 64
theorem nodup_sub {xs : List Nat} : ∀ {ys : List Nat}, xs.Nodup → (∀ x ∈ xs, x ∈ ys) → xs.length ≤ ys.length := by
  intro ys
  induction ys generalizing xs with
  | nil =>
    intro _ h
    cases xs with
    | nil => exact Nat.le_refl _
    | cons x r => exact absurd (h x List.mem_cons_self) (by simp)
  | cons y ys ih =>
    intro nd h
    have h1 := ih (nd.erase y) fun x hx => by
      have hm := List.mem_of_mem_erase hx
      rcases List.mem_cons.mp (h x hm) with e | e
      · subst e
        exact absurd hx (List.Nodup.not_mem_erase nd)
      · exact e
    rw [List.length_cons]
    by_cases hy : y ∈ xs
    · rw [List.length_erase_of_mem hy] at h1
      omega
    · rw [List.erase_of_not_mem hy] at h1
      omega
theorem few_of {b p : Nat} {ds : List Nat} (hv : 1 ≤ wrt b ds) (hp : p < 64) (h : ∀ j, j < ds.length → ∃ i, i < p ∧ rotL ds j = rotL ds i) : Few b ds := fun ks nd hk => by
  have := nodup_sub (ys := (List.range p).map fun i => wrt b (rotL ds i) / wrt b ds) nd fun k hm => by
    obtain ⟨j, hj, e⟩ := hk k hm
    obtain ⟨i, hi, e2⟩ := h j hj
    exact List.mem_map.mpr ⟨i, List.mem_range.mpr hi, by rw [← e2, e, Nat.mul_div_cancel _ hv]⟩
  rw [List.length_map, List.length_range] at this
  omega
theorem few_len {b : Nat} {ds : List Nat} (hv : 1 ≤ wrt b ds) (h : ds.length < 64) : Few b ds := few_of hv h fun j hj => ⟨j, hj, rfl⟩
/-- digits twice over -/
theorem rot_twice {ds : List Nat} {j : Nat} (h1 : ds.length ≤ j) (h2 : j < (ds ++ ds).length) : rotL (ds ++ ds) j = rotL (ds ++ ds) (j - ds.length) := by
  unfold rotL
  rw [List.length_append] at h2
  rw [List.drop_append, List.take_append, List.drop_append, List.take_append, List.drop_eq_nil_of_le h1, List.take_of_length_le h1, show j - ds.length - ds.length = 0 by omega]
  simp only [List.nil_append, List.drop_zero, List.take_zero, List.append_nil, List.append_assoc]
theorem few_twice {b : Nat} {ds : List Nat} (hv : 1 ≤ wrt b (ds ++ ds)) (h : ds.length < 64) : Few b (ds ++ ds) := few_of hv h fun j hj => by
  rcases Nat.lt_or_ge j ds.length with z | z
  · exact ⟨j, z, rfl⟩
  · refine ⟨j - ds.length, ?_, rot_twice z hj⟩
    rw [List.length_append] at hj
    omega
/-- a number up to 1000 has no common divisor with one of two primes -/
theorem gcd_prime {b p : Nat} (hp : ∀ g, g ≤ p → g ∣ p → g = 1 ∨ g = p) (h0 : 1 ≤ p) (h : Nat.gcd b p ≠ 1) : p ∣ b := by
  rcases hp _ (Nat.le_of_dvd h0 (Nat.gcd_dvd_right b p)) (Nat.gcd_dvd_right b p) with e | e
  · exact absurd e h
  · rw [← e]
    exact Nat.gcd_dvd_left b p
theorem cop_two {b p q : Nat} (hb : 1 ≤ b) (hp : ∀ g, g ≤ p → g ∣ p → g = 1 ∨ g = p) (hq : ∀ g, g ≤ q → g ∣ q → g = 1 ∨ g = q) (p0 : 1 ≤ p) (q0 : 1 ≤ q) (c : Nat.gcd p q = 1) (hl : b < p * q) : Nat.gcd b p = 1 ∨ Nat.gcd b q = 1 := by
  by_cases h1 : Nat.gcd b p = 1
  · exact .inl h1
  · by_cases h2 : Nat.gcd b q = 1
    · exact .inr h2
    · have := Nat.le_of_dvd hb (Nat.Coprime.mul_dvd_of_dvd_of_dvd c (gcd_prime hp p0 h1) (gcd_prime hq q0 h2))
      omega
theorem cop_43_47 {b : Nat} (h1 : 1 ≤ b) (h2 : b ≤ 1000) : Nat.gcd b 43 = 1 ∨ Nat.gcd b 47 = 1 := cop_two h1 (by decide) (by decide) (by decide) (by decide) (by decide) (by omega)
/-- two ascending rows of numbers with the same members -/
theorem ascN_eq {xs ys : List Nat} (hx : xs.Pairwise (· < ·)) (hy : ys.Pairwise (· < ·)) (h : ∀ k, k ∈ xs ↔ k ∈ ys) : xs = ys := by
  have key : ∀ {zs : List Nat}, zs.Pairwise (· < ·) → (ni zs).Pairwise (· < ·) := fun hz => List.Pairwise.map _ (fun a b h => by omega) hz
  have := asc_eq (key hx) (key hy) fun k => by
    unfold ni
    rw [List.mem_map, List.mem_map]
    exact ⟨fun ⟨a, ha, e⟩ => ⟨a, (h a).mp ha, e⟩, fun ⟨a, ha, e⟩ => ⟨a, (h a).mpr ha, e⟩⟩
  unfold ni at this
  exact (List.map_inj_right (fun a b e => by omega)).mp this
/-- rows of whole numbers whose members are natural ones -/
theorem ni_of : ∀ {zs : List Int}, (∀ k ∈ zs, 0 ≤ k) → ∃ xs : List Nat, zs = ni xs
  | [], _ => ⟨[], rfl⟩
  | z :: zs, h => by
    obtain ⟨xs, e⟩ := ni_of (zs := zs) fun k hk => h k (List.mem_cons_of_mem _ hk)
    have := h z List.mem_cons_self
    exact ⟨z.toNat :: xs, by rw [e]; show z :: ni xs = ((z.toNat : Nat) : Int) :: ni xs; rw [Int.toNat_of_nonneg this]⟩
theorem mem_ni {xs : List Nat} {k : Nat} : ((k : Nat) : Int) ∈ ni xs ↔ k ∈ xs := by
  unfold ni
  rw [List.mem_map]
  constructor
  · rintro ⟨a, ha, e⟩
    rw [show k = a by omega]
    exact ha
  · exact fun h => ⟨k, h, rfl⟩
end Wn
open PySem PySem.W PySem.Calls PyProof.Rows Builtin
open L2
namespace Wn
/-! counts by keys -/
def kvP (ps : List (Nat × Nat)) : List (Key × V) := ps.map fun p => ((Sum.inl ((p.1 : Nat) : Int) : Key), V.int (p.2 : Nat))
structure Cnt (g : Nat → Nat) (ps : List (Nat × Nat)) : Prop where
  nd : (ps.map Prod.fst).Nodup
  mem : ∀ q c, (q, c) ∈ ps ↔ g q = c ∧ 1 ≤ c
theorem Cnt.nil : Cnt (fun _ => 0) [] := ⟨List.nodup_nil, fun q c => ⟨fun h => (by cases h), fun ⟨h1, h2⟩ => by omega⟩⟩
theorem Cnt.congr {g g' : Nat → Nat} {ps : List (Nat × Nat)} (h : Cnt g ps) (e : ∀ q, g q = g' q) : Cnt g' ps := ⟨h.nd, fun q c => by rw [h.mem, e]⟩
theorem kvP_key {ps : List (Nat × Nat)} {q : Nat} {kv : Key × V} (h : kv ∈ kvP ps) (e : kv.1 = (Sum.inl ((q : Nat) : Int) : Key)) : ∃ c, (q, c) ∈ ps ∧ kv.2 = .int (c : Nat) := by
  obtain ⟨⟨q', c⟩, hp, rfl⟩ := List.mem_map.mp h
  have e2 : ((q' : Nat) : Int) = (q : Int) := Sum.inl.inj e
  have : q' = q := by omega
  subst this
  exact ⟨c, hp, rfl⟩
theorem Cnt.get {g : Nat → Nat} {ps : List (Nat × Nat)} (h : Cnt g ps) (q : Nat) : valV (kvP ps) (Sum.inl ((q : Nat) : Int) : Key) = if g q = 0 then none else some (.int (g q : Nat)) := by
  unfold valV
  cases e : (kvP ps).find? fun kv => decide (kv.1 = (Sum.inl ((q : Nat) : Int) : Key)) with
  | none =>
    by_cases g0 : g q = 0
    · rw [if_pos g0]
      rfl
    · exfalso
      have hm := (h.mem q (g q)).mpr ⟨rfl, by omega⟩
      have := List.find?_eq_none.mp e _ (List.mem_map.mpr ⟨_, hm, rfl⟩)
      simp at this
  | some kv =>
    have h1 := List.mem_of_find?_eq_some e
    have h2 := List.find?_some e
    obtain ⟨c, hc, hv⟩ := kvP_key h1 (of_decide_eq_true h2)
    obtain ⟨h3, h4⟩ := (h.mem q c).mp hc
    rw [if_neg (by omega), h3]
    exact congrArg some hv
theorem Cnt.put {g : Nat → Nat} {ps : List (Nat × Nat)} (h : Cnt g ps) (q d : Nat) (hd : 1 ≤ d) :
    ∃ ps', putK (kvP ps) (Sum.inl ((q : Nat) : Int) : Key) (.int ((g q + d : Nat) : Int)) = kvP ps' ∧ Cnt (fun z => g z + if z = q then d else 0) ps' := by
  by_cases g0 : g q = 0
  · refine ⟨ps ++ [(q, g q + d)], ?_, ?_, fun q' c => ?_⟩
    · rw [putK_new _ (by rw [h.get, if_pos g0])]
      unfold kvP
      rw [List.map_append]
      rfl
    · rw [List.map_append, List.nodup_append]
      refine ⟨h.nd, by simp, ?_⟩
      intro x hx y hy e
      rw [List.map_cons, List.map_nil, List.mem_singleton] at hy
      obtain ⟨⟨q', c⟩, hp, e3⟩ := List.mem_map.mp hx
      obtain ⟨h3, h4⟩ := (h.mem q' c).mp hp
      have e4 : q' = q := (show q' = x from e3).trans (e.trans hy)
      rw [e4] at h3
      omega
    · rw [List.mem_append, List.mem_singleton, h.mem]
      by_cases e : q' = q
      · subst e
        rw [if_pos rfl]
        constructor
        · rintro (⟨h1, h2⟩ | h1)
          · omega
          · have := (Prod.mk.inj h1).2
            omega
        · rintro ⟨h1, h2⟩
          exact .inr (by rw [h1])
      · rw [if_neg e, Nat.add_zero]
        constructor
        · rintro (h1 | h1)
          · exact h1
          · exact absurd (Prod.mk.inj h1).1 e
        · exact fun h1 => .inl h1
  · have hm := (h.mem q (g q)).mpr ⟨rfl, by omega⟩
    refine ⟨ps.map fun p => if p.1 = q then (p.1, g q + d) else p, ?_, ?_, fun q' c => ?_⟩
    · unfold putK
      rw [if_pos]
      · unfold kvP
        rw [List.map_map, List.map_map]
        refine List.map_congr_left fun p _ => ?_
        show (if (Sum.inl ((p.1 : Nat) : Int) : Key) = Sum.inl ((q : Nat) : Int) then _ else _) = _
        by_cases e : p.1 = q
        · rw [if_pos (by rw [e])]
          show _ = (fun p : Nat × Nat => ((Sum.inl ((p.1 : Nat) : Int) : Key), V.int (p.2 : Nat))) (if p.1 = q then (p.1, g q + d) else p)
          rw [if_pos e]
        · rw [if_neg (fun z => e (by have := Sum.inl.inj z; omega))]
          show _ = (fun p : Nat × Nat => ((Sum.inl ((p.1 : Nat) : Int) : Key), V.int (p.2 : Nat))) (if p.1 = q then (p.1, g q + d) else p)
          rw [if_neg e]
      · rw [List.any_eq_true]
        exact ⟨_, List.mem_map.mpr ⟨_, hm, rfl⟩, decide_eq_true rfl⟩
    · rw [List.map_map, show ps.map (Prod.fst ∘ fun p => if p.1 = q then (p.1, g q + d) else p) = ps.map Prod.fst from List.map_congr_left fun p _ => by
        show (if p.1 = q then (p.1, g q + d) else p).1 = p.1
        split <;> rfl]
      exact h.nd
    · rw [List.mem_map]
      by_cases e : q' = q
      · subst e
        rw [if_pos rfl]
        constructor
        · rintro ⟨⟨q2, c2⟩, hp, e2⟩
          by_cases e3 : q2 = q'
          · rw [if_pos e3] at e2
            have := (Prod.mk.inj e2).2
            omega
          · rw [if_neg e3] at e2
            exact absurd (Prod.mk.inj e2).1 e3
        · rintro ⟨h1, h2⟩
          refine ⟨_, hm, ?_⟩
          rw [if_pos rfl, h1]
      · rw [if_neg e, Nat.add_zero, ← h.mem]
        constructor
        · rintro ⟨⟨q2, c2⟩, hp, e2⟩
          by_cases e3 : q2 = q
          · rw [if_pos e3] at e2
            exact absurd ((Prod.mk.inj e2).1.symm.trans e3) e
          · rw [if_neg e3] at e2
            rw [← e2]
            exact hp
        · intro hp
          exact ⟨_, hp, if_neg e⟩
/-- all keys are values of a list -/
theorem Cnt.len {g : Nat → Nat} {ps : List (Nat × Nat)} {ks : List Nat} (h : Cnt g ps) (hk : ∀ q, 1 ≤ g q → q ∈ ks) : ps.length ≤ ks.length := by
  have := nodup_sub (ys := ks) h.nd fun x hx => by
    obtain ⟨⟨q, c⟩, hp, rfl⟩ := List.mem_map.mp hx
    obtain ⟨h1, h2⟩ := (h.mem q c).mp hp
    exact hk q (by omega)
  rwa [List.length_map] at this
/-- the keys in their order -/
def IsKeys (g : Nat → Nat) (ks : List Nat) : Prop := ks.Pairwise (· < ·) ∧ ∀ q, q ∈ ks ↔ 1 ≤ g q
theorem IsKeys.uniq {g : Nat → Nat} {ks ks' : List Nat} (h : IsKeys g ks) (h' : IsKeys g ks') : ks = ks' := ascN_eq h.1 h'.1 fun k => (h.2 k).trans (h'.2 k).symm
def prs (g : Nat → Nat) (ks : List Nat) : List (Nat × Nat) := ks.map fun q => (q, g q)
/-- a list of the pairs, ascending -/
theorem Cnt.sorted {g : Nat → Nat} {ps ys : List (Nat × Nat)} (h : Cnt g ps) (hp : ys.Perm ps) (hs : ys.Pairwise fun x y => ¬ (y.1 < x.1)) : IsKeys g (ys.map Prod.fst) ∧ ys = prs g (ys.map Prod.fst) := by
  have nd : (ys.map Prod.fst).Nodup := (hp.map Prod.fst).nodup_iff.mpr h.nd
  refine ⟨⟨?_, fun q => ?_⟩, ?_⟩
  · rw [List.pairwise_map]
    rw [List.nodup_iff_pairwise_ne, List.pairwise_map] at nd
    exact (hs.and nd).imp fun ⟨h1, h2⟩ => by omega
  · rw [List.mem_map]
    constructor
    · rintro ⟨⟨q', c⟩, hm, rfl⟩
      obtain ⟨h1, h2⟩ := (h.mem q' c).mp (hp.mem_iff.mp hm)
      show 1 ≤ g q'
      omega
    · intro hq
      exact ⟨(q, g q), hp.mem_iff.mpr ((h.mem q (g q)).mpr ⟨rfl, hq⟩), rfl⟩
  · unfold prs
    rw [List.map_map]
    conv => lhs; rw [← List.map_id ys]
    refine List.map_congr_left fun p hm => ?_
    obtain ⟨q, c⟩ := p
    obtain ⟨h1, h2⟩ := (h.mem q c).mp (hp.mem_iff.mp hm)
    show (q, c) = (q, g q)
    rw [h1]
def cntQ (f : Nat → Nat) (ms : List Nat) (q : Nat) : Nat := (ms.filter fun x => decide (f x = q)).length
theorem cntQ_perm {f : Nat → Nat} {ms ms' : List Nat} (h : ms.Perm ms') (q : Nat) : cntQ f ms q = cntQ f ms' q := (h.filter _).length_eq
theorem cntQ_app (f : Nat → Nat) (ms ms' : List Nat) (q : Nat) : cntQ f (ms ++ ms') q = cntQ f ms q + cntQ f ms' q := by
  unfold cntQ
  rw [List.filter_append, List.length_append]
theorem cntQ_const {f : Nat → Nat} {ms : List Nat} {q0 : Nat} (h : ∀ x ∈ ms, f x = q0) (q : Nat) : cntQ f ms q = if q = q0 then ms.length else 0 := by
  unfold cntQ
  by_cases e : q = q0
  · rw [if_pos e, List.filter_eq_self.mpr fun x hx => decide_eq_true (by rw [h x hx, e])]
  · rw [if_neg e, List.filter_eq_nil_iff.mpr fun x hx => by
      rw [decide_eq_true_eq, h x hx]
      exact fun z => e z.symm]
    rfl
theorem cntQ_pos {f : Nat → Nat} {ms : List Nat} {q : Nat} (h : 1 ≤ cntQ f ms q) : q ∈ ms.map f := by
  unfold cntQ at h
  obtain ⟨x, hx⟩ := List.exists_mem_of_length_pos h
  obtain ⟨h1, h2⟩ := List.mem_filter.mp hx
  rw [decide_eq_true_eq] at h2
  exact List.mem_map.mpr ⟨x, h1, h2⟩
end Wn
namespace Wn
open PySem PySem.Spec PyProof.Rows L2
theorem rem_pow (b n x k j : Nat) : rem (b ^ k) n x j = rem b n x (k * j) := by
  unfold rem
  rw [Nat.pow_mul]
theorem IsPer.pow {b n k c : Nat} (h : IsPer b n (k * c)) (hk : 1 ≤ k) (hc : 1 ≤ c) : IsPer (b ^ k) n c := by
  obtain ⟨h1, h2, h3⟩ := h
  refine ⟨hc, by rw [← Nat.pow_mul]; exact h2, fun j hj1 hj2 => ?_⟩
  rw [← Nat.pow_mul]
  exact h3 (k * j) (Nat.mul_pos hk hj1) ((Nat.mul_lt_mul_left hk).mpr hj2)
theorem restSum_rl (b n x k c : Nat) : restSum b n x k c = (rl (b ^ k) n x c).sum := by
  unfold restSum rl
  refine congrArg List.sum (List.map_congr_left fun i _ => ?_)
  rw [rem_pow]
theorem rest_shift (b n x k : Nat) : ∀ m, restSum b n (rem b n x k) k m + rem b n x 0 = restSum b n x k (m + 1)
  | 0 => by
    rw [restSum_succ]
    simp [restSum]
  | m + 1 => by
    rw [restSum_succ, restSum_succ b n x k (m + 1), ← rest_shift b n x k m, rem_rem, show k + k * m = k * (m + 1) by rw [Nat.mul_succ, Nat.add_comm]]
    omega
theorem rest_next {b n x k c : Nat} (h : IsPer b n (k * c)) : restSum b n (rem b n x k) k c = restSum b n x k c := by
  have h1 := rest_shift b n x k c
  rw [restSum_succ, show rem b n x (k * c) = rem b n x 0 from by have := rem_cyc (x := x) h 0; rwa [Nat.zero_add] at this] at h1
  omega
theorem rest_orb {b n x k c : Nat} (h : IsPer b n (k * c)) (hx : x < n) : ∀ i, restSum b n (rem b n x (k * i)) k c = restSum b n x k c
  | 0 => by rw [Nat.mul_zero, rem_zero hx]
  | i + 1 => by
    rw [Nat.mul_succ, ← rem_rem, rest_next h]
    exact rest_orb h hx i
theorem rest_mem {b n x k c r : Nat} (h : IsPer b n (k * c)) (hx : x < n) (hr : r ∈ rl (b ^ k) n x c) : restSum b n r k c = restSum b n x k c := by
  obtain ⟨i, _, e⟩ := mem_rl.mp hr
  rw [← e, rem_pow]
  exact rest_orb h hx i
theorem rest_bal {b n k c x : Nat} (h : bal b n k c = true) : restSum b n x k c % n = 0 := by
  unfold bal at h
  rw [decide_eq_true_eq, restSum_mod, Nat.one_mul] at h
  rw [restSum_mod, Nat.mul_mod, h, Nat.mul_zero, Nat.zero_mod]
/-- the sum of the pieces is nines times the sum of the remainders over n -/
theorem pcs_div {b n x k c : Nat} (hb : 2 ≤ b) (hk : 1 ≤ k) (hn : 1 ≤ n) (h : IsPer b n (k * c)) : ((pcs b n x k c).sum % (b ^ k - 1) = 0 ↔ restSum b n x k c % n = 0) ∧ (restSum b n x k c % n = 0 → (pcs b n x k c).sum / (b ^ k - 1) = restSum b n x k c / n) := by
  have e := pcs_all (b := b) (n := n) (x := x) (k := k) (c := c) (by omega) (by have := rem_cyc (x := x) h 0; rwa [Nat.zero_add] at this)
  have b2 : 2 ≤ b ^ k := Nat.le_trans (by simpa using hb) (Nat.pow_le_pow_right (by omega) hk)
  have b1 : 1 ≤ b ^ k - 1 := by omega
  generalize b ^ k - 1 = m at e b1
  generalize (pcs b n x k c).sum = S at e
  generalize restSum b n x k c = R at e
  have h1 : ∀ t, R = n * t → S = m * t := fun t z => by
    rw [z] at e
    have : n * S = n * (m * t) := by
      rw [e]
      exact Nat.mul_left_comm m n t
    exact Nat.eq_of_mul_eq_mul_left hn this
  have h2 : ∀ t, S = m * t → R = n * t := fun t z => by
    rw [z] at e
    have : m * R = m * (n * t) := by
      rw [← e]
      exact Nat.mul_left_comm n m t
    exact Nat.eq_of_mul_eq_mul_left b1 this
  refine ⟨⟨fun z => ?_, fun z => ?_⟩, fun z => ?_⟩
  · obtain ⟨t, ht⟩ := Nat.dvd_of_mod_eq_zero z
    rw [h2 t ht, Nat.mul_mod_right]
  · obtain ⟨t, ht⟩ := Nat.dvd_of_mod_eq_zero z
    rw [h1 t ht, Nat.mul_mod_right]
  · obtain ⟨t, ht⟩ := Nat.dvd_of_mod_eq_zero z
    rw [h1 t ht, ht, Nat.mul_div_cancel_left _ b1, Nat.mul_div_cancel_left _ hn]
/-! the members of the orbits of the least ones -/
def msQ (B n c i : Nat) : List Nat := ((List.range i).filter (topB B n c)).flatMap fun y => rl B n y c
theorem msQ_succ (B n c i : Nat) : msQ B n c (i + 1) = msQ B n c i ++ (if topB B n c i = true then rl B n i c else []) := by
  unfold msQ
  rw [List.range_succ, List.filter_append, List.flatMap_append]
  by_cases h : topB B n c i = true
  · rw [if_pos h, List.filter_cons, if_pos h]
    simp
  · rw [if_neg h, List.filter_cons, if_neg h]
    simp
theorem mem_msQ {B n c i r : Nat} (g : Nat.gcd B n = 1) (h : IsPer B n c) (hi : i ≤ n) : r ∈ msQ B n c i ↔ Met B n c i r := by
  rw [met_top g h hi]
  unfold msQ
  rw [List.mem_flatMap]
  constructor
  · rintro ⟨y, hy, hr⟩
    obtain ⟨h1, h2⟩ := List.mem_filter.mp hy
    exact ⟨y, List.mem_range.mp h1, h2, mem_rl.mp hr⟩
  · rintro ⟨y, h1, h2, h3⟩
    exact ⟨y, List.mem_filter.mpr ⟨List.mem_range.mpr h1, h2⟩, mem_rl.mpr h3⟩
theorem rl_nodup {B n c x : Nat} (g : Nat.gcd B n = 1) (h : IsPer B n c) (gx : Nat.gcd x n = 1) : (rl B n x c).Nodup := by
  unfold rl
  rw [List.nodup_iff_pairwise_ne, List.pairwise_map, List.pairwise_iff_getElem]
  intro u v hu hv huv e
  rw [List.getElem_range, List.getElem_range] at e
  rw [List.length_range] at hu hv
  have := rem_once g gx h hu hv e
  omega
theorem msQ_nodup {B n c : Nat} (g : Nat.gcd B n = 1) (h : IsPer B n c) : ∀ i, i ≤ n → (msQ B n c i).Nodup
  | 0, _ => by simp [msQ]
  | i + 1, hi => by
    rw [msQ_succ]
    by_cases ht : topB B n c i = true
    · rw [if_pos ht]
      have gi := (top_iff.mp ht).1
      refine List.nodup_append.mpr ⟨msQ_nodup g h i (by omega), rl_nodup g h gi, fun x hx y hy e => ?_⟩
      subst e
      obtain ⟨y, h1, h2, h3⟩ := (mem_msQ g h (by omega)).mp hx
      have back := orb_symm h (by omega) (mem_rl.mp hy)
      have := orb_trans h (by omega) h3 back
      have nt := (not_top g h (by omega) gi).mpr ⟨y, h1, h2, this⟩
      rw [nt] at ht
      cases ht
    · rw [if_neg ht, List.append_nil]
      exact msQ_nodup g h i (by omega)
theorem filt_len {xs ys : List Nat} {p : Nat → Bool} (hx : xs.Nodup) (hy : ys.Nodup) (h : ∀ r, r ∈ xs ↔ r ∈ ys) : (xs.filter p).length = (ys.filter p).length := by
  refine Nat.le_antisymm (nodup_sub (hx.filter _) fun r hr => ?_) (nodup_sub (hy.filter _) fun r hr => ?_)
  · obtain ⟨h1, h2⟩ := List.mem_filter.mp hr
    exact List.mem_filter.mpr ⟨(h r).mp h1, h2⟩
  · obtain ⟨h1, h2⟩ := List.mem_filter.mp hr
    exact List.mem_filter.mpr ⟨(h r).mpr h1, h2⟩
/-- in the end all that have no common divisor with n -/
theorem met_all {B n c r : Nat} (hn : 1 ≤ n) (g : Nat.gcd B n = 1) (h : IsPer B n c) : Met B n c n r ↔ r < n ∧ Nat.gcd r n = 1 := by
  constructor
  · rintro ⟨y, h1, h2, i, h3, rfl⟩
    exact ⟨rem_lt hn, rem_cop g h2 i⟩
  · rintro ⟨h1, h2⟩
    exact ⟨r, h1, h2, 0, h.1, rem_zero h1⟩
theorem cnt_all {B n c : Nat} {f : Nat → Nat} {ts : List Nat} (hn : 1 ≤ n) (g : Nat.gcd B n = 1) (h : IsPer B n c) (ht : ts.Nodup) (hm : ∀ r, r ∈ ts ↔ r < n ∧ Nat.gcd r n = 1) (q : Nat) : cntQ f (msQ B n c n) q = cntQ f ts q :=
  filt_len (msQ_nodup g h n (Nat.le_refl _)) ht fun r => ((mem_msQ g h (Nat.le_refl _)).trans (met_all hn g h)).trans (hm r).symm
end Wn
/-! errors of one's own, over any built-in one: made, kept as values, looked at -/
namespace Wn
open PySem PySem.Spec PyProof.Rows L2
/-! the first store to such an error -/
section
open PySem.W PySem.HandSPX Builtin Builtin.ObjectAttr
variable {prog : Program} {w : World} {A : Around} {E : Value → Shared → Prop} {s : Shared} {K : PySem.W.Frag} {C : Addr} {B : String} {bmB : List Value}
theorem osa_one {x t : Addr} {name : Str} {tk : Tok} {v : Value} {R : Result → Shared → Prop} (SF : StoreFacts B bmB "object.__setattr__" "object") (X : K.In s.heap) (hx : s.heap.get? x = some (PySem.W.excObj C t none .none))
    (hp : PySem.W.excOver K C bmB = true) (ht : PySem.W.takerIn K C name = some none) (hh : PySem.W.hasDictIn K C = true)
    (h : ∀ dx h' tk', (∀ b o, b ≠ x → s.heap.get? b = some o → h'.get? b = some o) → s.heap.objs.size ≤ dx → dx ≠ x → h'.get? x = some (PySem.W.excObj C t (some dx) .none) → h'.Ns1 dx (fun y => if y = name then some v else none) → R (.ok (.ret .none)) { s with heap := h', toks := tk' }) :
    codeAny (model prog w) A (.call (.builtin "object.__setattr__") ⟨[.ref x, .str name tk, v], []⟩) R s := by
  have hlt := Heap.lt_size hx
  have hne : s.heap.objs.size ≠ x := Nat.ne_of_gt hlt
  refine osa_openX (od := none) SF X ⟨hx, rfl, rfl, trivial⟩ hp ht fun b => ?_
  obtain ⟨cd, hc, hd⟩ := any_some hh
  refine wpAny_bind (wpAny_pure (wpAny_bind (instanceDict_exc hx (looks_clsIn X hc) hd ?_)))
  have e1 : (s.heap.push (dictOf [] 0)).get? x = some (PySem.W.excObj C t none .none) := Heap.get?_push_of_some _ hx
  obtain ⟨G, hG⟩ : ∃ G, G = (s.heap.push (dictOf [] 0)).update x (fun o => { o with dict := some s.heap.objs.size }) := ⟨_, rfl⟩
  have gx : G.get? x = some (PySem.W.excObj C t (some s.heap.objs.size) .none) := by
    rw [hG]
    exact Heap.get?_update_self _ e1 rfl
  have go : ∀ b, b ≠ x → G.get? b = (s.heap.push (dictOf [] 0)).get? b := fun b hb => by
    rw [hG]
    exact Heap.get?_update_ne _ _ _ _ hb
  have gd : G.Ns s.heap.objs.size (fun _ => none) := by
    refine ⟨_, #[], 0, (go _ hne).trans (Heap.get?_push_size _ rfl), rfl, fun e he => ?_, fun _ => rfl⟩
    exact absurd he (by simp)
  rw [← hG]
  show wpAny (model prog w) A.in1 (storeInDict s.heap.objs.size (.str name tk) name v) _ _ { s with heap := G }
  obtain ⟨hp0, g, d, tt, os⟩ := s
  refine store_in_new gd fun h' tk' hn hs => ?_
  refine h _ h' tk' (fun b o hb e => ?_) (Nat.le_refl _) hne ((hs.2 x hne.symm).trans gx) hn
  have hbs : b ≠ hp0.objs.size := Nat.ne_of_lt (Heap.lt_size e)
  exact (hs.2 b hbs).trans ((go b hb).trans (Heap.get?_push_of_some _ e))
end
/-- what the text says of an error's class: C, over the built-in B, with the field f and its own __init__ at fI -/
structure ErrC (K : PySem.W.Frag) (C fI : Addr) (f : Str) (B newId initId : String) (bmB : List Value) : Prop where
  F : ExcBaseFacts B newId initId bmB
  SF : StoreFacts B bmB "object.__setattr__" "object"
  ini : PySem.W.excInitIn K C bmB newId = true
  ov : PySem.W.excOver K C bmB = true
  hd : PySem.W.hasDictIn K C = true
  sa : PySem.W.findIn K (.ref C) "__setattr__" = some (some (.builtin "object.__setattr__"))
  exC : PySem.W.subIn K (.ref C) (.type "BaseException") = some true
  tyC : PySem.W.typeIn K (.ref C) = some (.type "type")
  kC : PySem.W.keepIn K (.ref C) = true
  tk : PySem.W.takerIn K C f = some none
  no : PySem.W.findIn K (.ref C) f = some none
  iC : PySem.W.findIn K (.ref C) "__init__" = some (some (.ref fI))
  tI : PySem.W.typeIn K (.ref fI) = some (.type "function")
  ga : PySem.W.findIn K (.ref C) "__getattribute__" = some (some (.builtin "BaseException.__getattribute__"))
  gg : PySem.W.findIn K (.ref C) "__getattr__" = some none
  ha : PySem.W.findIn K (.ref C) "__class__" = some (some (.builtin "object.__class__"))
  mr : PySem.W.mroIn K C (.type "object") = some true
section
variable {X : Cx} {pins : List (Addr × Obj)} {σ : L2.St} {H : Hp} {s : Shared} {a C fI dx : Addr} {f : Str} {y : V} {u : Value} {B newId initId : String} {bmB : List Value} {A : Around} {E : Value → Shared → Prop}
theorem ErrC.xf {K : PySem.W.Frag} (T : ErrC K C fI f B newId initId bmB) : XfC K C := ⟨T.ga, T.gg, T.exC, T.hd⟩
/-- self.f = y, the first one -/
theorem ostE {Q : Unit → Shared → Prop} (T : ErrC X.K C fI f B newId initId bmB) (I : Inv X pins σ H s) (e : H a = some (exo a C none)) (ry : RelV y u)
    (h : ∀ dx s', H dx = none → dx ≠ a → Inv X pins σ (upd (upd H dx (exd dx [(f, y)])) a (exo a C (some dx))) s' → Q () s') : wpAny (model X.prog X.w) A (setAttr (.ref a) f u) Q E s := by
  obtain ⟨t1, ho⟩ := exo_at I.hok e
  refine PySem.W.set_plain I.kIn (od := none) ⟨ho, rfl, rfl, trivial⟩ T.sa ?_
  refine osa_one (s := { s with toks := s.toks + 1 }) T.SF I.kIn ho T.ov T.tk T.hd fun d2 G tk2 keep lo ne gx gn => ?_
  have free2 : H d2 = none := I.hok.fresh lo
  have lt2 : ∀ {b : Addr} {o : Obj}, s.heap.get? b = some o → b ≠ d2 := fun z => Nat.ne_of_lt (Nat.lt_of_lt_of_le (Heap.lt_size z) lo)
  have nA : ∀ {b : Addr}, H b = none → b ≠ a := fun z w => by
    rw [w, e] at z
    cases z
  have un : Un X.fs [] H (upd (upd H d2 (exd d2 [(f, y)])) a (exo a C (some d2))) s.heap G := by
    constructor
    · exact fun b o q n _ _ => keep b o (nA n) q
    · exact fun b o q n _ _ => ⟨o.slots, keep b o (nA n) q⟩
    · intro b o q n _
      rw [upd_ne (nA n), upd_ne (lt2 q)]
      exact n
    · intro b o q _
      by_cases w : b = a
      · subst w
        exact ⟨_, gx⟩
      · exact ⟨o, keep b o w q⟩
    · intro b xs q
      rw [upd_ne (at_ne e q exo_tup), upd_ne (ne_of_none q free2)]
      exact q
    · intro b o v q
      rw [upd_ne (at_ne e q exo_frz), upd_ne (ne_of_none q free2)]
      exact q
    · intro b ps q
      refine ⟨#[], ?_⟩
      rw [upd_ne (at_ne e q exo_tbl), upd_ne (ne_of_none q free2), q]
      simp
  refine h d2 _ free2 ne (I.un (t' := tk2) un fun b o q => ?_)
  by_cases w : b = a
  · subst w
    rw [upd_same] at q
    cases q
    exact exo_ok gx
  rw [upd_ne w] at q
  by_cases w2 : b = d2
  · subst w2
    rw [upd_same] at q
    cases q
    exact exd_ok gn (relO_put (fs := []) ry fun g => True.intro)
  rw [upd_ne w2] at q
  refine (I.hok b o q).stay (fun c v hc z => keep c v ?_ z) (fun c hc => ?_) (fun c xs hc => ?_)
  · rcases hc with hc | hc
    · rw [hc]
      exact w
    · exact at_ne e hc exo_own
  · rw [upd_ne (at_ne e hc exo_own), upd_ne (ne_of_none hc free2)]
    exact hc
  · rw [upd_ne (at_ne e hc exo_tup), upd_ne (ne_of_none hc free2)]
    exact hc
/-- the built-in's __init__: nothing of it is told -/
theorem oinitE {us : List Value} {Q : Value → Shared → Prop} (T : ErrC X.K C fI f B newId initId bmB) (I : Inv X pins σ H s) (e : H a = some (exo a C none)) (hl : us.length ≤ sizeLine) (h : ∀ s', Inv X pins σ H s' → Q .none s') :
    wpAny (model X.prog X.w) A (call (.builtin initId) (.ref a :: us)) Q E s := by
  obtain ⟨t1, ho⟩ := exo_at I.hok e
  obtain ⟨nm, N, qn, bs, bm, hdct, sn, sub, ab, col, dd, k0, k1, k2, k3, k5, hC, hT⟩ := PySem.W.excInit_of I.kIn T.ini
  obtain ⟨hp, g, d, t, os⟩ := s
  refine wpAny_call (PySem.HandSPX.init_base T.F hT hC ho hl fun G t2 k gx => ?_)
  have J := I.write (t' := t) (x := a) (e := a) (o := exo a C none) (by rw [e]; exact True.intro) (.inl rfl) k ⟨_, gx⟩ (exo_ok gx)
  rw [show upd H a (exo a C none) = H from funext fun b => by
    by_cases w : b = a
    · rw [w, upd_same, e]
    · rw [upd_ne w]] at J
  exact h _ J
end
/-- W.__init__(self, ..), W one's own class or a built-in one -/
def tInitE (K : PySem.W.Frag) (C : Addr) (ta : TA) : TE := fun σ H Q => ta σ H fun vs H1 => ∃ (a : Addr) (ws : List V), vs = .ref a :: ws ∧ ws.length ≤ 1000 ∧ H1 a = some (exo a C none) ∧ Q .non H1
/-- self.f = e -/
def tOstE (K : PySem.W.Frag) (C : Addr) (f : Str) (to te : TE) : TS := fun D σ H => te σ H fun y H1 => to σ H1 fun x H2 => ∃ a : Addr, x = .ref a ∧ H2 a = some (exo a C none) ∧ ∀ dx, H2 dx = none → dx ≠ a → D.nx σ (upd (upd H2 dx (exd dx [(f, y)])) a (exo a C (some dx)))
section
variable {X : Cx} {o e : Expr} {es : List Expr} {to te : TE} {ta : TA} {f : Str} {p p' p1 p2 pos : Pos} {C fI W : Addr} {B newId initId : String} {bmB : List Value} {mc : Value} {wn : Str}
theorem call_initE {pl : Sem Bool} (T : ErrC X.K C fI f B newId initId bmB) (ha : PA X (e :: es) ta) {pins : List (Addr × Obj)} {s : Shared} {σ : L2.St} {H : Hp} {Q : VK} (I : Inv X pins σ H s) (h : tInitE X.K C ta σ H Q)
    (he : starEach (e :: es) X.env = (false, eval e X.env) :: starEach es X.env := by rfl) (hpl : (backTo pos (starEach es X.env)).any (·.1) = false := by rfl) :
    wpAny (model X.prog X.w) X.A (callWith pos (Value.builtin initId) [] (backTo pos (starEach (e :: es) X.env)) []) (EP X pins σ Q) X.xe s := by
  refine PyProof.Rows.callWith_method1 (thn (ha.run pos pins s σ H _ I h) fun us s1 ⟨vs, H1, I1, r1, a, ws, ev, hl, ea, q⟩ => ?_) he hpl
  subst ev
  cases r1 with
  | @cons _ u0 _ ur ra rw' =>
    obtain rfl : u0 = Value.ref a := ra
    have hlen : ur.length ≤ sizeLine := by
      rw [← Paired.length rw', sizeLine_eq]
      omega
    exact oinitE T I1 ea hlen fun s' J => ⟨.non, H1, J, rfl, q⟩
/-- a class of one's own: its name holds W, whose __init__ is the built-in's -/
theorem pe_initW {pl : Sem Bool} (T : ErrC X.K C fI f B newId initId bmB) (hg : Gl X wn) (hm : X.mg wn = some (.ref W)) (r : ClX.CRead X.K W mc) (at_ : PySem.W.findCls X.K (.ref W) mc "__init__" = some (.val (.builtin initId))) (hh : PySem.W.handedIn (.builtin initId) = true) (ha : PA X (e :: es) ta)
    (hc : eval (.Call (.Attribute (.Name wn p1) "__init__" p2) (e :: es) [] pos) X.env = (do
      let ov ← eval (.Name wn p1) X.env
      standAt p2.atName
      let (f, first) ← holding [ov] (getMethod ov "__init__" pl)
      callWith pos f first (backTo pos (starEach (e :: es) X.env)) (backToKw pos (keywordEach [] X.env))) := by rfl)
    (hdb : (wn == ("__debug__" : Str)) = false := by decide)
    (he : starEach (e :: es) X.env = (false, eval e X.env) :: starEach es X.env := by rfl) (hpl : (backTo pos (starEach es X.env)).any (·.1) = false := by rfl) :
    PE X (.Call (.Attribute (.Name wn p1) "__init__" p2) (e :: es) [] pos) (tInitE X.K C ta) := by
  refine ⟨fun pins s σ H Q I h => ?_⟩
  refine PySem.W.methodCall_KW (ld_glob I hg hm ?_ hdb) hc
  refine PySem.W.method_cls I.kIn r.ga ?_
  refine PySem.W.cls_value I.kIn r.rd at_ hh ?_
  show wpAny _ _ (callWith pos (Value.builtin initId) [] (backTo pos (starEach (e :: es) X.env)) []) _ _ _
  exact call_initE (pl := pl) T ha (I.tok _) h he hpl
end
end Wn
namespace Wn
open PySem PySem.Spec PyProof.Rows L2
/-! C(e): the error made by its own __init__, which keeps sp -/
section
variable {X : Cx} {e : Expr} {es : List Expr} {ta : TA} {f : Str} {p pos : Pos} {C fI : Addr} {B newId initId : String} {bmB : List Value}
theorem pmkE {CX : CXT} {x : Str} {k : Nat} {fd : FuncData} {ps : List Str} {sp : Sp} (T : ErrC X.K C fI f B newId initId bmB) (F1 : FnOk X.prog X.w X.K X.mg X.base CX k fI fd ps sp) (hr : Room (k + 1) X.A) (hb : Binds X.K fd ps []) (hx : Passes CX X (fun _ _ _ => False))
    (hg : Gl X x) (hm : X.mg x = some (.ref C)) (ha : PA X (e :: es) ta)
    (hdb : (x == ("__debug__" : Str)) = false := by decide) (he : starEach (e :: es) X.env = (false, eval e X.env) :: starEach es X.env := by rfl) (hpl : (backTo pos (starEach es X.env)).any (·.1) = false := by rfl) :
    PMk X (.Call (.Name x p) (e :: es) [] pos) (tMkO C sp [] ta) := by
  intro pins s σ H Q I h
  refine wpAny_Call_Name_kw (ld_glob I hg hm ?_ hdb)
  refine PySem.W.callWith_K (h₀ := X.base) I.ok.mod.kin T.kC (thn (ha.run pos pins s σ H _ I h) fun us s1 hh => ?_) he hpl
  obtain ⟨vs, H1, I1, r1, hz, q1⟩ := hh
  refine ⟨I1.kIn, ?_⟩
  show wpAny _ _ (call (.ref C) us) _ _ _
  obtain ⟨nm, N, qn, bs, bm, hdct, sn, sub, ab, col, dd, k0, k1, k2, k3, k5, hC, hT⟩ := PySem.W.excInit_of I1.kIn T.ini
  obtain ⟨h0, g, dr, tk, os⟩ := s1
  obtain ⟨a, haa⟩ : ∃ a, a = h0.objs.size + 1 := ⟨_, rfl⟩
  have lo : h0.objs.size ≤ a := by rw [haa]; exact Nat.le_succ _
  have fresh : H1 a = none := I1.hok.fresh lo
  obtain ⟨G, hG⟩ : ∃ G, G = (h0.push (PySem.W.kdv_tup us)).push (PySem.HandSPX.excO C h0.objs.size) := ⟨_, rfl⟩
  have keep : ∀ b o, h0.get? b = some o → G.get? b = some o := fun b o z => by
    rw [hG]
    exact Heap.get?_push_of_some _ (Heap.get?_push_of_some _ z)
  have gA : G.get? a = some (PySem.HandSPX.excO C h0.objs.size) := by
    rw [hG, haa]
    heap_get
  have I2 : Inv X pins σ (upd H1 a (exo a C none)) ⟨G, g, dr, tk, os⟩ := I1.laid (t' := tk) (a := a) (o := exo a C none) (h' := G) keep lo (exo_ok gA)
  have want := q1 a fresh
  have r2 : Vals (V.ref a :: (vs ++ [])) (Value.ref a :: us) := .cons rfl (by rw [List.append_nil]; exact r1)
  have cnt : (Value.ref a :: us ++ []).length = ps.length := by
    rw [← F1.len _ _ _ _ want, List.append_nil]
    exact r2.length.symm
  have b2 := hb ⟨G, g, dr, tk, os⟩ (Value.ref a :: us) I2.kIn cnt
  rw [List.append_nil] at b2
  have few : us.length ≤ sizeLine := by
    rw [← Paired.length r1, sizeLine_eq]
    omega
  refine wpAny_call (PySem.HandSPX.call_own T.F hT hC (PySem.W.looks_findIn I1.kIn T.iC) (fun self => PySem.W.bind_fn I1.kIn self T.tI) few ?_)
  rw [← hG, ← haa]
  refine codeAny_mono (F1.run _ X.stack _ _ ⟨Value.ref a :: us, []⟩ (Value.ref a :: us) _ _ (fun _ _ _ => False) (hr.make C us []) (I2.env0.make C us []) b2 r2 want) fun r s' back => ?_
  match r, back with
  | .error er, back => exact hx pins σ _ _ er s' I2 back
  | .ok .next, back => exact back.elim
  | .ok .brk, back => exact back.elim
  | .ok .cont, back => exact back.elim
  | .ok (.ret u), back =>
    obtain ⟨v, H2, os2, bare2, un2, hok2, rv, ev, d, fs, ea, ed, hd1, q2⟩ := back
    subst ev
    obtain ⟨h2, g2, d2, t2, os'⟩ := s'
    exact ⟨rv, mk_end (raises_own T.exC T.tyC) I1 lo keep un2 hok2 os2 bare2 ea ed hd1 q2⟩
end
/-! an error kept as a value: its class, its own dict -/
def ExV (cls : Value) (d : Option Addr) (a : Addr) : HO := .ext fun h => ∃ (oe : Obj) (vs : Array Value), h.get? a = some oe ∧ Zc cls d oe ∧ oe.data = .fields vs
theorem exV_ok {P : Program} {w : World} {H : Hp} {h : Heap} {a : Addr} {cls : Value} {d : Option Addr} {oe : Obj} {vs : Array Value} (e : h.get? a = some oe) (z : Zc cls d oe) (hd : oe.data = .fields vs) : ObjOk P w H h a (ExV cls d a) :=
  ⟨⟨oe, vs, e, z, hd⟩, ⟨oe, e⟩, fun _ _ ⟨o, v, q, r⟩ k => ⟨o, v, k o q, r⟩⟩
theorem exV_at {P : Program} {w : World} {H : Hp} {h : Heap} {a : Addr} {cls : Value} {d : Option Addr} (hok : HOk P w H h) (e : H a = some (ExV cls d a)) : ∃ (oe : Obj) (vs : Array Value), h.get? a = some oe ∧ Zc cls d oe ∧ oe.data = .fields vs := by
  have x : ObjOk P w H h a (.ext fun h => ∃ (oe : Obj) (vs : Array Value), h.get? a = some oe ∧ Zc cls d oe ∧ oe.data = .fields vs) := hok a _ e
  exact x.1
section
variable {X : Cx} {pins : List (Addr × Obj)} {σ σ0 : L2.St} {H H0 : Hp} {s s0 : Shared} {a : Addr} {o : HO}
/-- what stands there, and was not there before, is tracked from now on -/
theorem track (I : Inv X pins σ H s) (I0 : Inv X pins σ0 H0 s0) (n0 : s0.heap.get? a = none) (hn : H a = none) (new : ObjOk X.prog X.w (upd H a o) s.heap a o) : Inv X pins σ (upd H a o) s := by
  have nb : ∀ {b : Addr} {u : Obj}, s0.heap.get? b = some u → b ≠ a := fun z w => by
    rw [w, n0] at z
    cases z
  have nt : ∀ {b : Addr} {u : HO}, H b = some u → b ≠ a := fun z => ne_of_none z hn
  refine ⟨I.ok, I.os, I.bare, ⟨I.base.keep, I.base.slot, fun b u z n hx => ?_, I.base.there, fun b xs z => ?_, fun b u v z => ?_, fun b ps z => ?_⟩, I.loc, I.cell, ?_, fun x c z => ?_, fun p hp => ?_, fun b u z => ?_, I.len⟩
  · obtain ⟨u', z'⟩ := I0.base.there b u z hx
    rw [upd_ne (nb z')]
    exact I.base.free b u z n hx
  · have := I.base.tups b xs z
    rw [upd_ne (nt this)]
    exact this
  · have := I.base.frzs b u v z
    rw [upd_ne (nt this)]
    exact this
  · obtain ⟨more, this⟩ := I.base.tbls b ps z
    exact ⟨more, by rw [upd_ne (nt this)]; exact this⟩
  · obtain ⟨m, hm, _⟩ := I0.loc
    obtain ⟨ob, _, _, e, _⟩ := hm
    rw [upd_ne (nb e)]
    exact I.free
  · obtain ⟨v, ob, e, _⟩ := I0.cell x c z
    rw [upd_ne (nb e)]
    exact I.freeC x c z
  · obtain ⟨h1, h2, h3⟩ := I.pin p hp
    exact ⟨h1, by rw [upd_ne (nb (I0.pin p hp).1)]; exact h2, h3⟩
  · by_cases w : b = a
    · subst w
      rw [upd_same] at z
      cases z
      exact new
    · rw [upd_ne w] at z
      exact (I.hok b u z).stay (fun c v hc q => q) (fun c hc => by rw [upd_ne (nt hc)]; exact hc) fun c xs hc => by rw [upd_ne (nt hc)]; exact hc
end
/-- C(e) as a value -/
def tVal (t : L2.St → Hp → XK → Prop) : TE := fun σ H Q => t σ H fun cls d H' => ∀ a, H' a = none → Q (.ref a) (upd H' a (ExV cls d a))
theorem pe_mkV {X : Cx} {e : Expr} {t : L2.St → Hp → XK → Prop} (he : PMk X e t) : PE X e (tVal t) := by
  refine ⟨fun pins s σ H Q I h => thn (he pins s σ H _ I h) fun u s1 hh => ?_⟩
  obtain ⟨a, oe, vs, sI, H', cls, d, eu, J, keep, n0, ha, hz, hd, h1, na, os, ag, r, q⟩ := hh
  have J1 := J.landed (B := sI.heap) (fun _ _ z _ => z) keep (Heap.UpToSlots.of_keeps keep) os ag
  subst eu
  exact ⟨.ref a, _, track J1 J n0 na (exV_ok ha hz hd), rfl, q a na⟩
/-! its field, its class -/
def tFldE (K : PySem.W.Frag) (f : Str) (te : TE) : TE := fun σ H Q => te σ H fun x H1 => ∃ (a C d : Addr) (fs : List (Str × V)) (v : V), x = .ref a ∧ XfC K C ∧ PySem.W.findIn K (.ref C) f = some none ∧ H1 a = some (ExV (.ref C) (some d) a) ∧ H1 d = some (.xd fs) ∧ fs.lookup f = some v ∧ Q v H1
theorem pe_fldE {X : Cx} {e : Expr} {te : TE} {pos : Pos} {n : Str} (he : PE X e te) (hb : attributeBase e n X.env (eval e X.env) = eval e X.env := by rfl) : PE X (.Attribute e n pos) (tFldE X.K n te) := by
  refine ⟨fun pins s σ H Q I h => attr_of hb (thn (he.run pins s σ H _ I h) fun u s1 hh => ?_)⟩
  obtain ⟨x, H1, I1, rx, a, C, d, fs, v, ex, T, hno, ea, ed, l, q⟩ := hh
  subst ex
  obtain rfl : u = Value.ref a := rx
  obtain ⟨oe, vs, ha, hz, hd⟩ := exV_at I1.hok ea
  have hx : ObjOk X.prog X.w H1 s1.heap d (.xd fs) := I1.hok d _ ed
  obtain ⟨mA, hns, hr⟩ := hx
  obtain ⟨od, ho, hl⟩ := lookIn_ns hns
  obtain ⟨u, hu, ru⟩ := RelO.some_of (v := v) (o := mA n) (by rw [← l]; exact hr n)
  have J : PySem.W.InstAt s1.heap a oe C (some od) := by
    refine ⟨ha, hz.1, ?_, ?_⟩
    · unfold PySem.W.notCls
      rw [hd]
    · rw [hz.2]
      exact ho
  exact PySem.HandSPX.exc_get I1.kIn J T.ga T.gg T.exC (PySem.W.findObj_own T.hdC hno rfl (by rw [hl, hu])) (handed_of ru) ⟨v, H1, I1.tok _, ru, q⟩
end Wn
/-! errors caught and kept; isinstance of such -/
namespace Wn
open PySem PySem.Spec PyProof.Rows L2
/-- what isinstance asks of the class C of an error -/
structure IsC (K : PySem.W.Frag) (C : Addr) : Prop where
  cl : (PySem.W.clsIn K C).isSome = true
  ga : PySem.W.findIn K (.ref C) "__getattribute__" = some (some (.builtin "BaseException.__getattribute__"))
  gg : PySem.W.findIn K (.ref C) "__getattr__" = some none
  exC : PySem.W.subIn K (.ref C) (.type "BaseException") = some true
  ha : PySem.W.findIn K (.ref C) "__class__" = some (some (.builtin "object.__class__"))
  hn : PySem.W.specialIn K (.builtin "object.__class__") "__get__" = some (some (.builtin "getset_descriptor.__get__"))
  ht : PySem.W.takesIn K (.builtin "object.__class__") = some true
  mr : PySem.W.mroIn K C (.type "object") = some true
def rIsV (K : PySem.W.Frag) : List V → Hp → VK → Prop := fun xs H Q => ∃ (a C d : Addr) (fs : List (Str × V)) (c : V) (cv : Value) (b : Bool), xs = [.ref a, c] ∧ IsC K C ∧ H a = some (ExV (.ref C) (some d) a) ∧ H d = some (.xd fs) ∧ (∀ u, RelV c u → u = cv) ∧ PySem.W.kitOne K (.ref C) cv = some b ∧ Q (.bl b) H
theorem call_isV {X : Cx} : CallR X (.builtin "isinstance") (rIsV X.K) := by
  intro pins s σ H xs us Q I r h
  obtain ⟨a, C, d, fs, c, cv, b, rfl, T, ea, ed, hcv, e, q⟩ := h
  obtain ⟨oe, vs, ha, hz, hd⟩ := exV_at I.hok ea
  have hx : ObjOk X.prog X.w H s.heap d (.xd fs) := I.hok d _ ed
  obtain ⟨mA, hns, hr⟩ := hx
  obtain ⟨od, ho, hl⟩ := lookIn_ns hns
  have J : PySem.W.InstAt s.heap a oe C (some od) := by
    refine ⟨ha, hz.1, ?_, ?_⟩
    · unfold PySem.W.notCls
      rw [hd]
    · rw [hz.2]
      exact ho
  cases r with
  | cons rx rr =>
    cases rr with
    | cons rt rr =>
      cases rr
      cases rx
      have ec := hcv _ rt
      subst ec
      exact PySem.W.kia_one (PySem.W.kitx_exc T.cl T.ga T.gg T.exC T.ha T.hn T.ht T.mr) I.kIn J e (fun z => nomatch z) fun tk => ⟨.bl b, H, I.kept (t' := tk) fun _ _ z => z, rfl, q⟩
/-! try: body, except (A, B, C) as n: m = n; what was caught is kept in m -/
/-- what the three names of a tuple of classes hold -/
structure Names3 (X : Cx) (x1 x2 x3 : Str) (c1 c2 c3 : Addr) : Prop where
  n1 : Gl X x1 ∧ (x1 == ("__debug__" : Str)) = false ∧ X.mg x1 = some (.ref c1)
  n2 : Gl X x2 ∧ (x2 == ("__debug__" : Str)) = false ∧ X.mg x2 = some (.ref c2)
  n3 : Gl X x3 ∧ (x3 == ("__debug__" : Str)) = false ∧ X.mg x3 = some (.ref c3)
def wKeep (K : PySem.W.Frag) (cs : List Value) (i j : Nat) (D : Ends) : WX := fun cls d σ H =>
  PySem.W.exmAny K cls cs = some true ∧ ∀ a, H a = none → D.nx ((σ.set j (some (.ref a))).set i none) (upd H a (ExV cls d a))
theorem flying_keep {B h h' : Heap} {l : List Env} {a : Addr} {Z : Obj → Prop} (k : ∀ b o, h.get? b = some o → h'.get? b = some o) (f : PySem.HandSPX.FlyingZ B l a Z h) : PySem.HandSPX.FlyingZ B l a Z h' := by
  obtain ⟨f1, f2, f3, oe, vs, T, oT, ts, e1, e2, e3, e4, e5, e6, e7, e8, e9⟩ := f
  exact ⟨fun b o z => k b o (f1 b o z), f2, Heap.FunFrames.of_keeps (fun b o z _ => ⟨o, k b o z, rfl⟩) f3, oe, vs, T, oT, ts, k _ _ e1, e2, e3, e4, e5, e6, k _ _ e7, e8, e9⟩
section
variable {X : Cx} {x1 x2 x3 n m : Str} {c1 c2 c3 : Addr} {i j : Nat} {body : List Stmt} {q1 q2 q3 qt qm qn pa pos pos' : Pos} {kt : Nat} {tb : WX → TS}
theorem ps_try_keep (hs : X.stack = X.env :: X.outer) (hf : X.env.frame = some X.env.locals) (hN : X.N.Nodup) (hi : X.N[i]? = some n) (hj : X.N[j]? = some m) (hij : i ≠ j) (hln : X.env.kindOf n = some .local) (hlm : X.env.kindOf m = some .local) (hc : Names3 X x1 x2 x3 c1 c2 c3)
    (hb : ∀ (W : WX) (pn : List (Addr × Obj)) (xe : Value → Shared → Prop), Takes (X.tr pn xe) W → PassesOwn (model X.prog X.w) X.A X.env xe → PSs (X.tr pn xe) body (tb W))
    (hsw : swapsWith (.Name n qn) (some (.Name m qm)) pa.line X.env = pure false := by rfl) (hdn : (n == ("__debug__" : Str)) = false := by decide) (hcn : (n == ("__classdict__" : Str)) = false := by decide) :
    PS X (.Try body [.ExceptHandler (some (.Tuple [.Name x1 q1, .Name x2 q2, .Name x3 q3] kt qt)) (some n) [.Assign [.Name m qm] (.Name n qn) pa] pos'] [] [] pos) (fun D σ H => tb (wKeep X.K [.ref c1, .ref c2, .ref c3] i j D) D σ H) := by
  refine ⟨fun pins s σ H D I h => ?_⟩
  have ok := I.ok
  have hfr : X.A.frames = some (X.env :: X.outer) := by rw [ok.frames, hs]
  have hloc : Loc X.env.scope n := .inl hln
  have hlocm : Loc X.env.scope m := .inl hlm
  refine wpAny_Try_except ?_
  refine wpAny_mono ((hb (wKeep X.K [.ref c1, .ref c2, .ref c3] i j D) (X.pn ++ pins) (fun e s₁ => wpAny (model X.prog X.w) X.A (noteFrame e X.env) (fun _ s₂ => wpAny (model X.prog X.w) X.A (setFlight e none) (fun _ s₃ =>
    wpAny (model X.prog X.w) X.A (handleBy e X.env [.ExceptHandler (some (.Tuple [.Name x1 q1, .Name x2 q2, .Name x3 q3] kt qt)) (some n) [.Assign [.Name m qm] (.Name n qn) pa] pos']) (SP X pins D) X.xe s₃) X.xe s₂) X.xe s₁) (fun u s' xx => ?_) PassesOwn.looking).run [] s σ H D (I.toTry _) h) (fun f s1 hsp => ?_) (fun e s1 he => he)
  · obtain ⟨a, B, sI, pins', σ', H', cls, d, rfl, J', nb, up, sky, na, os, ag, hb1, hyes⟩ := xx
    have J : Inv X pins σ' H' sI := J'.ofTry ok
    have sky2 : Sky B (X.env :: X.outer) a (Zc cls d) X.env.locals s'.heap := by
      rw [← hs]
      exact sky
    show wpAny (model X.prog X.w) X.A (noteFrame (.ref a) X.env) _ _ _
    refine Sky.land Zc.steady hfr hf sky2 fun h3 fl3 up3 => ?_
    have J3 : Inv X pins σ' H' { s' with heap := h3 } := J.landed nb fl3.1 (up.trans up3) os ag
    obtain ⟨oe3, vs3, he3, hz3, hd3⟩ := fl3.there
    have nfr : a ∉ frs (X.env :: X.outer) := fun hm => by
      obtain ⟨_, o', e', hnf⟩ := fl3.2.2.1.mem hm
      rw [he3] at e'
      cases e'
      exact hnf _ hd3
    have nL : a ≠ X.env.locals := fun z => nfr (List.mem_filterMap.mpr ⟨X.env, List.mem_cons_self, by rw [hf, z]⟩)
    have nF : a ∉ X.fs := fun hm => by
      obtain ⟨e, he, q⟩ := List.mem_filterMap.mp hm
      exact nfr (List.mem_filterMap.mpr ⟨e, List.mem_cons_of_mem _ he, q⟩)
    have n0 : sI.heap.get? a = none := by
      cases z : sI.heap.get? a with
      | none => rfl
      | some o =>
        have := nb a o z (by rw [hs]; exact nfr)
        rw [fl3.2.1] at this
        cases this
    have S3 := J3.suite he3 hd3 na nL nF
    refine wpAny_handleBy_cons (codeAny_handlers_test ?_) (by intro q; cases q)
    have LT : PySem.W.Looks (model X.prog X.w) h3 (typeOf (.ref a)) cls := fun A Q E s k q => wpAny_typeOf_ref (k _ _ he3) (by rw [hz3.1]; exact q)
    refine wpAny_Tuple ?_
    refine wpAny_items_cons (ld_glob (X := X.suite a ((a, oe3) :: (X.pn ++ pins))) S3 hc.n1.1 hc.n1.2.2 ?_ hc.n1.2.1)
    refine wpAny_items_cons (ld_glob (X := X.suite a ((a, oe3) :: (X.pn ++ pins))) S3 hc.n2.1 hc.n2.2.2 ?_ hc.n2.2.1)
    refine wpAny_items_cons (ld_glob (X := X.suite a ((a, oe3) :: (X.pn ++ pins))) S3 hc.n3.1 hc.n3.2.2 ?_ hc.n3.2.1)
    refine wpAny_items_nil ⟨by size_fits, ?_⟩
    obtain ⟨G, hG⟩ : ∃ G, G = h3.push { cls := .type "tuple", data := .seq [.ref c1, .ref c2, .ref c3].toArray } := ⟨_, rfl⟩
    have kp : ∀ b o, h3.get? b = some o → G.get? b = some o := fun _ _ z => by
      rw [hG]
      exact Heap.get?_push_of_some _ z
    have gt : G.get? h3.objs.size = some { cls := .type "tuple", data := .seq [.ref c1, .ref c2, .ref c3].toArray } := by
      rw [hG]
      exact Heap.get?_push_size h3 rfl
    rw [← hG]
    refine (PySem.W.exm_tup3 (M := model X.prog X.w) (J3.kIn.keeps kp) (LT.keeps kp) gt hb1).here ?_
    have fl4 := flying_keep kp fl3
    have upG : h3.UpToSlots G := Heap.UpToSlots.of_keeps kp
    refine codeAny_handlers_suite_as ?_
    refine PySem.HandSPX.lands_againZ fl4 fun h4 fl5 up4 => ?_
    have J4 : Inv X pins σ' H' { s' with heap := h4 } := J.landed nb fl5.1 (((up.trans up3).trans upG).trans up4) os ag
    obtain ⟨oe4, vs4, he4, hz4, hd4⟩ := fl5.there
    have S4 := J4.suite he4 hd4 na nL nF
    refine store_ok (X := X.suite a ((a, oe4) :: (X.pn ++ pins))) (v := .ref a) S4 hN hi hloc rfl (fun s5 S5 => ?_) (.inr hln)
    have hp : PSs (X.suite a ((a, oe4) :: (X.pn ++ pins))) [.Assign [.Name m qm] (.Name n qn) pa] (tSeq (tAsg (tVar i) (gName j)) tNext) :=
      pss_cons (ps_set (X := X.suite a ((a, oe4) :: (X.pn ++ pins))) hN hj hlocm (pe_var (X := X.suite a ((a, oe4) :: (X.pn ++ pins))) hi (.inl hln) hdn hcn) hsw (.inr hlm)) pss_nil
    have hlen : i < σ'.length := by
      rw [J4.len]
      exact (List.getElem?_eq_some_iff.mp hi).1
    refine wpAny_mono (hp.run [] s5 _ H' { nx := fun σ6 H6 => H6 = H' ∧ σ6 = (σ'.set i (some (.ref a))).set j (some (.ref a)), rt := fun _ _ => False } S5 ⟨_, List.getElem?_set_self hlen, rfl, rfl⟩) (fun f s6 hsp => ?_) (fun _ _ z => False.elim z)
    cases f with
    | next =>
      obtain ⟨σ6, H6, S6, rfl, rfl⟩ := hsp
      have gA := (S6.pin (a, oe4) (List.mem_append_left _ List.mem_cons_self)).1
      have J6 := track (S6.unsuite ok) J n0 na (exV_ok (cls := cls) (d := d) gA hz4 hd4)
      refine gone_ok J6 hN hi hln fun s7 J7 => ⟨_, _, J7, ?_⟩
      have e1 : (((σ'.set i (some (V.ref a))).set j (some (V.ref a))).set i none) = ((σ'.set j (some (V.ref a))).set i none) := by
        rw [List.set_comm _ _ hij, List.set_set]
      rw [e1]
      exact hyes a na
    | brk =>
      obtain ⟨_, _, _, z⟩ := hsp
      exact False.elim z
    | cont =>
      obtain ⟨_, _, _, z⟩ := hsp
      exact False.elim z
    | ret u =>
      obtain ⟨_, _, _, _, _, z⟩ := hsp
      exact False.elim z
  · cases f with
    | next =>
      obtain ⟨σ', H', J', q⟩ := hsp
      exact wpAny_execs_nil ⟨σ', H', J'.ofTry ok, q⟩
    | brk =>
      obtain ⟨σ', H', J', q⟩ := hsp
      exact ⟨σ', H', J'.ofTry ok, q⟩
    | cont =>
      obtain ⟨σ', H', J', q⟩ := hsp
      exact ⟨σ', H', J'.ofTry ok, q⟩
    | ret u =>
      obtain ⟨v, σ', H', J', r, q⟩ := hsp
      exact ⟨v, σ', H', J'.ofTry ok, r, q⟩
end
end Wn
/-! a lambda handed to a def that calls it, without a parameter or with one that has a written default -/
namespace Wn
open PySem PySem.Spec PyProof.Rows L2 LamX
def clos (X : Cx) (scope : Scope) : List (Str × Addr) := cloFrom X.env.cells scope.names []
abbrev lamO (X : Cx) (params : Arguments) (body : Expr) (scope : Scope) (dV doc pm : Value) (c' : Addr) (ctv : Value) : Obj :=
  PySem.W.kdv_obj "<lambda>" (X.env.qual ++ "<lambda>") params (.expr body) scope (clos X scope) dV doc pm c' ctv
/-- the lambda's names: no cell of its own; its own parameter is no name of the def around -/
structure LamD (N : List Str) (sc scope : Scope) : Prop where
  kind : scope.kind = .function
  co : scope.isCoroutine = false
  gen : scope.isGenerator = false
  own : ∀ y ∈ scope.names, y.2 ≠ .cell ∧ (y.2 = .local → y.1 ∉ N)
  free : ∀ y ∈ scope.names, y.2 = .free → sc.names.lookup y.1 = some .cell ∨ sc.names.lookup y.1 = some .free
def lamDB (N : List Str) (sc scope : Scope) : Bool :=
  decide (scope.kind = .function) && !scope.isCoroutine && !scope.isGenerator && scope.names.all fun y => !decide (y.2 = .cell) && (!decide (y.2 = .local) || !decide (y.1 ∈ N)) && (!decide (y.2 = .free) || decide (sc.names.lookup y.1 = some .cell) || decide (sc.names.lookup y.1 = some .free))
theorem lamD_by {N : List Str} {sc scope : Scope} (h : lamDB N sc scope = true) : LamD N sc scope := by
  unfold lamDB at h
  simp only [Bool.and_eq_true, Bool.or_eq_true, Bool.not_eq_true', decide_eq_true_eq, decide_eq_false_iff_not, List.all_eq_true] at h
  obtain ⟨⟨⟨h1, h2⟩, h3⟩, h4⟩ := h
  refine ⟨h1, h2, h3, fun y hy => ⟨(h4 y hy).1.1, fun e => ?_⟩, fun y hy e => ?_⟩
  · rcases (h4 y hy).1.2 with z | z
    · exact absurd e z
    · exact z
  · rcases (h4 y hy).2 with (z | z) | z
    · exact absurd e z
    · exact .inl z
    · exact .inr z
theorem LamD.has {X : Cx} {scope : Scope} (L : LamD X.N X.env.scope scope) (ok : X.Ok) : ∀ y ∈ scope.names, y.2 = .free → ∃ c, X.env.cells.lookup y.1 = some c := fun y hy e =>
  (L.free y hy e).elim (fun k => ok.has _ (.inl k)) (fun k => ok.has _ (.inr k))
section
variable {X : Cx} {pins : List (Addr × Obj)} {σ : L2.St} {H : Hp} {s : Shared}
/-- the function is made: its code object is new, or found in the table -/
theorem mk_tail {M : Model} {A : Around} {T : List (Addr × Str)} {c P : Addr} {params : Arguments} {body : Expr} {scope : Scope} {pos : Pos} {dV : Value} {E : Value → Shared → Prop} {Q : Value → Shared → Prop} (I : Inv X pins σ H s) (TB : TabB X.base X.mg c P) (hcode : X.env.code = .ref c)
    (hm : (P, X.env.qual ++ "<lambda>") ∈ T) (hu : ∀ p ∈ T, p.1 = P → p.2 = X.env.qual ++ "<lambda>") (hT : Tabs T H) (hfree : ∀ y ∈ scope.names, y.2 = .free → ∃ c, X.env.cells.lookup y.1 = some c)
    (h : ∀ (f c' : Addr) (doc pm ctv : Value) (H1 : Hp) (s' : Shared), Inv X pins σ H1 s' → ExtN H H1 → Tabs T H1 → (∀ b o, b ≠ P → s.heap.get? b = some o → s'.heap.get? b = some o) → (∀ b, H b = none → b < s.heap.objs.size → H1 b = none) →
      s'.heap.get? f = some (lamO X params body scope dV doc pm c' ctv) → H1 f = none → f ∉ frs X.stack → H1 c' = some (CodeO c' (X.env.qual ++ "<lambda>")) → Q (.ref f) s') :
    wpAny M A (makeTail "<lambda>" (X.env.qual ++ "<lambda>") params (.expr body) scope X.env dV .none none pos pos.line) Q E s := by
  obtain ⟨ps, hP, ht, ha⟩ := hT _ hm
  have bP : s.heap.BuiltinsAt X.mg P := TB.bm.keeps I.bk
  have gP : s.heap.get? P = some { cls := .none, data := .fields ps } := I.hok P _ hP
  have off : ∀ f, s.heap.objs.size ≤ f → f ∉ frs X.stack := fun f hf z => by
    rcases List.mem_cons.mp (I.stkSub _ z) with e | e
    · have h1 := I.lt
      rw [← e] at h1
      exact Nat.lt_irrefl _ (Nat.lt_of_lt_of_le h1 hf)
    · exact I.nofs hf e
  cases hc : codeAmong pos ps.toList with
  | some cv =>
    obtain ⟨c', e, hco⟩ := ha pos cv hc
    subst e
    refine PySem.W.kdv_makeTailHit (mg := X.mg) (c := c) (P := P) (ps := ps) (closure_ok hfree) I.ok.glob (I.mod.glob.keeps I.bk) hcode (TB.code.keeps I.bk) gP ht hc bP fun ctv doc h' tk hx hsz => ?_
    have I1 : Inv X pins σ H { s with heap := h'.push (lamO X params body scope dV doc ((X.mg "__name__").getD .none) c' ctv), toks := tk } := I.kept fun b o e => Heap.get?_push_of_some _ (hx b o e)
    exact h h'.objs.size c' doc ((X.mg "__name__").getD .none) ctv H _ I1 (ExtN.refl H) hT (fun b o _ e => Heap.get?_push_of_some _ (hx b o e)) (fun b z _ => z) (Heap.get?_push_size _ rfl) (I.hok.fresh hsz) (off _ hsz) hco
  | none =>
    refine PySem.W.kdv_makeTail (mg := X.mg) (c := c) (P := P) (ps := ps) (closure_ok hfree) I.ok.glob (I.mod.glob.keeps I.bk) hcode (TB.code.keeps I.bk) gP ht hc TB.gP bP fun c' ctv doc h' tk hx hge hlt hrec htb => ?_
    obtain ⟨c2, oc, vs, t, e2, hoc, hd, hv⟩ := hrec
    cases e2
    have grow : s.heap.objs.size ≤ h'.objs.size := Nat.le_trans hge (Nat.le_of_lt hlt)
    have nC : H c' = none := I.hok.fresh hge
    obtain ⟨F0, hF0⟩ : ∃ F0, F0 = lamO X params body scope dV doc ((X.mg "__name__").getD .none) c' ctv := ⟨_, rfl⟩
    have I1 := inv_table (t' := tk) (more := #[rawInt pos.line, rawInt pos.col, .ref c']) (h' := h'.push F0) I hP
      (fun b o hb e => Heap.get?_push_of_some _ (hx b o hb e)) (Heap.get?_push_of_some _ htb) hge ⟨oc, vs, t, Heap.get?_push_of_some _ hoc, hd, hv⟩
    have far : ∀ {b : Addr} {o : HO}, H b = some o → (∀ ps, o ≠ .tbl ps) → b ≠ P := fun e n z => by
      rw [z, hP] at e
      exact n ps (Option.some.inj e).symm
    have ext : ExtN H (upd (upd H P (.tbl (ps ++ #[rawInt pos.line, rawInt pos.col, .ref c']))) c' (CodeO c' (X.env.qual ++ "<lambda>"))) := fun b o e n => by
      rw [upd_ne (ne_of_none e nC), upd_ne (far e n)]
      exact e
    have lst : (ps ++ #[rawInt pos.line, rawInt pos.col, .ref c']).toList = ps.toList ++ [rawInt pos.line, rawInt pos.col, .ref c'] := by simp
    subst hF0
    refine h h'.objs.size c' doc ((X.mg "__name__").getD .none) ctv _ _ I1 ext (fun p hp => ?_) (fun b o hb e => Heap.get?_push_of_some _ (hx b o hb e)) (fun b z lt => ?_) (Heap.get?_push_size _ rfl) ?_ (off _ grow) upd_same
    · by_cases hb : p.1 = P
      · rw [hu p hp hb, hb]
        refine ⟨_, by rw [upd_ne (ne_of_none hP nC), upd_same], by rw [lst]; exact PySem.TriplesOk_snoc _ _ _ _ ht, fun p' cv hcv => ?_⟩
        rw [lst] at hcv
        rcases among_app _ ht hcv with z | z
        · obtain ⟨c0, e1, e2⟩ := ha p' cv z
          exact ⟨c0, e1, ext _ _ e2 codeO_ne⟩
        · exact ⟨c', z, upd_same⟩
      · obtain ⟨ps', a1, a2, a3⟩ := hT p hp
        refine ⟨ps', by rw [upd_ne (ne_of_none a1 nC), upd_ne hb]; exact a1, a2, fun p' cv hcv => ?_⟩
        obtain ⟨c0, e1, e2⟩ := a3 p' cv hcv
        exact ⟨c0, e1, ext _ _ e2 codeO_ne⟩
    · have n1 : b ≠ c' := Nat.ne_of_lt (Nat.lt_of_lt_of_le lt hge)
      have n2 : b ≠ P := fun w => by
        rw [w, hP] at z
        cases z
      rw [upd_ne n1, upd_ne n2]
      exact z
    · have n1 : h'.objs.size ≠ c' := Nat.ne_of_gt hlt
      have n2 : h'.objs.size ≠ P := Nat.ne_of_gt (Nat.lt_of_lt_of_le (Heap.lt_size gP) grow)
      rw [upd_ne n1, upd_ne n2]
      exact I.hok.fresh grow
/-- what is made of the lambda: objects that stay, the function at f among them -/
structure Made (X : Cx) (H1 : Hp) (s' : Shared) (params : Arguments) (body : Expr) (scope : Scope) (f c' : Addr) (dV doc pm ctv : Value) (D : List (Addr × Obj)) : Prop where
  at_ : (f, lamO X params body scope dV doc pm c' ctv) ∈ D
  there : ∀ p ∈ D, s'.heap.get? p.1 = some p.2 ∧ H1 p.1 = none ∧ p.1 ∉ frs X.stack
  code : H1 c' = some (CodeO c' (X.env.qual ++ "<lambda>"))
  binds : ∃ bs : List (Str × Value), (∀ s2 : Shared, (∀ p ∈ D, s2.heap.get? p.1 = some p.2) → BindsTo s2 (PySem.W.kdv_fn "<lambda>" (X.env.qual ++ "<lambda>") params (.expr body) scope (clos X scope) dV doc pm (.ref c') ctv) ⟨[], []⟩ bs) ∧ ∀ y ∈ bs, scope.names.lookup y.1 = some .local
/-- lambda: e -/
theorem lam_plain {T : List (Addr × Str)} {c P : Addr} {params : Arguments} {body : Expr} {scope : Scope} {pos : Pos} {E : Value → Shared → Prop} {Q : Value → Shared → Prop} (I : Inv X pins σ H s) (TB : TabB X.base X.mg c P) (hcode : X.env.code = .ref c)
    (hm : (P, X.env.qual ++ "<lambda>") ∈ T) (hu : ∀ p ∈ T, p.1 = P → p.2 = X.env.qual ++ "<lambda>") (hT : Tabs T H) (hdef : defaultsOf params X.env = ([], [])) (hfree : ∀ y ∈ scope.names, y.2 = .free → ∃ c, X.env.cells.lookup y.1 = some c)
    (hbind : ∀ (q : Str) (cl : List (Str × Addr)) (doc pm cv ctv : Value), bindArgs (PySem.W.kdv_fn "<lambda>" q params (.expr body) scope cl .none doc pm cv ctv) ⟨[], []⟩ = pure [])
    (h : ∀ (f c' : Addr) (dV doc pm ctv : Value) (D : List (Addr × Obj)) (H1 : Hp) (s' : Shared), Inv X pins σ H1 s' → ExtN H H1 → Tabs T H1 → Made X H1 s' params body scope f c' dV doc pm ctv D → Q (.ref f) s') :
    wpAny (model X.prog X.w) X.A (eval (.Lambda params body scope pos) X.env) Q E s := by
  refine PySem.W.kla_eval hdef ?_
  rw [makeFunction_eq]
  simp only [List.zip_nil_right, List.filterMap_nil, List.isEmpty_nil, if_true, pure_bind]
  refine mk_tail I TB hcode hm hu hT hfree fun f c' doc pm ctv H1 s' I1 eN T1 _ _ hf hfn hfr hco => ?_
  refine h f c' .none doc pm ctv [(f, lamO X params body scope .none doc pm c' ctv)] H1 s' I1 eN T1 ⟨List.mem_cons_self, fun p hp => ?_, hco, [], fun s2 _ => .of_eq (hbind _ _ _ _ _ _), fun y hy => absurd hy (by simp)⟩
  rw [List.mem_singleton] at hp
  subst hp
  exact ⟨hf, hfn, hfr⟩
/-- lambda a=0: e -/
theorem lam_dflt {T : List (Addr × Str)} {c P : Addr} {params : Arguments} {body : Expr} {scope : Scope} {pos p0 : Pos} {j0 : Nat} {n : Int} {x : Str} {E : Value → Shared → Prop} {Q : Value → Shared → Prop} (I : Inv X pins σ H s) (TB : TabB X.base X.mg c P) (hcode : X.env.code = .ref c)
    (hm : (P, X.env.qual ++ "<lambda>") ∈ T) (hu : ∀ p ∈ T, p.1 = P → p.2 = X.env.qual ++ "<lambda>") (hT : Tabs T H) (hkw : params.kwonlyargs = []) (hdef : defaultsOf params X.env = ([eval (.Constant (.int n) j0 p0) X.env], [])) (hfree : ∀ y ∈ scope.names, y.2 = .free → ∃ c, X.env.cells.lookup y.1 = some c)
    (hbind : ∀ (q : Str) (cl : List (Str × Addr)) (T0 : Addr) (doc pm cv ctv v : Value), ∃ k, bindArgs (PySem.W.kdv_fn "<lambda>" q params (.expr body) scope cl (.ref T0) doc pm cv ctv) ⟨[], []⟩ = seqItems? (.ref T0) >>= k ∧ k (some #[v]) = pure [(x, v)]) (hloc : scope.names.lookup x = some .local)
    (hE : ∀ e s, X.xe e s → E e s)
    (h : ∀ (f c' : Addr) (dV doc pm ctv : Value) (D : List (Addr × Obj)) (H1 : Hp) (s' : Shared), Inv X pins σ H1 s' → ExtN H H1 → Tabs T H1 → Made X H1 s' params body scope f c' dV doc pm ctv D → Q (.ref f) s') :
    wpAny (model X.prog X.w) X.A (eval (.Lambda params body scope pos) X.env) Q E s := by
  rw [arm_eval_Lambda, hdef]
  show wpAny _ _ (do let dv ← evalAll [eval (.Constant (.int n) j0 p0) X.env]; let kdv ← holding dv (evalAllOpt []); makeFunction "<lambda>" (X.env.qual ++ "<lambda>") params (.expr body) scope X.env dv kdv [] pos pos.line) Q E s
  have hc : PE X (.Constant (.int n) j0 p0) (tC (.int n)) := pe_int
  refine wpAny_bind ?_
  unfold evalAll
  refine wpAny_bind (wpAny_mono (hc.run pins s σ H (fun v H' => v = .int n ∧ H' = H) I ⟨rfl, rfl⟩) (fun u s1 hh => ?_) hE)
  obtain ⟨v, H', I1, r1, rfl, rfl⟩ := hh
  unfold evalAll
  refine wpAny_bind (wpAny_holding (wpAny_pure (wpAny_pure (wpAny_bind (wpAny_holding (wpAny_pure ?_))))))
  rw [makeFunction_eq, hkw]
  simp only [List.zip_nil_right, List.zip_nil_left, List.filterMap_nil, List.isEmpty_nil, List.isEmpty_cons, if_true, Bool.false_eq_true, if_false, pure_bind]
  refine wpAny_bind (wpAny_newTextTuple ?_)
  obtain ⟨T0, hT0⟩ : ∃ T0, T0 = s1.heap.objs.size := ⟨_, rfl⟩
  have I2 : Inv X pins σ H' { s1 with heap := s1.heap.push (PySem.W.kdv_tup [u]) } := I1.kept fun b o e => Heap.get?_push_of_some _ e
  have g0 : (s1.heap.push (PySem.W.kdv_tup [u])).get? T0 = some (PySem.W.kdv_tup [u]) := by
    rw [hT0]
    exact Heap.get?_push_size _ rfl
  have z0 : H' T0 = none := I1.hok.fresh (Nat.le_of_eq hT0.symm)
  have nf : T0 ∉ frs X.stack := fun z => by
    rcases List.mem_cons.mp (I1.stkSub _ z) with e | e
    · have h1 := I1.lt
      rw [← e, hT0] at h1
      exact Nat.lt_irrefl _ h1
    · exact I1.nofs (Nat.le_of_eq hT0.symm) e
  rw [← hT0]
  obtain ⟨ps, hP, _, _⟩ := hT _ hm
  have nP : T0 ≠ P := fun w => by
    rw [w, hP] at z0
    cases z0
  refine mk_tail I2 TB hcode hm hu hT hfree fun f c' doc pm ctv H1 s' I3 eN T1 kp low hf hfn hfr hco => ?_
  have g1 := kp T0 _ nP g0
  have z1 : H1 T0 = none := low T0 z0 (by
    show T0 < (s1.heap.push _).objs.size
    rw [Heap.size_push, hT0]
    exact Nat.lt_succ_self _)
  refine h f c' (.ref T0) doc pm ctv [(f, lamO X params body scope (.ref T0) doc pm c' ctv), (T0, PySem.W.kdv_tup [u])] H1 s' I3 eN T1 ⟨List.mem_cons_self, fun p hp => ?_, hco, [(x, u)], fun s2 k2 => ?_, fun y hy => ?_⟩
  · rcases List.mem_cons.mp hp with e | e
    · subst e
      exact ⟨hf, hfn, hfr⟩
    · rw [List.mem_singleton] at e
      subst e
      exact ⟨g1, z1, nf⟩
  · obtain ⟨k, b1, b2⟩ := hbind (X.env.qual ++ "<lambda>") (clos X scope) T0 doc pm (.ref c') ctv u
    exact BindsTo.of_defaults (o := PySem.W.kdv_tup [u]) rfl (k2 (T0, _) (by simp)) rfl b1 b2
  · rw [List.mem_singleton] at hy
    subst hy
    exact hloc
end
end Wn
namespace Wn
open PySem PySem.Spec PyProof.Rows L2 LamX
section
variable {X : Cx} {pins : List (Addr × Obj)} {σ : L2.St} {H HZ : Hp} {s s1 : Shared}
/-- the lambda's body begins: bs its own names -/
theorem lamW_start {A : Around} {outer : List Env} {E : XK} {scope : Scope} {f c' : Addr} {h1 : Heap} {tk : Nat} {bs : List (Str × Value)} (I : Inv X pins σ H s) (L : LamD X.N X.env.scope scope) (e0 : Env0 X.prog X.w X.K X.mg X.base A outer s1 HZ) (hd : A.handled = none)
    (un : Un (frs X.stack) [] H HZ s.heap s1.heap) (hns : h1.Ns s1.heap.objs.size fun y => bs.reverse.lookup y) (kp : ∀ b o, s1.heap.get? b = some o → h1.get? b = some o) :
    Inv (lamCx X A outer s1 HZ E scope f c') [] σ HZ { s1 with heap := h1, toks := tk } := by
  have hfree := L.has I.ok
  have up : ∀ {y c}, (cloFrom X.env.cells scope.names []).lookup y = some c → X.env.cells.lookup y = some c := fun {y c} e => by
    rcases cloFrom_mem (PySem.mem_of_lookup e) with z | ⟨z1, z2⟩
    · cases z
    · obtain ⟨c1, hc⟩ := hfree _ z1 rfl
      have hc : X.env.cells.lookup y = some c1 := hc
      rw [show c = c1 by rw [z2, hc] <;> rfl]
      exact hc
  have down : ∀ {y}, scope.names.lookup y = some .free → ∃ c, (cloFrom X.env.cells scope.names []).lookup y = some c := fun {y} hl => by
    have hy : (y, NameKind.free) ∈ scope.names := PySem.mem_of_lookup hl
    exact mem_lookup (cloFrom_has (cells := X.env.cells) (acc := []) hy)
  have cellK : ∀ {c : Addr} {v : Option Value}, H c = none → s.heap.IsCell c v → h1.IsCell c v := fun {c v} n ⟨o, ho, hd⟩ => by
    obtain ⟨sl, q⟩ := un.any ho n (by simp)
    exact ⟨_, kp _ _ q, hd⟩
  have ex0 : ∀ b : Addr, b ∉ (lamCx X A outer s1 HZ E scope f c').ex := fun b z => absurd (show b ∈ ([] : List Addr) from z) (by simp)
  refine ⟨⟨e0.mod, L.kind, rfl, rfl, Nat.le_refl _, fun y z c e1 e2 => I.ok.inj y z c (up e1) (up e2), fun y hy => ?_, fun y c z _ => ?_, fun _ => hd, Around.frames_deeper e0.frames, .inr ⟨rfl, rfl⟩, fun b z => absurd z (ex0 b), e0.bs, e0.bsz, fun b _ _ => ex0 b,
      fun b z => absurd z (ex0 b), e0.funs, e0.frf⟩,
    rfl, e0.bare, Un.kept kp, ⟨_, hns, fun i y v e1 e2 e3 => ?_⟩, fun y c e => ?_, e0.hok.fresh (Nat.le_refl _), fun y c e => ?_, fun q hq => absurd (show q ∈ ([] : List (Addr × Obj)) ++ [] from hq) (by simp), e0.hok.kept kp, I.len⟩
  · have hy : scope.names.lookup y = some .cell ∨ scope.names.lookup y = some .free := hy
    rcases hy with hy | hy
    · exact absurd rfl (L.own _ (PySem.mem_of_lookup hy)).1
    · exact down hy
  · have z : false = true := z
    cases z
  · have e3 : Vis scope y := e3
    rcases e3 with k | k | k
    · exact absurd (List.mem_iff_getElem?.mpr ⟨i, e1⟩) ((L.own _ (PySem.mem_of_lookup k)).2 rfl)
    · exact absurd rfl (L.own _ (PySem.mem_of_lookup k)).1
    · obtain ⟨m, hn, hl⟩ := I.loc
      have hvis : Vis X.env.scope y := (L.free _ (PySem.mem_of_lookup k) rfl).elim (fun k => .inr (.inl k)) (fun k => .inr (.inr k))
      obtain ⟨w', r, q⟩ := hl i y v e1 e2 hvis
      obtain ⟨c2, h2⟩ := down k
      refine ⟨w', r, .inr ⟨.inr k, c2, h2, ?_⟩⟩
      have c1 := up h2
      rcases q with ⟨k', _⟩ | ⟨_, c3, e', z⟩
      · have k' : X.env.scope.names.lookup y = some .local := k'
        rcases L.free _ (PySem.mem_of_lookup k) rfl with k2 | k2 <;> rw [show X.env.scope.names.lookup y = _ from k2] at k' <;> cases k'
      · rw [c1] at e'
        cases e'
        exact cellK (I.freeC y _ c1) z
  · obtain ⟨w', z⟩ := I.cell y c (up e)
    exact ⟨w', cellK (I.freeC y c (up e)) z⟩
  · obtain ⟨v, o, ho, hd⟩ := I.cell y c (up e)
    exact un.free c o ho (I.freeC y c (up e)) (by simp)
/-- x(), in the def that got the lambda; what is raised is wished for at its slots -/
theorem pe_actW {CXg : CXT} {Eg : XK} {Ng : List Str} {qg : Str} {sg : Scope} {g f c' : Addr} {cdg dV doc pm ctv : Value} {params : Arguments} {body : Expr} {scope : Scope} {D : List (Addr × Obj)} {k i : Nat} {a : Str} {pn : List (Addr × Obj)} {xe : Value → Shared → Prop} {W : WX} {tb : XK → TE} {p1 p2 : Pos}
    (I : Inv X pins σ H s) (L : LamD X.N X.env.scope scope) (M : Made X H s params body scope f c' dV doc pm ctv D)
    (tk : Takes ((cxOf CXg X.prog X.w X.K X.mg X.base Ng qg sg g cdg X.A X.stack s H Eg).tr pn xe) W) (hr : Room (k + 1) (X.A.deeper (envOfC qg sg s.heap.objs.size g cdg)))
    (hbody : ∀ (A : Around) (outer : List Env) (s : Shared) (H : Hp) (E : XK), Room k (A.deeper (lamEnv X scope s.heap.objs.size f c')) → PE (lamCx X A outer s H E scope f c') body (tb E))
    (hN : Ng[i]? = some a) (hv : Vis sg a) (hd : (a == ("__debug__" : Str)) = false := by decide) (hcd : (a == ("__classdict__" : Str)) = false := by decide) :
    PE ((cxOf CXg X.prog X.w X.K X.mg X.base Ng qg sg g cdg X.A X.stack s H Eg).tr pn xe) (.Call (.Name a p1) [] [] p2)
      (fun σZ HZ Q => σZ[i]? = some (some (.ref f)) ∧ HZ c' = some (CodeO c' (X.env.qual ++ "<lambda>")) ∧ ∃ E : XK, (∀ cls d H', E cls d H' → W cls d σZ H') ∧ tb E σ HZ Q) := by
  refine ⟨fun pinsZ sZ σZ HZ Q IZ h => ?_⟩
  obtain ⟨hs, hc, E, hW, ht⟩ := h
  refine wpAny_Call_Name_kw (thn ((pe_var (pos := p1) (i := i) hN hv hd hcd).run pinsZ sZ σZ HZ (fun v H1 => v = .ref f ∧ H1 = HZ) IZ ⟨.ref f, hs, rfl, rfl⟩) fun u s1 hh => ?_)
  obtain ⟨v, H1, I1, r1, ev, eH⟩ := hh
  subst ev
  rw [eH] at I1
  obtain rfl : u = Value.ref f := r1
  have un : Un (frs X.stack) [] H HZ s.heap s1.heap := I1.base
  have stay : ∀ p ∈ D, s1.heap.get? p.1 = some p.2 := fun p hp => un.keep _ _ (M.there p hp).1 (M.there p hp).2.1 (M.there p hp).2.2 (by simp)
  have of1 := stay _ M.at_
  refine PySem.W.callWith_F0 ⟨_, _, _, _, of1⟩ ?_
  obtain ⟨⟨oc, vs, t, hoc, hdc, hvc⟩, _, _⟩ := I1.hok c' _ hc
  obtain ⟨bs, hbind, hloc⟩ := M.binds
  have rc : codeAny (model X.prog X.w) (X.A.deeper (envOfC qg sg s.heap.objs.size g cdg)) (.call (.ref f) ⟨[], []⟩) (CR (L2.CX X.prog X.w) (envOfC qg sg s.heap.objs.size g cdg :: X.stack) X.prog X.w HZ s1 Q E) s1 := by
    refine PySem.W.kla_callFunE hr.depth of1 rfl L.co L.gen rfl ⟨c', oc, vs, t, rfl, hoc, hdc, hvc⟩ (hbind s1 stay _ _ _ _ ?_)
    refine wpAny_newFunctionEnv (fun y hy => (L.own y hy).1) hloc (fun h1 hns hsb => ⟨I1.nolimit.fresh _ hsb, ?_⟩) L.kind
    show codeAny _ _ (.expr body (lamEnv X scope s1.heap.objs.size f c')) _ _
    have kp : ∀ b o, s1.heap.get? b = some o → h1.get? b = some o := fun b o e => hsb.extBut b o (Nat.ne_of_lt (Heap.lt_size e)) (Heap.get?_push_of_some _ e)
    have J : Inv (lamCx X (X.A.deeper (envOfC qg sg s.heap.objs.size g cdg)) (envOfC qg sg s.heap.objs.size g cdg :: X.stack) s1 HZ E scope f c') [] σ HZ { s1 with heap := h1, toks := s1.toks + bs.length } :=
      lamW_start I L I1.env0 hr.hd un hns kp
    refine PySem.W.kla_codeExpr (wpAny_mono ((hbody _ _ s1 HZ E (hr.deeper _)).run [] _ _ HZ Q J ht) (fun v s' hq => ?_) fun e s' hq => hq)
    obtain ⟨w', H', J', rv, q⟩ := hq
    exact ⟨w', H', J'.os, J'.bare, J'.base, J'.hok, rv, q⟩
  refine wpAny_call (codeAny_mono rc fun r s' hq => ?_)
  match r, hq with
  | .error e, hq => exact tk e s' (XE.of_call I1 hW hq)
  | .ok (.ret u), hq => exact I1.after hq
  | .ok .next, hq => exact hq.elim
  | .ok .brk, hq => exact hq.elim
  | .ok .cont, hq => exact hq.elim
end
/-- how a lambda is made here -/
def MkLam (X : Cx) (T : List (Addr × Str)) (params : Arguments) (body : Expr) (scope : Scope) (lpos : Pos) : Prop :=
  ∀ (pins : List (Addr × Obj)) (σ : L2.St) (H : Hp) (s : Shared) (Q : Value → Shared → Prop), Inv X pins σ H s → Tabs T H →
    (∀ (f c' : Addr) (dV doc pm ctv : Value) (D : List (Addr × Obj)) (H1 : Hp) (s' : Shared), Inv X pins σ H1 s' → ExtN H H1 → Tabs T H1 → Made X H1 s' params body scope f c' dV doc pm ctv D → Q (.ref f) s') →
    wpAny (model X.prog X.w) X.A (eval (.Lambda params body scope lpos) X.env) Q X.xe s
/-- the def that calls what it got: a calls it; TT: what it makes of the lambda's reading -/
def Gives (X : Cx) (Ng : List Str) (x : Str) (sg : Scope) (g : Addr) (cdg : Value) (bg : List Stmt) (a : Str) (q : Str) (TT : (XK → Hp → VK → Prop) → Hp → VK → Prop) : Prop :=
  ∀ (f c' : Addr) (s : Shared) (H : Hp) (Q : VK) (tl : XK → Hp → VK → Prop), Room 1 (X.A.deeper (envOfC x sg s.heap.objs.size g cdg)) →
    (∀ (W : WX) (pn : List (Addr × Obj)) (xe : Value → Shared → Prop) (p1 p2 : Pos), Takes ((cxOf CX0 X.prog X.w X.K X.mg X.base Ng x sg g cdg X.A X.stack s H E0).tr pn xe) W →
      PE ((cxOf CX0 X.prog X.w X.K X.mg X.base Ng x sg g cdg X.A X.stack s H E0).tr pn xe) (.Call (.Name a p1) [] [] p2) (fun σZ HZ Q => σZ[0]? = some (some (.ref f)) ∧ HZ c' = some (CodeO c' q) ∧ ∃ E : XK, (∀ cls d H', E cls d H' → W cls d σZ H') ∧ tl E HZ Q)) →
    H c' = some (CodeO c' q) → TT tl H Q →
    ∃ t, PSs (cxOf CX0 X.prog X.w X.K X.mg X.base Ng x sg g cdg X.A X.stack s H E0).nox bg t ∧ t { nx := fun _ H' => Q .non H', rt := Q } (L2.start Ng [.ref f]) H
section
variable {X : Cx}
/-- x(lambda: body) -/
theorem pe_outc {T : List (Addr × Str)} {TT : (XK → Hp → VK → Prop) → Hp → VK → Prop} {x a : Str} {g : Addr} {k : Nat} {st : Stmt} {fd : FuncData} {Ng : List Str} {cdg : Value}
    {params : Arguments} {body : Expr} {scope : Scope} {t : XK → TE} {p lpos pos : Pos} (hg : Gl X x) (hm : X.mg x = some (.ref g)) (hk : PySem.W.keepIn X.K (.ref g) = true) (F : Fun X.K x x st g fd) (hcd : fd.code = cdg) (hb : L2.Binds X.K fd [a] []) (Sg : FnScope Ng [a] (defScope st)) (hNg : Ng[0]? = some a) (hva : Vis (defScope st) a)
    (hG : Gives X Ng x (defScope st) g cdg (defBody st) a (X.env.qual ++ "<lambda>") TT) (ML : MkLam X T params body scope lpos) (hr : Room (k + 2) X.A) (L : LamD X.N X.env.scope scope)
    (hbody : ∀ (A : Around) (outer : List Env) (s : Shared) (H : Hp) (E : XK) (f c' : Addr), Room k (A.deeper (lamEnv X scope s.heap.objs.size f c')) → PE (lamCx X A outer s H E scope f c') body (t E))
    (hdb : (x == ("__debug__" : Str)) = false := by decide) (hd : (a == ("__debug__" : Str)) = false := by decide) (hcc : (a == ("__classdict__" : Str)) = false := by decide) :
    PE X (.Call (.Name x p) [.Lambda params body scope lpos] [] pos) (tLam T TT t) := by
  refine ⟨fun pins s σ H Q I h => ?_⟩
  obtain ⟨hT, h⟩ := h
  obtain ⟨oc, od, kV, doc0, pm0, an, cdv, ct, osl, rfl, lk, hcg⟩ := F.ex
  obtain rfl : cdv = cdg := hcd
  refine wpAny_Call_Name_kw (ld_glob I hg hm ?_ hdb)
  refine PySem.W.callWith_K (h₀ := X.base) I.ok.mod.kin hk ?_ (by rfl) (by rfl)
  show wpAny _ _ (spliced ((false, eval (.Lambda params body scope lpos) X.env) :: backTo pos (starEach [] X.env))) _ _ s
  refine Calls.spliced_cons (ML pins σ H s _ I hT fun f c' dV doc pm ctv D H1 s' I1 eN T1 M => ?_)
  refine Calls.spliced_nil ⟨I1.kIn, ?_⟩
  have rc : codeAny (model X.prog X.w) X.A (.call (.ref g) ⟨[.ref f], []⟩) (CR CX0 X.stack X.prog X.w H1 s' Q E0) s' := by
    refine run_ofS (N := Ng) (ps := [a]) (us := [.ref f]) (vs := [.ref f]) lk hcg Sg hr I1.env0 (hb s' [.ref f] I1.kIn rfl) (.cons rfl .nil) rfl fun hr' => ?_
    obtain ⟨t', ht', hq'⟩ := hG f c' s' H1 Q (fun E H' Q' => t E σ H' Q') (hr'.mono (by omega)) (fun W pn xe p1 p2 tk => pe_actW (i := 0) I1 L M tk hr' (fun A outer s H E hr2 => hbody A outer s H E f c' hr2) hNg hva hd hcc) M.code (h H1 eN T1)
    exact ⟨t', ht'.nox, hq'⟩
  refine wpAny_call (codeAny_mono rc fun r s2 hq => ?_)
  match r, hq with
  | .error e, hq => exact (show False from hq).elim
  | .ok (.ret u), hq => exact I1.after hq
  | .ok .next, hq => exact hq.elim
  | .ok .brk, hq => exact hq.elim
  | .ok .cont, hq => exact hq.elim
end
end Wn
/-! a law whose defs make lambdas: the end, by the tables of their code -/
namespace Wn
open PySem PySem.Spec PyProof.Rows L2 LamX
/-- a def by its body, its code told -/
theorem fnGc {P : Program} {w : World} {K : PySem.W.Frag} {mg : Str → Option Value} {base : Heap} {CX : CXT} {k : Nat} {f : Addr} {fd : FuncData} {ps : List Str} {sp : Sp} {x qual : Str} {st : Stmt} {N : List Str} (F : Fun K x qual st f fd) (S : FnScope N ps (defScope st)) (sz : ∀ vs H Q E, sp vs H Q E → vs.length = ps.length)
    (body : ∀ (cdv : Value) (A : Around) (outer : List Env) (s : Shared) (H : Hp) (vs : List V) (Q : VK) (E : XK), fd.code = cdv → (A.deeper (envOfC qual (defScope st) s.heap.objs.size f cdv)).guards = some [] →
      Room k (A.deeper (envOfC qual (defScope st) s.heap.objs.size f cdv)) → sp vs H Q E →
      ∃ t, PSs (cxOf CX P w K mg base N qual (defScope st) f cdv A outer s H E) (defBody st) t ∧ t { nx := fun _ H' => Q .non H', rt := Q } (L2.start N vs) H) : FnG P w K mg base CX (k + 1) f fd ps sp := by
  obtain ⟨oc, od, kV, doc, pm, an, cdv, ct, osl, rfl, lk, hcd⟩ := F.ex
  refine ⟨sz, fun A hgd hr outer s H args us vs Q E e0 hb r h => ?_⟩
  have KI : K.In s.heap := e0.mod.kin.keeps fun b o e => (e0.bs b o e).1
  have NL : s.heap.NoLimit := e0.mod.nolimit.keeps fun b o e => (e0.bs b o e).1
  refine codeAny_call_function hr.depth (KI _ _ lk) rfl S.co S.gen rfl (PySem.W.codeRec_of KI hcd) (hb _ _ _ _ ?_)
  refine wpAny_newFunctionEnv_cells S.kind (fun y hy => ?_) fun env he s1 x => ?_
  · obtain ⟨n, v⟩ := y
    rcases S.par n (List.of_mem_zip hy).1 with q | q
    · exact .inl q
    · exact .inr ⟨q, PySem.W.cellsFrom_some _ _ _ (.inl q)⟩
  · subst he
    refine ⟨NL.keeps x.toInCall.keep, codeAny_func ?_⟩
    obtain ⟨t, ht, hq⟩ := body cdv A outer s H vs Q E rfl hgd (hr.deeper _) h
    refine wpAny_mono (ht.run [] s1 _ H _ (inv_start S hr.hd e0 (sz _ _ _ _ h) r x) hq) (fun fl s' z => ?_) fun e s' z => z
    cases fl with
    | ret u =>
      obtain ⟨v, σ', H', J, rv, q⟩ := z
      exact ⟨v, H', J.os, J.bare, J.base, J.hok, rv, q⟩
    | next =>
      obtain ⟨σ', H', J, q⟩ := z
      exact ⟨.non, H', J.os, J.bare, J.base, J.hok, rfl, q⟩
    | brk =>
      obtain ⟨_, _, _, q⟩ := z
      exact q.elim
    | cont =>
      obtain ⟨_, _, _, q⟩ := z
      exact q.elim
theorem fnGc0 {P : Program} {w : World} {K : PySem.W.Frag} {mg : Str → Option Value} {base : Heap} {k : Nat} {f : Addr} {fd : FuncData} {ps : List Str} {sp : Sp} {x qual : Str} {st : Stmt} {N : List Str} (F : Fun K x qual st f fd) (S : FnScope N ps (defScope st)) (sz : ∀ vs H Q E, sp vs H Q E → vs.length = ps.length)
    (body : ∀ (cdv : Value) (A : Around) (outer : List Env) (s : Shared) (H : Hp) (vs : List V) (Q : VK) (E : XK), fd.code = cdv → (A.deeper (envOfC qual (defScope st) s.heap.objs.size f cdv)).guards = some [] →
      Room k (A.deeper (envOfC qual (defScope st) s.heap.objs.size f cdv)) → sp vs H Q E →
      ∃ t, PSs (cxOf CX0 P w K mg base N qual (defScope st) f cdv A outer s H E).nox (defBody st) t ∧ t { nx := fun _ H' => Q .non H', rt := Q } (L2.start N vs) H) : FnG P w K mg base CX0 (k + 1) f fd ps sp :=
  fnGc F S sz fun cdv A outer s H vs Q E hc g r h => let ⟨t, ht, q⟩ := body cdv A outer s H vs Q E hc g r h; ⟨t, ht.nox, q⟩
/-- the law's call; cs: the code objects and their tables -/
theorem law_callGT {P : Program} {w : World} {K : PySem.W.Frag} {mg mb : Str → Option Value} {CX : CXT} {k : Nat} {fa a : Addr} {cs : List (Addr × Addr)} {fd : FuncData} {x : Str} {sp : Sp} {s1 : Shared} {vs : List Value} {ns : List Int}
    (KX : K.In s1.heap) (hns : s1.heap.Ns mainGlobals mg) (hb : s1.heap.Ns builtinsNs mb) (hbb : ∀ x : Str, x ≠ "__name__" → mb x = bootBuiltins x) (hlim : s1.heap.NoLimit) (hg : s1.gens = #[])
    (hT : ∀ p ∈ cs, s1.heap.get? p.2 = some { cls := .none, data := .fields #[] }) (nT : ∀ p ∈ cs, K.lookup p.2 = none) (C : ∀ p ∈ cs, PySem.W.CodeHd s1.heap p.1 p.2)
    (hbm : ∃ (bm : Addr) (ob : Obj), mg "__builtins__" = some (.ref bm) ∧ bm ≠ builtinsNs ∧ s1.heap.get? bm = some ob ∧ ob.cls = .type "module" ∧ ob.dict = some builtinsNs ∧ ob.data = .plain)
    (ha : s1.heap.get? a = some { cls := .type "list", data := .seq vs.toArray }) (hi : IntsAre vs ns) (hl : ns.length ≤ sizeLine) (hr : Room k callerA)
    (F : ∀ base : Heap, K.In base → base.Ns mainGlobals mg → (∀ p ∈ cs, TabB base mg p.1 p.2) → FnG P w K mg base CX k fa fd [x] sp) (hbind : ∀ (s : Shared) (u : Value), BindsTo s fd ⟨[u], []⟩ [(x, u)])
    (hsp : ∀ H : Hp, (∀ p ∈ cs, H p.2 = some (.tbl #[])) → SqL K H a (ns.map V.int) → sp [.ref a] H (fun v _ => v = .bl true) fun _ _ _ => False)
    (hCX : ∀ H e s', CX [] H s1 (fun _ _ _ => False) e s' → False) :
    codeAny (model P w) callerA (.call (.ref fa) ⟨[.ref a], []⟩) (fun r s' => r = .ok (.ret (.bool true)) ∧ OldK s1.heap s'.heap ∧ s'.os = s1.os ∧ AllBare s'.gens) s1 := by
  obtain ⟨ts, hts⟩ : ∃ ts, ts = cs.map (·.2) := ⟨_, rfl⟩
  have inT : ∀ {p : Addr × Addr}, p ∈ cs → p.2 ∈ ts := fun hp => by
    rw [hts]
    exact List.mem_map.mpr ⟨_, hp, rfl⟩
  have outT : ∀ {b : Addr}, b ∈ ts → s1.heap.get? b = some { cls := .none, data := .fields #[] } ∧ K.lookup b = none := fun hb => by
    rw [hts] at hb
    obtain ⟨p, hp, e⟩ := List.mem_map.mp hb
    rw [← e]
    exact ⟨hT p hp, nT p hp⟩
  have na : a ∉ ts := fun z => by
    have q := (outT z).1
    rw [ha] at q
    cases q
  obtain ⟨H, hH⟩ : ∃ H : Hp, H = fun b => if b ∈ ts then some (.tbl #[]) else if b = a ∧ K.lookup a = none then some (.frz { cls := .type "list", data := .seq vs.toArray } (.lst (ns.map V.int))) else none := ⟨_, rfl⟩
  have at_ : ∀ b u, H b = some u → (b ∈ ts ∧ u = .tbl #[]) ∨ (b = a ∧ K.lookup a = none ∧ u = .frz { cls := .type "list", data := .seq vs.toArray } (.lst (ns.map V.int))) := fun b u z => by
    rw [hH] at z
    dsimp only at z
    split at z
    · rename_i c
      exact .inl ⟨c, (Option.some.inj z).symm⟩
    · split at z
      · rename_i c
        exact .inr ⟨c.1, c.2, (Option.some.inj z).symm⟩
      · cases z
  have off : ∀ b o, s1.heap.get? b = some o → (∀ n, o.data ≠ .seq vs.toArray n) → o.data ≠ .fields #[] → H b = none := fun b o e d d2 => by
    cases z : H b with
    | none => rfl
    | some u =>
      rcases at_ b u z with ⟨w1, _⟩ | ⟨rfl, _, _⟩
      · rw [(outT w1).1] at e
        cases e
        exact absurd rfl d2
      · rw [ha] at e
        cases e
        exact absurd rfl (d _)
  have kb : ∀ b o, K.lookup b = some o → H b = none := fun b o e => by
    cases z : H b with
    | none => rfl
    | some u =>
      rcases at_ b u z with ⟨w1, _⟩ | ⟨rfl, z2, _⟩
      · rw [(outT w1).2] at e
        cases e
      · rw [z2] at e
        cases e
  have ok : HOk P w H s1.heap := fun b u z => by
    rcases at_ b u z with ⟨w1, rfl⟩ | ⟨rfl, _, rfl⟩
    · exact (outT w1).1
    · exact ⟨ha, by rw [List.length_map]; exact hl, vs, _, vals_ints hi, ha⟩
  have sq : SqL K H a (ns.map V.int) := by
    cases z : K.lookup a with
    | none =>
      refine .inl (.inr ⟨{ cls := .type "list", data := .seq vs.toArray }, ?_⟩)
      rw [hH]
      dsimp only
      rw [if_neg na]
      exact if_pos ⟨rfl, z⟩
    | some o =>
      have e := KX a o z
      rw [ha] at e
      cases e
      exact .inr ⟨_, vs.toArray, _, z, rfl, rfl, rfl, by rw [List.size_toArray, hi.length]; exact hl, by simpa using vals_ints hi⟩
  have tabs : ∀ p ∈ cs, H p.2 = some (.tbl #[]) := fun p hp => by
    rw [hH]
    exact if_pos (inT hp)
  have nsB : ∀ {b : Addr} {m : Str → Option Value}, s1.heap.Ns b m → (hidT s1.heap H).Ns b m := fun {b m} ⟨o, es, ep, e, d, r⟩ => ⟨o, es, ep, hidT_get e (off b o e (fun n z => by rw [d] at z; cases z) fun z => by rw [d] at z; cases z), d, r⟩
  have KB : K.In (hidT s1.heap H) := fun b o e => hidT_get (KX b o e) (kb b o e)
  have M : Mod K mg (hidT s1.heap H) := ⟨KB, nsB hns, ⟨mb, nsB hb, hbb⟩, let ⟨mc, h1, h2⟩ := hlim; ⟨mc, nsB h1, h2⟩⟩
  have TB : ∀ p ∈ cs, TabB (hidT s1.heap H) mg p.1 p.2 := fun p hp => by
    have g0 := hT p hp
    refine ⟨?_, ?_, fun z => ?_⟩
    · obtain ⟨o, us, file, tf, flags, tg, inF, text, tt, e1, r1, r2, r3, r⟩ := C p hp
      refine ⟨o, us, file, tf, flags, tg, inF, text, tt, hidT_get e1 (off _ _ e1 (fun n z => ?_) fun z => ?_), r1, r2, r3, r⟩
      · rw [r2] at z
        cases z
      · rw [r2] at z
        cases z
        simp at r3
    · obtain ⟨bm, ob, b1, b2, b3, b4, b5, b6⟩ := hbm
      have nG : bm ≠ mainGlobals := fun q => by
        obtain ⟨o, es, ep, e, hd, _⟩ := hns
        rw [q, e] at b3
        cases b3
        rw [hd] at b6
        cases b6
      have nP : bm ≠ p.2 := fun q => by
        rw [q, g0] at b3
        cases b3
        cases b6
      exact ⟨bm, ob, b1, b2, nG, nP, hidT_get b3 (off _ _ b3 (fun n z => by rw [b6] at z; cases z) fun z => by rw [b6] at z; cases z), b4, b5, b6⟩
    · obtain ⟨o, es, ep, e, hd, _⟩ := hns
      rw [z, g0] at e
      cases e
      cases hd
  have env : Env0 P w K mg (hidT s1.heap H) callerA [] s1 H := ⟨rfl, M, fun b o e => of_hidT e, Nat.le_of_eq (hidT_size _ _), trivial, fun b z => absurd (show b ∈ ([] : List Addr) from z) (by simp), ok, .of_eq hg⟩
  refine codeAny_mono ((F _ KB (nsB hns) TB).go callerA rfl hr [] s1 H ⟨[.ref a], []⟩ [.ref a] [.ref a] _ _ env (hbind s1 (.ref a)) (.cons rfl .nil) (hsp H tabs sq)) fun r s' z => ?_
  match r, z with
  | .error e, z => exact (hCX H e s' z).elim
  | .ok .next, z => exact z.elim
  | .ok .brk, z => exact z.elim
  | .ok .cont, z => exact z.elim
  | .ok (.ret u), z =>
    obtain ⟨v, H', os, bare, un, ok', rv, q⟩ := z
    obtain rfl : v = .bl true := q
    obtain rfl : u = Value.bool true := rv
    have grown : ∀ p ∈ cs, ∃ more : Array Value, s'.heap.get? p.2 = some { cls := .none, data := .fields more } := fun p hp => by
      obtain ⟨more, z⟩ := un.tbls p.2 #[] (tabs p hp)
      exact ⟨_, ok' p.2 _ z⟩
    have same : ∀ b o, b ∉ ts → s1.heap.get? b = some o → s'.heap.get? b = some o := fun b o nb e => by
      cases y : H b with
      | none => exact un.keep b o e y (fun c => absurd (show b ∈ ([] : List Addr) from c) (by simp)) (by simp)
      | some u =>
        rcases at_ b u y with ⟨w1, _⟩ | ⟨rfl, _, rfl⟩
        · exact absurd w1 nb
        · rw [ha] at e
          cases e
          exact (ok' _ _ (un.frzs _ _ _ y)).1
    refine ⟨rfl, ⟨fun b o e => ?_, fun b o e => ?_⟩, os, bare⟩
    · by_cases w1 : b ∈ ts
      · have w2 := w1
        rw [hts] at w2
        obtain ⟨p, hp, ep⟩ := List.mem_map.mp w2
        obtain ⟨more, hm⟩ := grown p hp
        rw [← ep] at e ⊢
        rw [hT p hp] at e
        cases e
        exact .inr (.inl ⟨((C p hp).tab (hT p hp)).isCodeTable, rfl, #[], more, rfl, by rw [Array.empty_append]; exact hm⟩)
      · exact .inl (same b o w1 e)
    · by_cases w1 : b ∈ ts
      · rw [hts] at w1
        obtain ⟨p, hp, ep⟩ := List.mem_map.mp w1
        obtain ⟨more, hm⟩ := grown p hp
        rw [← ep]
        exact ⟨_, hm⟩
      · exact ⟨o, same b o w1 e⟩
theorem walkGT {l : PySem.W.OpenLaw} {n k : Nat} {q : Program} {loose : List Str} {XP : (Str → Option Value) → Heap → Prop} {YP : World → Heap → Prop} {d : DefRec} {K : Params → PySem.W.Frag} {x : Str} {xs : List Str}
    (hn : l.most = some n) (hn2 : n ≤ sizeLine) (hdf : d.params.defaults = []) (hr : Room k callerA) (hxs : xs.all (fun y => ((recsOf q).find? fun e => e.name == y).isSome) = true) (hY : ∀ (w : World) (h : Heap), YP w h → (K w.params).In h)
    (F : ∀ (w : World) (mg : Str → Option Value) (fa : Addr) (h : Heap), (K w.params).In h → h.Ns mainGlobals mg → mg d.name = some (.ref fa) →
      ∃ (fd : FuncData) (cs : List (Addr × Addr)) (sp : Sp), (∀ p ∈ cs, (∃ y ∈ xs, PySem.W.tabIn (K w.params) y = some p) ∧ (K w.params).lookup p.2 = none) ∧ (∀ (s : Shared) (u : Value), BindsTo s fd ⟨[u], []⟩ [(x, u)]) ∧
        (∀ (H : Hp) (a : Addr) (ns : List Int), ns.length ≤ n → (∀ p ∈ cs, H p.2 = some (.tbl #[])) → SqL (K w.params) H a (ns.map V.int) → sp [.ref a] H (fun v _ => v = .bl true) fun _ _ _ => False) ∧
        ∀ base : Heap, (K w.params).In base → base.Ns mainGlobals mg → (∀ p ∈ cs, TabB base mg p.1 p.2) → FnG l.prog w (K w.params) mg base CX0 k fa fd [x] sp) :
    PySem.W.WalkO q loose XP YP l.row.toRowW d [] (fun f vs => PySem.call f vs) :=
  Att.attach_call hn hdf fun w s0 s1 mg mb fa o pm cd doc a vs ns G Y ho hd hcd hmg hobj hints hlen hg => by
    have KX := hY w _ Y
    obtain ⟨fd, cs, sp, hc, hb, hsp, hF⟩ := F w mg fa _ KX G.T.g hmg
    have tab : ∀ p ∈ cs, PySem.W.CodeHd s1.heap p.1 p.2 ∧ s1.heap.get? p.2 = some { cls := .none, data := .fields #[] } := fun p hp => by
      obtain ⟨⟨y, hy, e⟩, _⟩ := hc p hp
      have z := List.all_eq_true.mp hxs y hy
      obtain ⟨d2, e2⟩ := Option.isSome_iff_exists.mp z
      exact PySem.W.tab_of G.T KX e2 e
    exact law_callGT KX G.T.g G.T.b G.T.builtins G.T.nolimit hg (fun p hp => (tab p hp).2) (fun p hp => (hc p hp).2) (fun p hp => (tab p hp).1) G.T.bmain hobj hints (Nat.le_trans hlen hn2) hr hF hb (fun H hT hS => hsp H a ns hlen hT hS) fun H e s' z => z
end Wn
/-! C(e) for an error whose __init__ keeps e in its one field; raise C(e) -/
namespace Wn
open PySem PySem.Spec PyProof.Rows L2
def spInit (C : Addr) (f : Str) : Sp := fun vs H Q _ => ∃ (a : Addr) (v : V), vs = [.ref a, v] ∧ H a = some (exo a C none) ∧ ∀ d, H d = none → d ≠ a → Q .non (upd (upd H d (exd d [(f, v)])) a (exo a C (some d)))
section
variable {X : Cx} {o e : Expr} {to te : TE} {f x : Str} {p p' p1 p2 pos : Pos} {C fI W : Addr} {B newId initId : String} {bmB : List Value} {mc : Value} {wn : Str}
theorem ps_ostE (T : ErrC X.K C fI f B newId initId bmB) (ho : PE X o to) (he : PE X e te) (hs : swapsWith e (some (.Attribute o f p')) pos.line X.env = pure false := by rfl) : PS X (.Assign [.Attribute o f p'] e pos) (tOstE X.K C f to te) := by
  refine ⟨fun pins s σ H D I h => plainObj_wpAny_Assign_Attribute (thn (he.run pins s σ H _ I h) fun v s1 z1 => ?_) hs⟩
  obtain ⟨y, H1, I1, r1, q1⟩ := z1
  refine thn (ho.run pins s1 σ H1 _ I1 q1) fun u s2 z2 => ?_
  obtain ⟨w, H2, I2, r2, a, ew, ea, q⟩ := z2
  subst ew
  obtain rfl : u = Value.ref a := r2
  exact ostE T I2 ea r1 fun dx s' n ne J => ⟨σ, _, J, q dx n ne⟩
/-- the built-in class's own name -/
theorem pe_initB {es : List Expr} {ta : TA} {pl : Sem Bool} (T : ErrC X.K C fI f B newId initId bmB) (hg : Gl X wn) (hm : X.mg wn = none) (hv : bootBuiltins wn = some (.type B)) (hnn : wn ≠ "__name__") (hdb : (wn == ("__debug__" : Str)) = false) (ty : typeOf (.type B) = pure (.type "type")) (stub : Manifest.isStub B = false)
    (at_ : PySem.W.findCls X.K (.type B) (.type "type") "__init__" = some (.val (.builtin initId))) (hh : PySem.W.handedIn (.builtin initId) = true) (ha : PA X (e :: es) ta)
    (hc : eval (.Call (.Attribute (.Name wn p1) "__init__" p2) (e :: es) [] pos) X.env = (do
      let ov ← eval (.Name wn p1) X.env
      standAt p2.atName
      let (f, first) ← holding [ov] (getMethod ov "__init__" pl)
      callWith pos f first (backTo pos (starEach (e :: es) X.env)) (backToKw pos (keywordEach [] X.env))) := by rfl)
    (he : starEach (e :: es) X.env = (false, eval e X.env) :: starEach es X.env := by rfl) (hpl : (backTo pos (starEach es X.env)).any (·.1) = false := by rfl) :
    PE X (.Call (.Attribute (.Name wn p1) "__init__" p2) (e :: es) [] pos) (tInitE X.K C ta) := by
  refine ⟨fun pins s σ H Q I h => ?_⟩
  refine PySem.W.methodCall_KW (ld_blt I hg hm hv ?_ hnn hdb) hc
  obtain ⟨m, fr⟩ := I.fr
  refine PySem.W.method_type fr I.ok.mod.kin ty stub at_ hh ?_
  show wpAny _ _ (callWith pos (Value.builtin initId) [] (backTo pos (starEach (e :: es) X.env)) []) _ _ _
  exact call_initE (pl := pl) T ha (I.tok _) h he hpl
end
/-- what such a making asks, once its one value is there -/
theorem mk1_go {C : Addr} {f : Str} {v : V} {H1 : Hp} {Q : XK} (h : ∀ d, H1 d = none → Q (.ref C) (some d) (upd H1 d (.xd [(f, v)]))) :
    [v].length ≤ 1000 ∧ ∀ a, H1 a = none → spInit C f (.ref a :: ([v] ++ [])) (upd H1 a (exo a C none))
      (fun u H2 => u = .non ∧ ∃ (d : Addr) (fs : List (Str × V)), H2 a = some (exo a C (some d)) ∧ H2 d = some (exd d fs) ∧ H1 d = none ∧ Q (.ref C) (some d) (upd (del H2 a) d (.xd fs))) (fun _ _ _ => False) := by
  refine ⟨by show 1 ≤ 1000; decide, fun a na => ⟨a, v, rfl, upd_same, fun d nd da => ?_⟩⟩
  have nd1 : H1 d = none := by
    rw [upd_ne da] at nd
    exact nd
  refine ⟨rfl, d, [(f, v)], upd_same, ?_, nd1, ?_⟩
  · rw [upd_ne da, upd_same]
  · have e1 : upd (del (upd (upd (upd H1 a (exo a C none)) d (exd d [(f, v)])) a (exo a C (some d))) a) d (.xd [(f, v)]) = upd H1 d (.xd [(f, v)]) := by
      funext b
      by_cases hb : b = d
      · rw [hb, upd_same, upd_same]
      · rw [upd_ne hb, upd_ne hb]
        by_cases ha : b = a
        · rw [ha, del_same, na]
        · rw [del_ne ha, upd_ne ha, upd_ne hb, upd_ne ha]
    rw [e1]
    exact h d nd1
end Wn
/-! what gives data, where lambdas are made on the way: all but the tables of code stays -/
namespace Wn
open PySem PySem.Spec PyProof.Rows L2 LamX
theorem extOf {H H' : Hp} (g : Gr [] H H') : ExtN H H' := fun b o h _ => g b o (by simp) h
theorem tabsGr {T : List (Addr × Str)} {H H' : Hp} (t : Tabs T H) (g : Gr [] H H') : Tabs T H' := fun p hp => (t p hp).ext fun b o e => g b o (by simp) e
theorem kpExt {H H' : Hp} (g : ExtN H H') : Kp H H' := ⟨fun a _ e => g a _ e (fun _ z => by cases z), fun a _ e => g a _ e (fun _ z => by cases z), fun a _ _ e => g a _ e (fun _ z => by cases z)⟩
theorem ExtN.lst {H H' : Hp} {a : Addr} {xs : List V} (g : ExtN H H') (h : H a = some (.lst xs)) : H' a = some (.lst xs) := g a _ h (fun _ z => by cases z)
theorem ExtN.tup {H H' : Hp} {a : Addr} {xs : List V} (g : ExtN H H') (h : H a = some (.tup xs)) : H' a = some (.tup xs) := g a _ h (fun _ z => by cases z)
theorem ExtN.dK {H H' : Hp} {a : Addr} {xs : List (Key × V)} (g : ExtN H H') (h : H a = some (.dK xs)) : H' a = some (.dK xs) := g a _ h (fun _ z => by cases z)
/-- what an error's outcome is: class, field, word -/
def TTg (es : List (Addr × Str × Str)) : (XK → Hp → VK → Prop) → Hp → VK → Prop := fun tl H Q =>
  ∀ (H2 : Hp) (Qn : VK) (E : XK), Gr [] H H2 → (∀ v H3, (∀ p, H3 p = none → Q (.ref p) (upd H3 p (.lst [v]))) → Qn v H3) →
    (∀ (C d : Addr) (f w : Str) (v : V) (H3 : Hp), (C, f, w) ∈ es → H3 d = some (.xd [(f, v)]) → (∀ t H4, Gr [] H3 H4 → H4 t = some (.tup [.str w, v]) → Q (.ref t) H4) → E (.ref C) (some d) H3) → tl E H2 Qn
section
variable {K : PySem.W.Frag} {T : List (Addr × Str)} {σ : L2.St} {H : Hp}
def EvT (K : PySem.W.Frag) (T : List (Addr × Str)) (te : TE) (σ : L2.St) (H : Hp) (d : PyData) : Prop := ∀ H1, ExtN H H1 → Tabs T H1 → ∀ Q : VK, (∀ v H2, ExtN H1 H2 → Tabs T H2 → Dp K H2 v d → Q v H2) → te σ H1 Q
def EvTS (K : PySem.W.Frag) (T : List (Addr × Str)) (ta : TA) (σ : L2.St) (H : Hp) (ds : List PyData) : Prop := ∀ H1, ExtN H H1 → Tabs T H1 → ∀ Q : List V → Hp → Prop, (∀ vs H2, ExtN H1 H2 → Tabs T H2 → DpAll K H2 vs ds → Q vs H2) → ta σ H1 Q
def EvTL (K : PySem.W.Frag) (T : List (Addr × Str)) (te : TE) (σ : L2.St) (H : Hp) (ds : List PyData) : Prop := ∀ H1, ExtN H H1 → Tabs T H1 → ∀ Q : VK, (∀ p xs H2, ExtN H1 H2 → Tabs T H2 → H2 p = some (.lst xs) → DpAll K H2 xs ds → Q (.ref p) H2) → te σ H1 Q
theorem EvTL.d {te : TE} {ds : List PyData} (h : EvTL K T te σ H ds) : EvT K T te σ H (.list ds) := fun H1 g t Q q => h H1 g t Q fun p xs H2 g2 t2 e a => q _ H2 g2 t2 (dp_lst e a)
/-- what makes no lambda, whatever stands -/
theorem et_of {te : TE} {d : PyData} (h : ∀ H, EvD K te σ H d) : EvT K T te σ H d := fun H1 _ t Q q => h H1 H1 (Gr.refl _ _) Q fun v H2 g2 a => q v H2 (extOf g2) (tabsGr t g2) a
theorem el_of {te : TE} {ds : List PyData} (h : ∀ H, EvL K te σ H ds) : EvTL K T te σ H ds := fun H1 _ t Q q => h H1 H1 (Gr.refl _ _) Q fun p xs H2 g2 e a => q p xs H2 (extOf g2) (tabsGr t g2) e a
theorem et_var {i : Nat} {v : V} {d : PyData} (e : σ[i]? = some (some v)) (h : Dp K H v d) : EvT K T (tVar i) σ H d := fun H1 g t Q q => ⟨v, e, q v H1 (ExtN.refl _) t (Dp.kp (kpExt g) h)⟩
theorem etl_var {i : Nat} {p : Addr} {xs : List V} {ds : List PyData} (e : σ[i]? = some (some (.ref p))) (h : H p = some (.lst xs)) (a : DpAll K H xs ds) : EvTL K T (tVar i) σ H ds :=
  fun H1 g t Q q => ⟨_, e, q p xs H1 (ExtN.refl _) t (ExtN.lst g h) (DpAll.kp (kpExt g) a)⟩
theorem ets_nil : EvTS K T tNil σ H [] := fun H1 _ t Q q => q _ H1 (ExtN.refl _) t .nil
theorem ets_cons {te : TE} {ta : TA} {d : PyData} {ds : List PyData} (h : EvT K T te σ H d) (r : EvTS K T ta σ H ds) : EvTS K T (tCons te ta) σ H (d :: ds) := fun H1 g t Q q =>
  h H1 g t _ fun v H2 g2 t2 dv => r H2 (g.trans g2) t2 _ fun vs H3 g3 t3 dvs => q _ H3 (g2.trans g3) t3 (.cons (Dp.kp (kpExt g3) dv) dvs)
theorem et_tup {ta : TA} {ds : List PyData} (h : EvTS K T ta σ H ds) (hz : ds.length ≤ 1000 := by exact Nat.le_of_ble_eq_true rfl) : EvT K T (tTup ta) σ H (.tuple ds) := fun H1 g t Q q =>
  h H1 g t _ fun vs H2 g2 t2 a => ⟨by rw [dpAll_len a]; exact Nat.le_of_lt (small1000 hz), fun p np => q _ _ (g2.trans (extOf (Gr.new np))) (tabsGr t2 (Gr.new np)) (dp_tup upd_same (DpAll.kp (Kp.of (Gr.new np)) a))⟩
theorem etl_lst {ta : TA} {ds : List PyData} (h : EvTS K T ta σ H ds) (hz : ds.length ≤ 1000 := by exact Nat.le_of_ble_eq_true rfl) : EvTL K T (tLst ta) σ H ds := fun H1 g t Q q =>
  h H1 g t _ fun vs H2 g2 t2 a => ⟨by rw [dpAll_len a]; exact Nat.le_of_lt (small1000 hz), fun p np => q _ _ _ (g2.trans (extOf (Gr.new np))) (tabsGr t2 (Gr.new np)) upd_same (DpAll.kp (Kp.of (Gr.new np)) a)⟩
theorem etl_cat {ta tb : TE} {ds es : List PyData} (h1 : EvTL K T ta σ H ds) (h2 : EvTL K T tb σ H es) (hz : ds.length + es.length ≤ 1000 := by exact Nat.le_of_ble_eq_true rfl) : EvTL K T (tOp rCat ta tb) σ H (ds ++ es) := fun H1 g t Q q =>
  h1 H1 g t _ fun p xs H2 g2 t2 e2 a2 => h2 H2 (g.trans g2) t2 _ fun p3 ys H3 g3 t3 e3 a3 => by
    have e2' := ExtN.lst g3 e2
    refine ⟨p, p3, xs, ys, rfl, rfl, e2', e3, by rw [dpAll_len a2, dpAll_len a3]; exact Nat.le_of_lt (small1000 hz), fun p4 np => ?_⟩
    exact q p4 _ _ ((g2.trans g3).trans (extOf (Gr.new np))) (tabsGr t3 (Gr.new np)) upd_same (dpAll_append (DpAll.kp (kpExt (g3.trans (extOf (Gr.new np)))) a2) (DpAll.kp (Kp.of (Gr.new np)) a3))
theorem et_eq {ta tb : TE} {d e : PyData} (h1 : EvT K T ta σ H d) (h2 : EvT K T tb σ H e) (s1 : SeqAt.shaped d = true) (s2 : SeqAt.shaped e = true) : EvT K T (tOp (rEqD K) ta tb) σ H (.bool (PyData.eqv d e)) := fun H1 g t Q q =>
  h1 H1 g t _ fun v H2 g2 t2 a => h2 H2 (g.trans g2) t2 _ fun w H3 g3 t3 b => ⟨d, e, Dp.kp (kpExt g3) a, b, s1, s2, q _ H3 (g2.trans g3) t3 (.bl _)⟩
theorem et_ne {ta tb : TE} {d e : PyData} (h1 : EvT K T ta σ H d) (h2 : EvT K T tb σ H e) (s1 : SeqAt.shaped d = true) (s2 : SeqAt.shaped e = true) : EvT K T (tOp (rNeD K) ta tb) σ H (.bool (!PyData.eqv d e)) := fun H1 g t Q q =>
  h1 H1 g t _ fun v H2 g2 t2 a => h2 H2 (g.trans g2) t2 _ fun w H3 g3 t3 b => ⟨d, e, Dp.kp (kpExt g3) a, b, s1, s2, q _ H3 (g2.trans g3) t3 (.bl _)⟩
/-- what comes of a lambda whose body gives d -/
theorem et_out {es : List (Addr × Str × Str)} {t : XK → TE} {d : PyData} (h : ∀ E H, EvD K (t E) σ H d) : EvT K T (tLam T (TTg es) t) σ H (.list [d]) := fun H1 _ t1 Q q =>
  ⟨t1, fun H2 g2 t2 H3 Qn E g3 kn _ => h E H3 H3 (Gr.refl _ _) Qn fun v H4 g4 a => kn v H4 fun p np =>
    q _ _ (g2.trans (extOf ((g3.trans g4).trans (Gr.new np)))) (tabsGr t2 ((g3.trans g4).trans (Gr.new np))) (dp_lst upd_same (.cons (Dp.kp (Kp.of (Gr.new np)) a) .nil))⟩
/-- .. whose body raises an error with the value d -/
theorem et_outE {es : List (Addr × Str × Str)} {t : XK → TE} {d : PyData} {C : Addr} {f w : Str} (hm : (C, f, w) ∈ es)
    (h : ∀ (E : XK) (H1 : Hp) (Q : VK), (∀ (dd : Addr) (v : V) H2, Gr [] H1 H2 → H2 dd = some (.xd [(f, v)]) → Dp K H2 v d → E (.ref C) (some dd) H2) → t E σ H1 Q) : EvT K T (tLam T (TTg es) t) σ H (.tuple [.str w, d]) := fun H1 _ t1 Q q =>
  ⟨t1, fun H2 g2 t2 H3 Qn E g3 _ ke => h E H3 Qn fun dd v H4 g4 hd a => ke C dd f w v H4 hm hd fun t' H5 g5 h5 =>
    q _ _ (g2.trans (extOf ((g3.trans g4).trans g5))) (tabsGr t2 ((g3.trans g4).trans g5)) (dp_tup h5 (.cons (.str _) (.cons (Dp.kp (Kp.of g5) a) .nil)))⟩
theorem stt_asgL {te : TE} {i : Nat} {ds : List PyData} {D : Ends} (t : Tabs T H) (h : EvTL K T te σ H ds) (k : ∀ p xs H2, ExtN H H2 → Tabs T H2 → H2 p = some (.lst xs) → DpAll K H2 xs ds → D.nx (σ.set i (some (.ref p))) H2) : tAsg te (gName i) D σ H := h H (ExtN.refl _) t _ k
theorem stt_retB {te : TE} {b : Bool} {D : Ends} (t : Tabs T H) (h : EvT K T te σ H (.bool b)) (k : ∀ H2, ExtN H H2 → Tabs T H2 → D.rt (.bl b) H2) : tRet te D σ H := h H (ExtN.refl _) t _ fun v H2 g t2 e => by rw [dp_bool e]; exact k H2 g t2
theorem ttt_of {te : TE} {b : Bool} {H1 : Hp} {Q : Bool → Hp → Prop} (t : Tabs T H1) (h : EvT K T te σ H (.bool b)) (g : ExtN H H1) (q : ∀ H2, ExtN H1 H2 → Tabs T H2 → Q b H2) : tTest te σ H1 Q := h H1 g t _ fun v H2 g2 t2 e => ⟨b, dp_bool e, q H2 g2 t2⟩
theorem ttb_of {te : TE} {b : Bool} {H1 : Hp} {Q : Bool → Hp → Prop} (t : Tabs T H1) (h : EvT K T te σ H (.bool b)) (g : ExtN H H1) (q : ∀ H2, ExtN H1 H2 → Tabs T H2 → Q b H2) : tB te σ H1 Q := h H1 g t _ fun v H2 g2 t2 e => ⟨b, dp_bool e, q H2 g2 t2⟩
theorem et_andV {ta tb : TE} {a b : Bool} (h1 : EvT K T ta σ H (.bool a)) (h2 : EvT K T tb σ H (.bool b)) : EvT K T (tAndV ta tb) σ H (.bool (a && b)) := fun H1 g t Q q =>
  h1 H1 g t _ fun v H2 g2 t2 e => ⟨a, dp_bool e, by
    cases a with
    | true => exact iteT (h2 H2 (g.trans g2) t2 _ fun w H3 g3 t3 e3 => q w H3 (g2.trans g3) t3 e3)
    | false => exact iteF (q _ H2 g2 t2 (.bl false))⟩
theorem et_orV {ta tb : TE} {a b : Bool} (h1 : EvT K T ta σ H (.bool a)) (h2 : EvT K T tb σ H (.bool b)) : EvT K T (tOrV ta tb) σ H (.bool (a || b)) := fun H1 g t Q q =>
  h1 H1 g t _ fun v H2 g2 t2 e => ⟨a, dp_bool e, by
    cases a with
    | true => exact iteT (q _ H2 g2 t2 (.bl true))
    | false => exact iteF (h2 H2 (g.trans g2) t2 _ fun w H3 g3 t3 e3 => q w H3 (g2.trans g3) t3 e3)⟩
end
end Wn
namespace Wn
open PySem PySem.Spec PyProof.Rows L2 LamX
theorem tabsGrM {T : List (Addr × Str)} {H H' : Hp} {d : Addr} (t : Tabs T H) (g : Gr [d] H H') (h : ∃ kvs, H d = some (.dK kvs)) : Tabs T H' := fun p hp => by
  obtain ⟨kvs, hd⟩ := h
  obtain ⟨ps, h1, h2, h3⟩ := t p hp
  refine ⟨ps, g _ _ (by simp; exact ne_of h1 hd (by intro z; cases z)) h1, h2, fun pos cv hc => ?_⟩
  obtain ⟨c, e1, e2⟩ := h3 pos cv hc
  exact ⟨c, e1, g _ _ (by simp; exact ne_of e2 hd (by intro z; cases z)) e2⟩
theorem tabs0 {T : List (Addr × Str)} {H : Hp} (h : ∀ p ∈ T, H p.1 = some (.tbl #[])) : Tabs T H := fun p hp =>
  ⟨#[], h p hp, by trivial, fun pos cv hc => by cases hc⟩
def tInts : List Int → TA
  | [] => tNil
  | i :: r => tCons (tC (.int i)) (tInts r)
theorem tInts_go {σ : L2.St} {H : Hp} : ∀ {is : List Int} {Q : List V → Hp → Prop}, Q (is.map V.int) H → tInts is σ H Q
  | [], _, q => q
  | i :: r, Q, q => tInts_go (is := r) (Q := fun vs H2 => Q (.int i :: vs) H2) q
section
variable {K : PySem.W.Frag} {T : List (Addr × Str)} {σ : L2.St} {H : Hp}
theorem ev_powN {a c : Nat} (h : CPow a c) : EvD K (tOp (rI CPow fun i j => .int (i ^ j.toNat)) (tC (.int (a : Nat))) (tC (.int (c : Nat)))) σ H (.int ((a ^ c : Nat) : Int)) := fun H1 _ Q q => ⟨a, c, rfl, rfl, h, by
  have e : ((a : Nat) : Int) ^ ((c : Nat) : Int).toNat = ((a ^ c : Nat) : Int) := by rw [Int.toNat_natCast, Int.natCast_pow]
  show Q (.int (((a : Nat) : Int) ^ ((c : Nat) : Int).toNat)) H1
  rw [e]
  exact q _ H1 (Gr.refl _ _) (.int _)⟩
theorem ev_pow {a c : Int} (h : CPow a c) : EvD K (tOp (rI CPow fun i j => .int (i ^ j.toNat)) (tC (.int a)) (tC (.int c))) σ H (.int (a ^ c.toNat)) := fun H1 _ Q q => ⟨a, c, rfl, rfl, h, q _ H1 (Gr.refl _ _) (.int _)⟩
end
end Wn
namespace Wn
open PySem PySem.Spec PyProof.Rows L2
theorem tab_mk {K : PySem.W.Frag} {x : Str} {f c P : Addr} {oc c1 : Value} {od d1 : Option Addr} {fd : FuncData} {sl s1 : Array (Option Value)} {vs : Array Value} (a : PySem.W.nsIn K mainGlobals x = some (some (.ref f))) (l : K.lookup f = some ⟨oc, od, .func fd, sl⟩) (e : fd.code = .ref c)
    (l2 : K.lookup c = some ⟨c1, d1, .fields vs, s1⟩) (h : vs[11]? = some (.ref P)) : PySem.W.tabIn K x = some (c, P) := by
  unfold PySem.W.tabIn
  rw [a]
  dsimp only
  rw [l]
  dsimp only
  rw [e]
  dsimp only
  rw [l2]
  dsimp only
  rw [h]
end Wn
namespace Wn
open PySem PySem.Spec PyProof.Rows L2 LamX
section
variable {K : PySem.W.Frag} {T : List (Addr × Str)} {σ : L2.St} {H : Hp} {es : List (Addr × Str × Str)} {t : XK → TE} {d : PyData}
/-- .. over what stands here -/
theorem et_outV (h : ∀ (E : XK) (H1 : Hp), ExtN H H1 → ∀ Q : VK, (∀ v H2, Gr [] H1 H2 → Dp K H2 v d → Q v H2) → t E σ H1 Q) : EvT K T (tLam T (TTg es) t) σ H (.list [d]) := fun H1 g0 t1 Q q =>
  ⟨t1, fun H2 g2 t2 H3 Qn E g3 kn _ => h E H3 ((g0.trans g2).trans (extOf g3)) Qn fun v H4 g4 a => kn v H4 fun p np =>
    q _ _ (g2.trans (extOf ((g3.trans g4).trans (Gr.new np)))) (tabsGr t2 ((g3.trans g4).trans (Gr.new np))) (dp_lst upd_same (.cons (Dp.kp (Kp.of (Gr.new np)) a) .nil))⟩
theorem et_outX {C : Addr} {f w : Str} (hm : (C, f, w) ∈ es)
    (h : ∀ (E : XK) (H1 : Hp), ExtN H H1 → ∀ (Q : VK), (∀ (dd : Addr) (v : V) H2, Gr [] H1 H2 → H2 dd = some (.xd [(f, v)]) → Dp K H2 v d → E (.ref C) (some dd) H2) → t E σ H1 Q) : EvT K T (tLam T (TTg es) t) σ H (.tuple [.str w, d]) := fun H1 g0 t1 Q q =>
  ⟨t1, fun H2 g2 t2 H3 Qn E g3 _ ke => h E H3 ((g0.trans g2).trans (extOf g3)) Qn fun dd v H4 g4 hd a => ke C dd f w v H4 hm hd fun t' H5 g5 h5 =>
    q _ _ (g2.trans (extOf ((g3.trans g4).trans g5))) (tabsGr t2 ((g3.trans g4).trans g5)) (dp_tup h5 (.cons (.str _) (.cons (Dp.kp (Kp.of g5) a) .nil)))⟩
theorem EvT.on {te : TE} {H' : Hp} (h : EvT K T te σ H d) (g : ExtN H H') : EvT K T te σ H' d := fun H1 g1 t1 Q q => h H1 (g.trans g1) t1 Q q
end
end Wn
namespace Wn
open PySem PySem.Spec PyProof.Rows L2 LamX
section
variable {K : PySem.W.Frag} {T : List (Addr × Str)} {σ : L2.St} {H : Hp}
/-- the first part of «or» in a test, false -/
theorem ttt_orL {te : TE} {u : TT} {b : Bool} {Q : Bool → Hp → Prop} (t : Tabs T H) (h : EvT K T te σ H (.bool b)) (hb : b = false) (q : ∀ H2, ExtN H H2 → Tabs T H2 → u σ H2 Q) : tOr (tTest te) u σ H Q := h H (ExtN.refl _) t _ fun v H2 g2 t2 e => ⟨b, dp_bool e, iteFb hb (q H2 g2 t2)⟩
end
end Wn
namespace Wn
open PySem PySem.Spec PyProof.Rows L2
/-! a list grown: data in which no list of its size stands, stay -/
mutual
def noLen (n : Nat) : PyData → Bool
  | .list xs => decide (xs.length ≠ n) && noLenAll n xs
  | .tuple xs => noLenAll n xs
  | _ => true
def noLenAll (n : Nat) : List PyData → Bool
  | [] => true
  | x :: xs => noLen n x && noLenAll n xs
end
mutual
theorem Dp.app {K : PySem.W.Frag} {H : Hp} {l : Addr} {xs : List V} {y : V} (h : H l = some (.lst xs)) : ∀ {v : V} {d : PyData}, Dp K H v d → noLen xs.length d = true → Dp K (upd H l (.lst (xs ++ [y]))) v d
  | _, _, .non, _ => .non
  | _, _, .bl b, _ => .bl b
  | _, _, .int i, _ => .int i
  | _, _, .str z, _ => .str z
  | _, _, .lst (a := a) (xs := zs) (ds := ds) s t, n => by
    rw [noLen, Bool.and_eq_true, decide_eq_true_eq] at n
    have hl := dpAll_len t
    refine .lst ?_ (DpAll.app h t n.2)
    rcases s with (s | ⟨o, s⟩) | s
    · by_cases e : a = l
      · subst e
        rw [h] at s
        cases s
        exact absurd hl.symm n.1
      · exact .inl (.inl (by rw [upd_ne e]; exact s))
    · exact .inl (.inr ⟨o, by rw [upd_ne (fun e => by rw [e, h] at s; cases s)]; exact s⟩)
    · exact .inr s
  | _, _, .tup (a := a) (xs := zs) (ds := ds) s t, n => by
    rw [noLen] at n
    refine .tup ?_ (DpAll.app h t n)
    rcases s with (s | ⟨o, s⟩) | s
    · exact .inl (.inl (by rw [upd_ne (fun e => by rw [e, h] at s; cases s)]; exact s))
    · exact .inl (.inr ⟨o, by rw [upd_ne (fun e => by rw [e, h] at s; cases s)]; exact s⟩)
    · exact .inr s
theorem DpAll.app {K : PySem.W.Frag} {H : Hp} {l : Addr} {xs : List V} {y : V} (h : H l = some (.lst xs)) : ∀ {vs : List V} {ds : List PyData}, DpAll K H vs ds → noLenAll xs.length ds = true → DpAll K (upd H l (.lst (xs ++ [y]))) vs ds
  | _, _, .nil, _ => .nil
  | _, _, .cons a b, n => by
    rw [noLenAll, Bool.and_eq_true] at n
    exact .cons (Dp.app h a n.1) (DpAll.app h b n.2)
end
/-- the tables stay where a list grows -/
theorem tabsApp {T : List (Addr × Str)} {H : Hp} {l : Addr} {xs ys : List V} (t : LamX.Tabs T H) (h : H l = some (.lst xs)) : LamX.Tabs T (upd H l (.lst ys)) := fun p hp => by
  obtain ⟨ps, h1, h2, h3⟩ := t p hp
  refine ⟨ps, by rw [upd_ne (ne_of h1 h (by intro z; cases z))]; exact h1, h2, fun pos cv hc => ?_⟩
  obtain ⟨c, e1, e2⟩ := h3 pos cv hc
  exact ⟨c, e1, by rw [upd_ne (ne_of e2 h (by intro z; cases z))]; exact e2⟩
end Wn
namespace Wn
open PySem PySem.Spec PyProof.Rows L2 LamX
section
variable {K : PySem.W.Frag} {T : List (Addr × Str)} {σ : L2.St} {H : Hp}
theorem noLenAll_app (n : Nat) : ∀ xs ys : List PyData, noLenAll n (xs ++ ys) = (noLenAll n xs && noLenAll n ys)
  | [], ys => by simp [noLenAll]
  | x :: xs, ys => by
    have ih := noLenAll_app n xs ys
    show noLenAll n (x :: (xs ++ ys)) = _
    rw [noLenAll, noLenAll, ih, Bool.and_assoc]
/-- l.append(e) -/
theorem stt_app {te : TE} {i : Nat} {l : Addr} {xs : List V} {ds : List PyData} {d : PyData} {D : Ends} (t : Tabs T H) (hi : σ[i]? = some (some (.ref l))) (e : H l = some (.lst xs)) (a : DpAll K H xs ds) (h : EvT K T te σ H d) (hn : noLenAll ds.length (ds ++ [d]) = true) (hz : ds.length < 1000)
    (k : ∀ ys H2, Tabs T H2 → H2 l = some (.lst ys) → DpAll K H2 ys (ds ++ [d]) → D.nx σ H2) : tDrop (tBM K "list" rAppend (tVar i) (tCons te tNil)) D σ H := by
  refine ⟨_, hi, .inl ⟨rfl, _, sq_lst e⟩, ?_⟩
  refine h H (ExtN.refl _) t _ fun v H2 g2 t2 dv => ?_
  have hl := dpAll_len a
  have e2 := ExtN.lst g2 e
  have a2 := DpAll.kp (kpExt g2) a
  rw [noLenAll_app, Bool.and_eq_true] at hn
  have n2 : noLen ds.length d = true := by
    have := hn.2
    rw [noLenAll, Bool.and_eq_true] at this
    exact this.1
  refine ⟨l, xs, v, rfl, rfl, e2, Nat.lt_of_lt_of_le (show xs.length < 6000 by omega) (by decide), ?_⟩
  refine k (xs ++ [v]) _ (tabsApp t2 e2) upd_same (dpAll_append (DpAll.app e2 a2 (by rw [hl]; exact hn.1)) (.cons (Dp.app e2 dv (by rw [hl]; exact n2)) .nil))
theorem stt_set {te : TE} {i : Nat} {d : PyData} {D : Ends} (t : Tabs T H) (h : EvT K T te σ H d) (k : ∀ v H2, ExtN H H2 → Tabs T H2 → Dp K H2 v d → D.nx (σ.set i (some v)) H2) : tAsg te (gName i) D σ H := h H (ExtN.refl _) t _ k
theorem et_repr {te : TE} {d : PyData} (h : EvT K T te σ H d) (f : Fits d) : EvT K T (tCB (rRepr K) (tCons te tNil)) σ H (.str d.shown) := fun H1 g t Q q =>
  h H1 g t _ fun v H2 g2 t2 a => ⟨v, d, rfl, a, f, q _ H2 g2 t2 (.str _)⟩
/-- two texts compared -/
theorem et_eqS {ta tb : TE} {x y : Str} (h1 : EvT K T ta σ H (.str x)) (h2 : EvT K T tb σ H (.str y)) : EvT K T (tOp rEq ta tb) σ H (.bool (decide (x = y))) := fun H1 g t Q q =>
  h1 H1 g t _ fun v H2 g2 t2 a => h2 H2 (g.trans g2) t2 _ fun w H3 g3 t3 b => by
    have e1 : v = .str x := by cases a; rfl
    have e2 : w = .str y := by cases b; rfl
    subst e1 e2
    refine ⟨rfl, ?_⟩
    have e3 : decide (V.str x = V.str y) = decide (x = y) := by
      rw [decide_eq_decide]
      exact ⟨fun z => V.str.inj z, fun z => by rw [z]⟩
    show Q (.bl (decide (V.str x = V.str y))) H3
    rw [e3]
    exact q _ H3 (g2.trans g3) t3 (.bl _)
end
end Wn
namespace Wn
open PySem PySem.Spec PyProof.Rows L2
open LamX (Tabs ExtN tLam)
local macro_rules | `(tactic| walk_at "vc") => `(tactic| simp only [cxK, cxK2, start1, start2, start3, tRet, tRetN, tSeq, tNext, tIfS, tAsg, gName, tDrop, tVar, tC, tOp, tUn, tTest, tB, tNot, tAnd, tOr, tAndV, tOrV, tNotV, tIf, tCons, tNil, tCB, tCall, tChain, tAug, ipI, rI, rI0, rU, rIs, rGcd, rEq, rNe, scal,
  List.getElem?_cons_zero, List.getElem?_cons_succ, List.set_cons_zero, List.set_cons_succ, Option.some.injEq, List.cons.injEq, V.int.injEq, V.bl.injEq, V.ref.injEq, V.str.injEq, and_true, true_and, exists_eq_left, exists_eq_left', exists_and_left, exists_and_right, List.append_nil, List.nil_append, List.cons_append, exists_eq_right, exists_eq_right', and_assoc, exists_const, V.ty.injEq, ↓reduceIte, Bool.false_eq_true, Bool.not_true, Bool.not_false, decide_eq_true_eq])
def topS (i : Nat) : Stmt := PySem.Challenge.pw_wheelnines_k10_whole_quotients.main.body.getD i (.Pass ⟨0, 0, 0, 0⟩)
abbrev s_is_integer : Stmt := topS 15
theorem sc_is_integer : FnScope ["value"] ["value"] (defScope s_is_integer) := ⟨rfl, rfl, rfl, by decide +kernel, rfl, by decide +kernel, by decide +kernel⟩
abbrev s_is_within : Stmt := topS 16
theorem sc_is_within : FnScope ["value", "low", "high"] ["value", "low", "high"] (defScope s_is_within) := ⟨rfl, rfl, rfl, by decide +kernel, rfl, by decide +kernel, by decide +kernel⟩
abbrev s_need_base : Stmt := topS 17
theorem sc_need_base : FnScope ["value"] ["value"] (defScope s_need_base) := ⟨rfl, rfl, rfl, by decide +kernel, rfl, by decide +kernel, by decide +kernel⟩
abbrev s_need_denominator : Stmt := topS 18
theorem sc_need_denominator : FnScope ["value"] ["value"] (defScope s_need_denominator) := ⟨rfl, rfl, rfl, by decide +kernel, rfl, by decide +kernel, by decide +kernel⟩
abbrev s_need_pure : Stmt := topS 19
theorem sc_need_pure : FnScope ["base", "denominator"] ["base", "denominator"] (defScope s_need_pure) := ⟨rfl, rfl, rfl, by decide +kernel, rfl, by decide +kernel, by decide +kernel⟩
abbrev s_pure_part : Stmt := topS 20
theorem sc_pure_part : FnScope ["base", "denominator", "pure", "common"] ["base", "denominator"] (defScope s_pure_part) := ⟨rfl, rfl, rfl, by decide +kernel, rfl, by decide +kernel, by decide +kernel⟩
abbrev s_period : Stmt := topS 21
theorem sc_period : FnScope ["base", "denominator", "pure", "one", "rest", "size"] ["base", "denominator"] (defScope s_period) := ⟨rfl, rfl, rfl, by decide +kernel, rfl, by decide +kernel, by decide +kernel⟩
abbrev s_power_rest : Stmt := topS 22
theorem sc_power_rest : FnScope ["number", "exponent", "divisor", "rest", "square", "left"] ["number", "exponent", "divisor"] (defScope s_power_rest) := ⟨rfl, rfl, rfl, by decide +kernel, rfl, by decide +kernel, by decide +kernel⟩
abbrev s_piece_size : Stmt := topS 24
theorem sc_piece_size : FnScope ["base", "denominator", "cut", "size"] ["base", "denominator", "cut"] (defScope s_piece_size) := ⟨rfl, rfl, rfl, by decide +kernel, rfl, by decide +kernel, by decide +kernel⟩
abbrev s_spaced : Stmt := topS 25
theorem sc_spaced : FnScope ["base", "fraction", "size", "count", "numerator", "denominator", "step", "rests", "rest", "_"] ["base", "fraction", "size", "count"] (defScope s_spaced) := ⟨rfl, rfl, rfl, by decide +kernel, rfl, by decide +kernel, by decide +kernel⟩
abbrev s_is_balanced_with : Stmt := topS 26
theorem sc_is_balanced_with : FnScope ["base", "denominator", "size", "cut"] ["base", "denominator", "size", "cut"] (defScope s_is_balanced_with) := ⟨rfl, rfl, rfl, by decide +kernel, rfl, by decide +kernel, by decide +kernel⟩
abbrev s_is_balanced : Stmt := topS 27
theorem sc_is_balanced : FnScope ["base", "denominator", "cut"] ["base", "denominator", "cut"] (defScope s_is_balanced) := ⟨rfl, rfl, rfl, by decide +kernel, rfl, by decide +kernel, by decide +kernel⟩
abbrev s_quotients : Stmt := topS 28
theorem sc_quotients : FnScope ["base", "denominator", "cut", "size", "counts", "met", "numerator", "rests", "rest", "found"] ["base", "denominator", "cut"] (defScope s_quotients) := ⟨rfl, rfl, rfl, by decide +kernel, rfl, by decide +kernel, by decide +kernel⟩
abbrev s_law_begun : Stmt := topS 30
theorem sc_law_begun : FnScope ["script", "great", "cell"] ["script"] (defScope s_law_begun) := ⟨rfl, rfl, rfl, by decide +kernel, rfl, by decide +kernel, by decide +kernel⟩
abbrev s_law_draw : Stmt := topS 31
theorem sc_law_draw : FnScope ["m", "limit", "found", "spot", "cell", "mixed"] ["m", "limit"] (defScope s_law_draw) := ⟨rfl, rfl, rfl, by decide +kernel, rfl, by decide +kernel, by decide +kernel⟩
abbrev s_law_of : Stmt := topS 32
theorem sc_law_of : FnScope ["m", "some"] ["m", "some"] (defScope s_law_of) := ⟨rfl, rfl, rfl, by decide +kernel, rfl, by decide +kernel, by decide +kernel⟩
abbrev s_law_divisor : Stmt := topS 33
theorem sc_law_divisor : FnScope ["one", "other"] ["one", "other"] (defScope s_law_divisor) := ⟨rfl, rfl, rfl, by decide +kernel, rfl, by decide +kernel, by decide +kernel⟩
abbrev s_law_pure : Stmt := topS 34
theorem sc_law_pure : FnScope ["m", "b", "most", "n"] ["m", "b", "most"] (defScope s_law_pure) := ⟨rfl, rfl, rfl, by decide +kernel, rfl, by decide +kernel, by decide +kernel⟩
abbrev s_law_ring : Stmt := topS 35
theorem sc_law_ring : FnScope ["b", "part", "x", "n", "row", "spots"] ["b", "part"] (defScope s_law_ring) := ⟨rfl, rfl, rfl, by decide +kernel, rfl, by decide +kernel, by decide +kernel⟩
abbrev s_law_spread : Stmt := topS 36
theorem sc_law_spread : FnScope ["b", "part", "row", "begin", "figs", "x"] ["b", "part"] (defScope s_law_spread) := ⟨rfl, rfl, rfl, by decide +kernel, rfl, by decide +kernel, by decide +kernel⟩
abbrev s_law_worth : Stmt := topS 37
theorem sc_law_worth : FnScope ["b", "figs", "found", "fig"] ["b", "figs"] (defScope s_law_worth) := ⟨rfl, rfl, rfl, by decide +kernel, rfl, by decide +kernel, by decide +kernel⟩
abbrev s_law_power : Stmt := topS 38
theorem sc_law_power : FnScope ["b", "many", "found", "k"] ["b", "many"] (defScope s_law_power) := ⟨rfl, rfl, rfl, by decide +kernel, rfl, by decide +kernel, by decide +kernel⟩
abbrev s_law_splits : Stmt := topS 39
theorem sc_law_splits : FnScope ["b", "n", "size", "cut"] ["b", "n"] (defScope s_law_splits) := ⟨rfl, rfl, rfl, by decide +kernel, rfl, by decide +kernel, by decide +kernel⟩
abbrev s_law_sliced : Stmt := topS 40
theorem sc_law_sliced : FnScope ["b", "part", "cut", "figs", "size", "k"] ["b", "part", "cut"] (defScope s_law_sliced) := ⟨rfl, rfl, rfl, by decide +kernel, rfl, by decide +kernel, by decide +kernel⟩
abbrev s_law_tops : Stmt := topS 41
theorem sc_law_tops : FnScope ["n", "x"] ["n"] (defScope s_law_tops) := ⟨rfl, rfl, rfl, by decide +kernel, rfl, by decide +kernel, by decide +kernel⟩
abbrev s_law_word : Stmt := topS 42
theorem sc_law_word : FnScope ["error", "found"] ["error"] (defScope s_law_word) := ⟨rfl, rfl, rfl, by decide +kernel, rfl, by decide +kernel, by decide +kernel⟩
abbrev s_law_outcome : Stmt := topS 43
theorem sc_law_outcome : FnScope ["call", "found", "error", "e"] ["call"] (defScope s_law_outcome) := ⟨rfl, rfl, rfl, by decide +kernel, rfl, by decide +kernel, by decide +kernel⟩
abbrev s_law_own : Stmt := topS 44
theorem sc_law_own : FnScope ["b", "n", "cut", "size", "nines", "counts", "x", "total"] ["b", "n", "cut", "size"] (defScope s_law_own) := ⟨rfl, rfl, rfl, by decide +kernel, rfl, by decide +kernel, by decide +kernel⟩
abbrev s_law_right : Stmt := topS 45
theorem sc_law_right : FnScope ["b", "n", "cut", "size", "due", "heard", "pairs", "many", "often"] ["b", "n", "cut", "size"] (defScope s_law_right) := ⟨rfl, rfl, rfl, by decide +kernel, rfl, by decide +kernel, by decide +kernel⟩
abbrev s_law : Stmt := topS 46
theorem sc_law : FnScope ["script", "m", "lap", "b", "n", "size", "some", "cut", "heard", "due"] ["script"] (defScope s_law) := ⟨rfl, rfl, rfl, by decide +kernel, rfl, by decide +kernel, by decide +kernel⟩
def clsB (st : Stmt) (j : Nat) : Stmt := match st with
  | .ClassDef (body := b) .. => b.getD j (.Pass ⟨0, 0, 0, 0⟩)
  | _ => .Pass ⟨0, 0, 0, 0⟩
abbrev s_Nothing_init : Stmt := clsB (topS 11) 0
theorem sc_Nothing_init : FnScope ["self", "value"] ["self", "value"] (defScope s_Nothing_init) := ⟨rfl, rfl, rfl, by decide +kernel, rfl, by decide +kernel, by decide +kernel⟩
structure Txt (K : PySem.W.Frag) (mg : Str → Option Value) where
  d_is_integer : Dn K mg "is_integer" s_is_integer ["value"]
  d_is_within : Dn K mg "is_within" s_is_within ["value", "low", "high"]
  d_need_base : Dn K mg "need_base" s_need_base ["value"]
  d_need_denominator : Dn K mg "need_denominator" s_need_denominator ["value"]
  d_need_pure : Dn K mg "need_pure" s_need_pure ["base", "denominator"]
  d_pure_part : Dn K mg "pure_part" s_pure_part ["base", "denominator"]
  d_period : Dn K mg "period" s_period ["base", "denominator"]
  d_power_rest : Dn K mg "power_rest" s_power_rest ["number", "exponent", "divisor"]
  d_piece_size : Dn K mg "piece_size" s_piece_size ["base", "denominator", "cut"]
  d_spaced : Dn K mg "spaced" s_spaced ["base", "fraction", "size", "count"]
  d_is_balanced_with : Dn K mg "is_balanced_with" s_is_balanced_with ["base", "denominator", "size", "cut"]
  d_is_balanced : Dn K mg "is_balanced" s_is_balanced ["base", "denominator", "cut"]
  d_quotients : Dn K mg "quotients" s_quotients ["base", "denominator", "cut"]
  d_law_begun : Dn K mg "_law_begun" s_law_begun ["script"]
  d_law_draw : Dn K mg "_law_draw" s_law_draw ["m", "limit"]
  d_law_of : Dn K mg "_law_of" s_law_of ["m", "some"]
  d_law_divisor : Dn K mg "_law_divisor" s_law_divisor ["one", "other"]
  d_law_pure : Dn K mg "_law_pure" s_law_pure ["m", "b", "most"]
  d_law_ring : Dn K mg "_law_ring" s_law_ring ["b", "part"]
  d_law_spread : Dn K mg "_law_spread" s_law_spread ["b", "part"]
  d_law_worth : Dn K mg "_law_worth" s_law_worth ["b", "figs"]
  d_law_power : Dn K mg "_law_power" s_law_power ["b", "many"]
  d_law_splits : Dn K mg "_law_splits" s_law_splits ["b", "n"]
  d_law_sliced : Dn K mg "_law_sliced" s_law_sliced ["b", "part", "cut"]
  d_law_tops : Dn K mg "_law_tops" s_law_tops ["n"]
  d_law_word : Dn K mg "_law_word" s_law_word ["error"]
  d_law_outcome : Dn K mg "_law_outcome" s_law_outcome ["call"]
  d_law_own : Dn K mg "_law_own" s_law_own ["b", "n", "cut", "size"]
  d_law_right : Dn K mg "_law_right" s_law_right ["b", "n", "cut", "size"]
  d_law : Dn K mg "law" s_law ["script"]
  b_isinstance : mg "isinstance" = none
  b_int : mg "int" = none
  b_bool : mg "bool" = none
  b_len : mg "len" = none
  b_range : mg "range" = none
  b_tuple : mg "tuple" = none
  b_list : mg "list" = none
  b_sum : mg "sum" = none
  b_min : mg "min" = none
  b_repr : mg "repr" = none
  b_sorted : mg "sorted" = none
  b_OverflowError : mg "OverflowError" = none
  b_LookupError : mg "LookupError" = none
  b_gcd : mg "gcd" = some (.builtin "math.gcd")
  C_WheelError : Addr
  g_WheelError : mg "WheelError" = some (.ref C_WheelError)
  r_WheelError : ClX.CRead K C_WheelError (.type "type")
  i_WheelError : PySem.W.findCls K (.ref C_WheelError) (.type "type") "__init__" = some (.val (.builtin "ValueError.__init__"))
  C_BadBase : Addr
  g_BadBase : mg "BadBase" = some (.ref C_BadBase)
  C_BadDenominator : Addr
  g_BadDenominator : mg "BadDenominator" = some (.ref C_BadDenominator)
  C_BadFraction : Addr
  g_BadFraction : mg "BadFraction" = some (.ref C_BadFraction)
  C_BadDigits : Addr
  g_BadDigits : mg "BadDigits" = some (.ref C_BadDigits)
  C_BadNumber : Addr
  g_BadNumber : mg "BadNumber" = some (.ref C_BadNumber)
  C_BadPaper : Addr
  g_BadPaper : mg "BadPaper" = some (.ref C_BadPaper)
  C_BadText : Addr
  g_BadText : mg "BadText" = some (.ref C_BadText)
  C_TooGreat : Addr
  g_TooGreat : mg "TooGreat" = some (.ref C_TooGreat)
  C_Nothing : Addr
  g_Nothing : mg "Nothing" = some (.ref C_Nothing)
  I_Nothing : Addr
  T_Nothing : ErrC K C_Nothing I_Nothing "value" "LookupError" "LookupError.__new__" "LookupError.__init__" [.type "LookupError", .type "Exception", .type "BaseException", .type "object"]
  fd_Nothing : FuncData
  F_Nothing : Fun K "__init__" "Nothing.__init__" s_Nothing_init I_Nothing fd_Nothing
  b_Nothing : Binds K fd_Nothing ["self", "value"] []
  is_Nothing : IsC K C_Nothing
  kit_Nothing_BadBase : PySem.W.kitOne K (.ref C_Nothing) (.ref C_BadBase) = some false
  kit_Nothing_BadDenominator : PySem.W.kitOne K (.ref C_Nothing) (.ref C_BadDenominator) = some false
  kit_Nothing_BadFraction : PySem.W.kitOne K (.ref C_Nothing) (.ref C_BadFraction) = some false
  kit_Nothing_BadDigits : PySem.W.kitOne K (.ref C_Nothing) (.ref C_BadDigits) = some false
  kit_Nothing_BadNumber : PySem.W.kitOne K (.ref C_Nothing) (.ref C_BadNumber) = some false
  kit_Nothing_BadPaper : PySem.W.kitOne K (.ref C_Nothing) (.ref C_BadPaper) = some false
  kit_Nothing_BadText : PySem.W.kitOne K (.ref C_Nothing) (.ref C_BadText) = some false
  kit_Nothing_TooGreat : PySem.W.kitOne K (.ref C_Nothing) (.ref C_TooGreat) = some false
  kit_Nothing_Nothing : PySem.W.kitOne K (.ref C_Nothing) (.ref C_Nothing) = some true
  exm_Nothing : PySem.W.exmAny K (.ref C_Nothing) [.ref C_WheelError, .ref C_Nothing, .ref C_TooGreat] = some true
  i_LookupError : PySem.W.findCls K (.type "LookupError") (.type "type") "__init__" = some (.val (.builtin "LookupError.__init__"))
  k_law_right : Addr
  p_law_right : Addr
  e_law_right : d_law_right.fd.code = .ref k_law_right
  k_law : Addr
  p_law : Addr
  e_law : d_law.fd.code = .ref k_law
  ne_law_right_law : p_law_right ≠ p_law
  t_MOST_BASE : Tok
  c_MOST_BASE : mg "MOST_BASE" = some (.int 1000 t_MOST_BASE)
  t_MOST_DENOMINATOR : Tok
  c_MOST_DENOMINATOR : mg "MOST_DENOMINATOR" = some (.int 5000 t_MOST_DENOMINATOR)
section
variable {P : Program} {w : World} {K : PySem.W.Frag} {mg : Str → Option Value} {base : Heap}

def BN (b n : Nat) : Prop := 2 ≤ b ∧ b ≤ 1000 ∧ 1 ≤ n ∧ n ≤ 5000
def sp_is_integer : Sp := fun vs H Q _ => ∃ i : Int, vs = [.int i] ∧ Q (.bl true) H
def sp_is_within : Sp := fun vs H Q _ => ∃ i lo hi : Int, vs = [.int i, .int lo, .int hi] ∧ (lo ≤ i ∧ i ≤ hi) ∧ Q (.bl true) H
def sp_need_base : Sp := fun vs H Q _ => ∃ i : Int, vs = [.int i] ∧ (2 ≤ i ∧ i ≤ 1000) ∧ Q (.int i) H
def sp_need_denominator : Sp := fun vs H Q _ => ∃ i : Int, vs = [.int i] ∧ (1 ≤ i ∧ i ≤ 5000) ∧ Q (.int i) H
def sp_need_fraction : Sp := fun vs H Q _ => ∃ (a : Addr) (x n : Nat), vs = [.ref a] ∧ H a = some (.tup [.int x, .int n]) ∧ (x < n ∧ n ≤ 5000 ∧ Nat.gcd x n = 1) ∧ Q (.ref a) H
def sp_pure_part : Sp := fun vs H Q _ => ∃ b n : Nat, vs = [.int b, .int n] ∧ BN b n ∧ ∀ p : Nat, IsPure b n p → Q (.int p) H
def sp_period : Sp := fun vs H Q _ => ∃ b n : Nat, vs = [.int b, .int n] ∧ BN b n ∧ ∀ p d : Nat, IsPure b n p → IsPer b p d → Q (.int d) H
def sp_head_size : Sp := fun vs H Q _ => ∃ b n : Nat, vs = [.int b, .int n] ∧ BN b n ∧ ∀ p q h : Nat, IsPure b n p → n = p * q → IsHead b q h → Q (.int h) H
theorem ok_is_integer (T : Txt K mg) : FnOk P w K mg base CX0 1 T.d_is_integer.f T.d_is_integer.fd ["value"] sp_is_integer := by
  refine T.d_is_integer.F.ok sc_is_integer (fun vs H Q E h => ?_) (fun cdv A outer s H vs Q E hr h => ?_)
  · obtain ⟨i, rfl, _⟩ := h; rfl
  · have hu := hu_of hr
    refine ⟨_, (pss_one (ps_ret (pe_and (pe_callB (r := rIs K) call_is (by rfl) T.b_isinstance (by decide +kernel) (pa_cons (pv 0) (pa_cons (pe_bltn (v := .ty "int") (by rfl) T.b_int (by decide +kernel) rfl) pa_nil))) (pe_one (pe_not (pe_callB (r := rIs K) call_is (by rfl) T.b_isinstance (by decide +kernel) (pa_cons (pv 0) (pa_cons (pe_bltn (v := .ty "bool") (by rfl) T.b_bool (by decide +kernel) rfl) pa_nil)))))))), ?_⟩
    obtain ⟨i, rfl, q⟩ := h
    walk_at "vc"
    refine ⟨"int", ty_int, by decide, by decide, iteT ⟨"int", ty_int, by decide, by decide, q⟩⟩
theorem ok_is_within (T : Txt K mg) : FnOk P w K mg base CX0 2 T.d_is_within.f T.d_is_within.fd ["value", "low", "high"] sp_is_within := by
  refine T.d_is_within.F.ok sc_is_within (fun vs H Q E h => ?_) (fun cdv A outer s H vs Q E hr h => ?_)
  · obtain ⟨i, lo, hi, rfl, _⟩ := h; rfl
  · have hu := hu_of hr
    refine ⟨_, (pss_one (ps_ret (pe_and (pe_call (ok_is_integer T) (hr.mono (by decide)) (by rfl) T.d_is_integer.m T.d_is_integer.F.kp T.d_is_integer.b .nil pass0 (pa_cons (pv 0) pa_nil)) (pe_one (pe_chain op_le op_le (pv 1) (pv 0) (pv 2)))))), ?_⟩
    obtain ⟨i, lo, hi, rfl, ⟨h1, h2⟩, q⟩ := h
    refine ⟨_, rfl, i, rfl, true, rfl, iteT ?_⟩
    walk_at "vc"
    rw [if_pos h1, decide_eq_true h2]
    exact q
theorem ok_need_base (T : Txt K mg) : FnOk P w K mg base CX0 3 T.d_need_base.f T.d_need_base.fd ["value"] sp_need_base := by
  refine T.d_need_base.F.ok sc_need_base (fun vs H Q E h => ?_) (fun cdv A outer s H vs Q E hr h => ?_)
  · obtain ⟨i, rfl, _⟩ := h; rfl
  · have hu := hu_of hr
    refine ⟨_, (pss_cons (ps_if (pt_not (pt_val (pe_call (ok_is_within T) (hr.mono (by decide)) (by rfl) T.d_is_within.m T.d_is_within.F.kp T.d_is_within.b .nil pass0 (pa_cons (pv 0) (pa_cons pe_int (pa_cons (pe_glob (v := .int 1000) (by rfl) T.c_MOST_BASE ⟨_, rfl⟩) pa_nil)))))) (pss_one ps_never) pss_nil)
      (pss_one (ps_ret (pv 0)))), ?_⟩
    obtain ⟨i, rfl, ⟨h1, h2⟩, q⟩ := h
    refine ⟨_, rfl, i, _, _, rfl, ⟨h1, h2⟩, true, rfl, iteF ?_⟩
    exact ⟨_, rfl, q⟩
theorem ok_need_denominator (T : Txt K mg) : FnOk P w K mg base CX0 3 T.d_need_denominator.f T.d_need_denominator.fd ["value"] sp_need_denominator := by
  refine T.d_need_denominator.F.ok sc_need_denominator (fun vs H Q E h => ?_) (fun cdv A outer s H vs Q E hr h => ?_)
  · obtain ⟨i, rfl, _⟩ := h; rfl
  · have hu := hu_of hr
    refine ⟨_, (pss_cons (ps_if (pt_not (pt_val (pe_call (ok_is_within T) (hr.mono (by decide)) (by rfl) T.d_is_within.m T.d_is_within.F.kp T.d_is_within.b .nil pass0 (pa_cons (pv 0) (pa_cons pe_int (pa_cons (pe_glob (v := .int 5000) (by rfl) T.c_MOST_DENOMINATOR ⟨_, rfl⟩) pa_nil)))))) (pss_one ps_never) pss_nil)
      (pss_one (ps_ret (pv 0)))), ?_⟩
    obtain ⟨i, rfl, ⟨h1, h2⟩, q⟩ := h
    refine ⟨_, rfl, i, _, _, rfl, ⟨h1, h2⟩, true, rfl, iteF ?_⟩
    exact ⟨_, rfl, q⟩
theorem ok_pure_part (T : Txt K mg) : FnOk P w K mg base CX0 4 T.d_pure_part.f T.d_pure_part.fd ["base", "denominator"] sp_pure_part := by
  refine T.d_pure_part.F.ok sc_pure_part (fun vs H Q E h => ?_) (fun cdv A outer s H vs Q E hr h => ?_)
  · obtain ⟨b, n, rfl, _⟩ := h; rfl
  · have hu := hu_of hr
    refine ⟨_, (pss_cons (ps_expr (pe_call (ok_need_base T) (hr.mono (by decide)) (by rfl) T.d_need_base.m T.d_need_base.F.kp T.d_need_base.b .nil pass0 (pa_cons (pv 0) pa_nil)))
      (pss_cons (ps_expr (pe_call (ok_need_denominator T) (hr.mono (by decide)) (by rfl) T.d_need_denominator.m T.d_need_denominator.F.kp T.d_need_denominator.b .nil pass0 (pa_cons (pv 1) pa_nil)))
      (pss_cons (ps_set (i := 2) sc_pure_part.nd rfl (by first | exact .inl rfl | exact .inr rfl) (pv 1))
      (pss_cons (ps_set (i := 3) sc_pure_part.nd rfl (by first | exact .inl rfl | exact .inr rfl) (pe_callBfun cr_gcd (by rfl) T.b_gcd (pa_cons (pv 0) (pa_cons (pv 2) pa_nil))))
      (pss_cons (ps_while PassesOwn.never (pt_cmpR op_gt (pv 3) pe_int (nomark _)) (pss_cons (ps_set (i := 2) sc_pure_part.nd rfl (by first | exact .inl rfl | exact .inr rfl) (pe_op op_fdiv (pv 2) (pv 3)))
      (pss_one (ps_set (i := 3) sc_pure_part.nd rfl (by first | exact .inl rfl | exact .inr rfl) (pe_callBfun cr_gcd (by rfl) T.b_gcd (pa_cons (pv 0) (pa_cons (pv 2) pa_nil)))))))
      (pss_one (ps_ret (pv 2)))))))), ?_⟩
    obtain ⟨b, n, rfl, ⟨hb1, hb2, hn1, hn2⟩, q⟩ := h
    refine ⟨_, rfl, b, rfl, ⟨by omega, by omega⟩, ?_⟩
    refine ⟨_, rfl, n, rfl, ⟨by omega, by omega⟩, ?_⟩
    refine ⟨_, rfl, _, rfl, _, rfl, b, n, rfl, ?_⟩
    refine ⟨fun m σ H' => H' = H ∧ ∃ p r k : Nat, m = p ∧ σ = [some (.int b), some (.int n), some (.int p), some (.int (Nat.gcd b p : Nat))] ∧ 1 ≤ p ∧ n = p * r ∧ r ∣ b ^ k, ⟨n, rfl, n, 1, 0, rfl, rfl, hn1, by simp, by simp⟩, ?_⟩
    rintro m σ H' ⟨rfl, p, r, k, rfl, rfl, hp, hn, hr'⟩
    have hpn : m ≤ 5000 := by
      have : m ∣ n := ⟨r, hn⟩
      have := Nat.le_of_dvd hn1 this
      omega
    have hgm : Nat.gcd b m ≤ m := Nat.gcd_le_right b hp
    have hg1 : 1 ≤ Nat.gcd b m := Nat.gcd_pos_of_pos_right b hp
    refine ⟨_, rfl, _, 1, rfl, rfl, _, rfl, ?_⟩
    by_cases hc : (1 : Int) < ((Nat.gcd b m : Nat) : Int)
    · rw [decide_eq_true hc]
      refine iteT ⟨fun σ' H2 => H2 = H' ∧ ∃ p r k : Nat, p < m ∧ σ' = [some (.int b), some (.int n), some (.int p), some (.int (Nat.gcd b p : Nat))] ∧ 1 ≤ p ∧ n = p * r ∧ r ∣ b ^ k, ?_, ?_⟩
      · rintro σ' H2 ⟨rfl, p, r, k, h1, h2, h3, h4, h5⟩
        exact ⟨p, h1, rfl, p, r, k, rfl, h2, h3, h4, h5⟩
      · refine ⟨_, rfl, _, rfl, m, Nat.gcd b m, rfl, rfl, ⟨by omega, by omega⟩, ?_⟩
        dsimp only
        rw [← Int.natCast_ediv]
        refine ⟨_, rfl, _, rfl, b, ((m / Nat.gcd b m : Nat) : Int), rfl, ?_⟩
        obtain ⟨c, hc'⟩ := Nat.gcd_dvd_right b m
        have hq : m / Nat.gcd b m = c := by
          rw [Nat.div_eq_iff_eq_mul_right hg1 (Nat.gcd_dvd_right b m)]
          exact hc'
        have hc1 : 1 ≤ c := by
          rcases Nat.eq_zero_or_pos c with z | z
          · rw [z] at hc'
            omega
          · exact z
        have hcl : c < m := by
          have hg2 : 2 ≤ Nat.gcd b m := by omega
          have : 2 * c ≤ Nat.gcd b m * c := Nat.mul_le_mul_right c hg2
          omega
        refine ⟨rfl, c, Nat.gcd b m * r, k + 1, hcl, ?_, hc1, ?_, ?_⟩
        · rw [hq]
          rfl
        · rw [hn]
          conv => lhs; rw [hc']
          rw [Nat.mul_comm (Nat.gcd b m) c, Nat.mul_assoc]
        · rw [Nat.pow_succ, Nat.mul_comm (b ^ k) b]
          exact Nat.mul_dvd_mul (Nat.gcd_dvd_left b m) hr'
    · rw [decide_eq_false hc]
      refine iteF ⟨_, rfl, ?_⟩
      exact q m ⟨by omega, r, k, hn, hr'⟩
theorem ok_period (T : Txt K mg) : FnOk P w K mg base CX0 5 T.d_period.f T.d_period.fd ["base", "denominator"] sp_period := by
  refine T.d_period.F.ok sc_period (fun vs H Q E h => ?_) (fun cdv A outer s H vs Q E hr h => ?_)
  · obtain ⟨b, n, rfl, _⟩ := h; rfl
  · have hu := hu_of hr
    refine ⟨_, (pss_cons (ps_set (i := 2) sc_period.nd rfl (by first | exact .inl rfl | exact .inr rfl) (pe_call (ok_pure_part T) (hr.mono (by decide)) (by rfl) T.d_pure_part.m T.d_pure_part.F.kp T.d_pure_part.b .nil pass0 (pa_cons (pv 0) (pa_cons (pv 1) pa_nil))))
      (pss_cons (ps_set (i := 3) sc_period.nd rfl (by first | exact .inl rfl | exact .inr rfl) (pe_op op_mod pe_int (pv 2)))
      (pss_cons (ps_set (i := 4) sc_period.nd rfl (by first | exact .inl rfl | exact .inr rfl) (pe_op op_mod (pv 0) (pv 2)))
      (pss_cons (ps_set (i := 5) sc_period.nd rfl (by first | exact .inl rfl | exact .inr rfl) pe_int)
      (pss_cons (ps_while PassesOwn.never (pt_cmpR op_ne (pv 4) (pv 3) (nomark _)) (pss_cons (ps_set (i := 4) sc_period.nd rfl (by first | exact .inl rfl | exact .inr rfl) (pe_op op_mod (pe_op op_mul (pv 4) (pv 0)) (pv 2)))
      (pss_one (ps_aug (i := 5) sc_period.nd rfl (by first | exact .inl rfl | exact .inr rfl) pe_int ip_add))))
      (pss_one (ps_ret (pv 5)))))))), ?_⟩
    obtain ⟨b, n, rfl, hbn, q⟩ := h
    have hbn' := id hbn
    obtain ⟨hb1, hb2, hn1, hn2⟩ := hbn
    refine ⟨_, rfl, _, rfl, b, n, rfl, hbn', fun p hp => ?_⟩
    obtain ⟨g0, r0, k0, e0, d0⟩ := id hp
    have hp1 : 1 ≤ p := by
      rcases Nat.eq_zero_or_pos p with z | z
      · rw [z] at e0
        omega
      · exact z
    have hpn : p ≤ 5000 := by
      have : p ∣ n := ⟨r0, e0⟩
      have := Nat.le_of_dvd hn1 this
      omega
    obtain ⟨d, hdp, hd⟩ := per_exists hp1 g0
    refine ⟨_, rfl, 1, p, rfl, rfl, (show (0 : Int) < (p : Int) by omega), ?_⟩
    refine ⟨_, rfl, _, rfl, b, p, rfl, rfl, (show (0 : Int) < (p : Int) by omega), ?_⟩
    have e1 : (1 : Int) % (p : Int) = ((1 % p : Nat) : Int) := by rw [Int.natCast_emod]; rfl
    have e2 : (b : Int) % (p : Int) = ((b ^ 1 % p : Nat) : Int) := by rw [Int.natCast_emod, Nat.pow_one]
    refine ⟨fun m σ H' => H' = H ∧ ∃ k : Nat, m = d - k ∧ σ = [some (.int b), some (.int n), some (.int p), some (.int (1 % p : Nat)), some (.int (b ^ k % p : Nat)), some (.int k)] ∧ 1 ≤ k ∧ k ≤ d, ⟨d - 1, rfl, 1, rfl, ?_, Nat.le_refl _, hd.1⟩, ?_⟩
    · rw [← e1, ← e2]
      rfl
    rintro m σ H' ⟨rfl, k, rfl, rfl, hk1, hk2⟩
    refine ⟨_, rfl, _, rfl, rfl, _, rfl, ?_⟩
    by_cases hc : b ^ k % p = 1 % p
    · have hkd : k = d := by
        apply Nat.le_antisymm hk2
        apply Nat.le_of_not_lt
        intro l
        exact hd.2.2 k hk1 l hc
      rw [decide_eq_true (show V.int ((b ^ k % p : Nat) : Int) = V.int ((1 % p : Nat) : Int) by rw [hc])]
      refine iteF ⟨_, rfl, ?_⟩
      rw [hkd]
      exact q p d hp hd
    · rw [decide_eq_false (show ¬ V.int ((b ^ k % p : Nat) : Int) = V.int ((1 % p : Nat) : Int) from fun z => hc (by have := V.int.inj z; omega))]
      have hkd : k < d := by
        rcases Nat.lt_or_eq_of_le hk2 with l | l
        · exact l
        · subst l
          exact absurd hd.2.1 hc
      refine iteT ⟨fun σ' H2 => H2 = H' ∧ σ' = [some (.int b), some (.int n), some (.int p), some (.int (1 % p : Nat)), some (.int (b ^ (k + 1) % p : Nat)), some (.int (k + 1 : Nat))], ?_, ?_⟩
      · rintro σ' H2 ⟨rfl, rfl⟩
        exact ⟨d - (k + 1), by omega, rfl, k + 1, rfl, rfl, by omega, hkd⟩
      · have hlt : b ^ k % p < p := Nat.mod_lt _ hp1
        refine ⟨_, rfl, _, rfl, _, b, rfl, rfl, .inl ⟨by omega, by omega⟩, _, rfl, _, p, rfl, rfl, (show (0 : Int) < (p : Int) by omega), ?_⟩
        dsimp only
        rw [icm, pow_mod_step]
        exact ⟨_, rfl, _, _, rfl, rfl, rfl, rfl⟩

/-- the digits of a division that has come to x: so many of them -/
def dgs (b n x c : Nat) : List V := (List.range c).map fun i => V.int ((rem b n x i * b / n : Nat) : Int)
def sp_divided : Sp := fun vs H Q _ => ∃ b x n c : Nat, vs = [.int b, .int x, .int n, .int c] ∧ (BN b n ∧ x < n ∧ c ≤ 10000) ∧ ∀ t H', Gr [] H H' → H' t = some (.tup (dgs b n x c)) → Q (.ref t) H'

def dgf (b n x lo c : Nat) : List V := (List.range c).map fun i => V.int ((rem b n x (lo + i) * b / n : Nat) : Int)
structure Exp (H : Hp) (r : Addr) (b x n h L : Nat) : Prop where
  at_ : ∃ a c, H r = some (.tup [.ref a, .ref c]) ∧ H a = some (.tup (dgf b n x 0 h)) ∧ H c = some (.tup (dgf b n x h L))
def sp_expansion : Sp := fun vs H Q _ => ∃ (b x n : Nat) (a : Addr), vs = [.int b, .ref a] ∧ H a = some (.tup [.int x, .int n]) ∧ (BN b n ∧ x < n ∧ Nat.gcd x n = 1) ∧
  ∀ p q h L t H', IsPure b n p → n = p * q → IsHead b q h → IsPer b p L → Gr [] H H' → Exp H' t b x n h L → Q (.ref t) H'

/-! the state of the draws -/
def mkv (c : Addr) (l s : Int) : List (Key × V) := [(Sum.inr "cells", .ref c), (Sum.inr "left", .int l), (Sum.inr "spot", .int s)]
theorem k_cl : ¬ (("cells" : Str) = "left") := by decide +kernel
theorem k_cs : ¬ (("cells" : Str) = "spot") := by decide +kernel
theorem k_ls : ¬ (("left" : Str) = "spot") := by decide +kernel
theorem k_sl : ¬ (("spot" : Str) = "left") := by decide +kernel
theorem k_lc : ¬ (("left" : Str) = "cells") := by decide +kernel
theorem k_sc : ¬ (("spot" : Str) = "cells") := by decide +kernel
theorem mv_c (c : Addr) (l s : Int) : valV (mkv c l s) (Sum.inr "cells" : Key) = some (.ref c) := by
  unfold mkv
  rw [valV_pos rfl]
theorem mv_l (c : Addr) (l s : Int) : valV (mkv c l s) (Sum.inr "left" : Key) = some (.int l) := by
  unfold mkv
  rw [valV_neg (by intro z; exact k_cl (Sum.inr.inj z)), valV_pos rfl]
theorem mv_s (c : Addr) (l s : Int) : valV (mkv c l s) (Sum.inr "spot" : Key) = some (.int s) := by
  unfold mkv
  rw [valV_neg (by intro z; exact k_cs (Sum.inr.inj z)), valV_neg (by intro z; exact k_ls (Sum.inr.inj z)), valV_pos rfl]
theorem mp_l (c : Addr) (l s l' : Int) : putK (mkv c l s) (Sum.inr "left" : Key) (.int l') = mkv c l' s := by
  unfold mkv putK
  simp [k_cl, k_sl]
theorem mp_s (c : Addr) (l s s' : Int) : putK (mkv c l s) (Sum.inr "spot" : Key) (.int s') = mkv c l s' := by
  unfold mkv putK
  simp [k_cs, k_ls]
theorem mm (c : Addr) (l s : Int) : mergeK [] (mkv c l s) = mkv c l s := by
  unfold mkv mergeK putK
  simp [k_cs, k_ls, k_cl]
theorem dg_c {H : Hp} {d c : Addr} {l s : Int} (h : H d = some (.dK (mkv c l s))) : DGet H d (.str "cells") (some (.ref c)) := by
  rw [← mv_c c l s]
  exact DGet.k (k := Sum.inr "cells") h
theorem dg_l {H : Hp} {d c : Addr} {l s : Int} (h : H d = some (.dK (mkv c l s))) : DGet H d (.str "left") (some (.int l)) := by
  rw [← mv_l c l s]
  exact DGet.k (k := Sum.inr "left") h
theorem dg_s {H : Hp} {d c : Addr} {l s : Int} (h : H d = some (.dK (mkv c l s))) : DGet H d (.str "spot") (some (.int s)) := by
  rw [← mv_s c l s]
  exact DGet.k (k := Sum.inr "spot") h
theorem dp_l {H : Hp} {d c : Addr} {l s l' : Int} (h : H d = some (.dK (mkv c l s))) : DPut H d (.str "left") (.int l') (upd H d (.dK (mkv c l' s))) := by
  rw [← mp_l c l s l']
  exact DPut.k (k := Sum.inr "left") h (by show 3 < sizeLine; decide)
theorem dp_s {H : Hp} {d c : Addr} {l s s' : Int} (h : H d = some (.dK (mkv c l s))) : DPut H d (.str "spot") (.int s') (upd H d (.dK (mkv c l s'))) := by
  rw [← mp_s c l s s']
  exact DPut.k (k := Sum.inr "spot") h (by show 3 < sizeLine; decide)
def MOk (H : Hp) (d : Addr) (n : Nat) : Prop := ∃ (c : Addr) (xs : List Int) (l s : Int), H d = some (.dK (mkv c l s)) ∧ H c = some (.lst (xs.map V.int)) ∧ xs ≠ [] ∧ 0 ≤ s ∧ s ≤ (n : Int)
theorem MOk.gr {H H' : Hp} {d : Addr} {n : Nat} (h : MOk H d n) (g : Gr [] H H') : MOk H' d n := by
  obtain ⟨c, xs, l, s, h1, h2, h3⟩ := h
  exact ⟨c, xs, l, s, g d _ (by simp) h1, g c _ (by simp) h2, h3⟩
theorem MOk.mono {H : Hp} {d : Addr} {n n' : Nat} (h : MOk H d n) (g : n ≤ n') : MOk H d n' := by
  obtain ⟨c, xs, l, s, h1, h2, h3, h4, h5⟩ := h
  exact ⟨c, xs, l, s, h1, h2, h3, h4, by omega⟩
theorem MOk.ne {H : Hp} {d a : Addr} {n : Nat} {o : HO} (h : MOk H d n) (e : H a = some o) (k : ∀ kvs, o ≠ .dK kvs) : a ∉ [d] := by
  obtain ⟨c, xs, l, s, h1, _⟩ := h
  intro z
  rw [List.mem_singleton] at z
  subst z
  rw [h1] at e
  exact k _ (Option.some.inj e).symm
/-! what draws leave as it was: lists, tuples -/
theorem MOk.lst {H H' : Hp} {d a : Addr} {n : Nat} {xs : List V} (h : MOk H d n) (g : Gr [d] H H') (e : H a = some (.lst xs)) : H' a = some (.lst xs) := g a _ (h.ne e (fun _ z => by cases z)) e
theorem MOk.tup {H H' : Hp} {d a : Addr} {n : Nat} {xs : List V} (h : MOk H d n) (g : Gr [d] H H') (e : H a = some (.tup xs)) : H' a = some (.tup xs) := g a _ (h.ne e (fun _ z => by cases z)) e
def sp_law_draw : Sp := fun vs H Q _ => ∃ (d : Addr) (lim n : Nat), vs = [.ref d, .int lim] ∧ MOk H d n ∧ (1 ≤ lim ∧ lim ≤ 1000000000 ∧ n ≤ 1000000000000) ∧
  ∀ (r : Nat) H', r < lim → Gr [d] H H' → MOk H' d (n + 1) → Q (.int r) H'
theorem imod_nat (x : Int) (lim : Nat) (h : 1 ≤ lim) : ∃ r : Nat, x % (lim : Int) = (r : Int) ∧ r < lim := by
  have h1 := Int.emod_nonneg x (show (lim : Int) ≠ 0 by omega)
  have h2 := Int.emod_lt_of_pos x (show (0 : Int) < (lim : Int) by omega)
  exact ⟨(x % (lim : Int)).toNat, by omega, by omega⟩
theorem ok_law_draw (T : Txt K mg) : FnOk P w K mg base CX0 1 T.d_law_draw.f T.d_law_draw.fd ["m", "limit"] sp_law_draw := by
  refine T.d_law_draw.F.ok sc_law_draw (fun vs H Q E h => ?_) (fun cdv A outer s H vs Q E hr h => ?_)
  · obtain ⟨d, lim, n, rfl, _⟩ := h; rfl
  · have hu := hu_of hr
    refine ⟨_, (pss_cons (ps_if (pt_cmpR op_gt (pe_dget hu (pv 0) pe_str (fun _ _ => rfl)) pe_int (nomark _)) (pss_cons (ps_set (i := 2) sc_law_draw.nd rfl (by first | exact .inl rfl | exact .inr rfl) (pe_op op_mod (pe_callTy call_int1 (by rfl) T.b_int (by decide +kernel) (pa_cons (pe_dget hu (pv 0) pe_str (fun _ _ => rfl)) pa_nil)) (pv 1)))
      (pss_cons (ps_dput hu (pv 0) pe_str (pe_op op_fdiv (pe_dget hu (pv 0) pe_str (fun _ _ => rfl)) (pv 1)) rfl)
      (pss_one (ps_ret (pv 2))))) pss_nil)
      (pss_cons (ps_set (i := 3) sc_law_draw.nd rfl (by first | exact .inl rfl | exact .inr rfl) (pe_op op_add (pe_dget hu (pv 0) pe_str (fun _ _ => rfl)) pe_int))
      (pss_cons (ps_dput hu (pv 0) pe_str (pv 3) rfl)
      (pss_cons (ps_set (i := 4) sc_law_draw.nd rfl (by first | exact .inl rfl | exact .inr rfl) (pe_ix (r := rIxL K) ix_list (pe_dget hu (pv 0) pe_str (fun _ _ => rfl)) (pe_op op_mod (pe_callTy call_int1 (by rfl) T.b_int (by decide +kernel) (pa_cons (pv 3) pa_nil)) (pe_callB (r := rLn K) call_ln (by rfl) T.b_len PySem.boot_len (pa_cons (pe_dget hu (pv 0) pe_str (fun _ _ => rfl)) pa_nil))) (fun _ _ => rfl)))
      (pss_cons (ps_set (i := 5) sc_law_draw.nd rfl (by first | exact .inl rfl | exact .inr rfl) (pe_op op_mul (pe_callTy call_int1 (by rfl) T.b_int (by decide +kernel) (pa_cons (pe_op op_add (pe_op op_add (pe_op op_mod (pe_callTy call_int1 (by rfl) T.b_int (by decide +kernel) (pa_cons (pv 4) pa_nil)) pe_int) (pe_op op_mul pe_int (pv 3))) (pe_op op_mul (pe_op op_mul pe_int (pv 3)) (pv 3))) pa_nil)) pe_int))
      (pss_cons (ps_set (i := 5) sc_law_draw.nd rfl (by first | exact .inl rfl | exact .inr rfl) (pe_op op_mul (pe_callTy call_int1 (by rfl) T.b_int (by decide +kernel) (pa_cons (pe_op op_add (pe_op op_mod (pe_callTy call_int1 (by rfl) T.b_int (by decide +kernel) (pa_cons (pv 5) pa_nil)) pe_int) (pe_op op_mul pe_int (pv 3))) pa_nil)) pe_int))
      (pss_one (ps_ret (pe_op op_mod (pe_callTy call_int1 (by rfl) T.b_int (by decide +kernel) (pa_cons (pe_op op_fdiv (pe_op op_mod (pe_callTy call_int1 (by rfl) T.b_int (by decide +kernel) (pa_cons (pv 5) pa_nil)) pe_int) pe_int) pa_nil)) (pv 1)))))))))), ?_⟩
    obtain ⟨d, lim, n, rfl, ⟨c, xs, l, z, hd, hc, hx, hz0, hzn⟩, ⟨h1, h2, h3⟩, q⟩ := h
    have hdc : d ≠ c := ne_of hd hc (by intro q; cases q)
    refine ⟨_, rfl, d, _, rfl, dg_l hd, l, 0, rfl, rfl, _, rfl, ?_⟩
    have hl0 : (0 : Int) < (lim : Int) := by omega
    by_cases hl : (0 : Int) < l
    · rw [decide_eq_true hl]
      refine iteT ⟨_, rfl, d, _, rfl, dg_l hd, .inl ⟨l, rfl, _, rfl, l, lim, rfl, rfl, hl0, ?_⟩⟩
      obtain ⟨r, er, hr1⟩ := imod_nat l lim h1
      dsimp only
      rw [er]
      refine ⟨_, rfl, d, _, rfl, dg_l hd, _, rfl, l, lim, rfl, rfl, ⟨hl0, by omega⟩, _, rfl, d, _, rfl, dp_l hd, _, rfl, ?_⟩
      refine q r _ hr1 (Gr.wr (by simp)) ⟨c, xs, l / lim, z, upd_same, ?_, hx, hz0, by omega⟩
      rw [upd_ne hdc.symm]
      exact hc
    · rw [decide_eq_false hl]
      refine iteF ?_
      refine ⟨_, rfl, d, _, rfl, dg_s hd, z, 1, rfl, rfl, ?_⟩
      refine ⟨_, rfl, _, rfl, d, _, rfl, dp_s hd, ?_⟩
      have hd' : (upd H d (.dK (mkv c l (z + 1)))) d = some (.dK (mkv c l (z + 1))) := upd_same
      have hc' : (upd H d (.dK (mkv c l (z + 1)))) c = some (.lst (xs.map V.int)) := by
        rw [upd_ne hdc.symm]
        exact hc
      have hxl : 1 ≤ xs.length := by
        cases xs with
        | nil => exact absurd rfl hx
        | cons x r => simp
      refine ⟨_, rfl, d, _, rfl, dg_c hd', _, rfl, .inl ⟨z + 1, rfl, _, rfl, d, _, rfl, dg_c hd', c, _, rfl, .inl (sq_lst hc'), _, _, rfl, rfl, ?_, ?_⟩⟩
      · rw [List.length_map]
        omega
      rw [List.length_map]
      obtain ⟨j, ej, hj⟩ := imod_nat (z + 1) xs.length hxl
      dsimp only
      refine ⟨c, _, _, .int xs[j], rfl, rfl, sq_lst hc', ?_, ?_⟩
      · rw [ej]
        refine atI_nat ?_
        rw [List.getElem?_map, List.getElem?_eq_getElem hj]
        rfl
      refine ⟨_, rfl, .inl ⟨_, rfl, _, _, rfl, rfl, (by show (0 : Int) < 2147483629; decide), _, rfl, _, _, rfl, rfl, .inl ⟨by decide, by decide⟩, _, _, rfl, rfl, _, rfl, _, _, rfl, rfl, .inl ⟨by decide, by decide⟩, _, rfl, _, _, rfl, rfl, .inr ⟨by omega, by omega⟩, _, _, rfl, rfl, ?_⟩⟩
      refine .inl ⟨_, rfl, _, _, rfl, rfl, .inr ⟨by decide, by decide⟩, ?_⟩
      refine ⟨_, rfl, .inl ⟨_, rfl, _, _, rfl, rfl, (by show (0 : Int) < 2147483647; decide), _, rfl, _, _, rfl, rfl, .inl ⟨by decide, by decide⟩, _, _, rfl, rfl, ?_⟩⟩
      refine .inl ⟨_, rfl, _, _, rfl, rfl, .inr ⟨by decide, by decide⟩, ?_⟩
      refine ⟨_, rfl, .inl ⟨_, rfl, _, _, rfl, rfl, (by show (0 : Int) < 2147483587; decide), _, _, rfl, rfl, ⟨by decide, by decide⟩, ?_⟩⟩
      refine .inl ⟨_, rfl, _, rfl, _, _, rfl, rfl, hl0, ?_⟩
      dsimp only
      obtain ⟨r, er, hr1⟩ := imod_nat _ lim h1
      rw [er]
      exact q r _ hr1 (Gr.wr (by simp)) ⟨c, xs, l, z + 1, hd', hc', hx, by omega, by omega⟩

def sp_law_of (K : PySem.W.Frag) : Sp := fun vs H Q _ => ∃ (d a : Addr) (n : Nat) (xs : List V), vs = [.ref d, .ref a] ∧ MOk H d n ∧ H a = some (.lst xs) ∧ (xs ≠ [] ∧ xs.length ≤ 100000 ∧ n ≤ 1000000000000) ∧
  ∀ v H', v ∈ xs → Gr [d] H H' → MOk H' d (n + 1) → Q v H'
theorem ok_law_of (T : Txt K mg) : FnOk P w K mg base CX0 2 T.d_law_of.f T.d_law_of.fd ["m", "some"] (sp_law_of K) := by
  refine T.d_law_of.F.ok sc_law_of (fun vs H Q E h => ?_) (fun cdv A outer s H vs Q E hr h => ?_)
  · obtain ⟨d, a, n, xs, rfl, _⟩ := h; rfl
  · have hu := hu_of hr
    refine ⟨_, (pss_one (ps_ret (pe_ix (r := rIxL K) ix_list (pv 1) (pe_call (ok_law_draw T) (hr.mono (by decide)) (by rfl) T.d_law_draw.m T.d_law_draw.F.kp T.d_law_draw.b .nil pass0 (pa_cons (pv 0) (pa_cons (pe_callB (r := rLn K) call_ln (by rfl) T.b_len PySem.boot_len (pa_cons (pv 1) pa_nil)) pa_nil))) (fun _ _ => rfl)))), ?_⟩
    obtain ⟨d, a, n, xs, rfl, M, ha, ⟨h1, h2, h3⟩, q⟩ := h
    have hl : 1 ≤ xs.length := by
      cases xs with
      | nil => exact absurd rfl h1
      | cons x r => simp
    refine ⟨_, rfl, _, rfl, _, rfl, a, _, rfl, .inl (sq_lst ha), ?_⟩
    refine ⟨d, xs.length, n, rfl, M, ⟨hl, by omega, h3⟩, fun r H' hr g M' => ?_⟩
    have ha' := M.lst g ha
    exact ⟨a, xs, r, xs[r], rfl, rfl, sq_lst ha', atI_nat (by rw [List.getElem?_eq_getElem hr]), q _ _ (List.getElem_mem _) g M'⟩

def sp_law_divisor : Sp := fun vs H Q _ => ∃ a c : Nat, vs = [.int a, .int c] ∧ Q (.int (Nat.gcd a c : Nat)) H
theorem ok_law_divisor (T : Txt K mg) : FnOk P w K mg base CX0 1 T.d_law_divisor.f T.d_law_divisor.fd ["one", "other"] sp_law_divisor := by
  refine T.d_law_divisor.F.ok sc_law_divisor (fun vs H Q E h => ?_) (fun cdv A outer s H vs Q E hr h => ?_)
  · obtain ⟨a, c, rfl, _⟩ := h; rfl
  · have hu := hu_of hr
    refine ⟨_, (pss_cons (ps_while PassesOwn.never (pt_cmpR op_gt (pv 1) pe_int (nomark _)) (pss_one (ps_par (i := 0) (j := 1) (by rfl) sc_law_divisor.nd rfl rfl (by decide) rfl rfl (pa_cons (pv 1) (pa_cons (pe_op op_mod (pv 0) (pv 1)) pa_nil)) (by rfl))))
      (pss_one (ps_ret (pv 0)))), ?_⟩
    obtain ⟨a, c, rfl, q⟩ := h
    refine ⟨fun m σ H' => H' = H ∧ ∃ u : Nat, σ = [some (.int u), some (.int m)] ∧ Nat.gcd u m = Nat.gcd a c, ⟨c, rfl, a, rfl, rfl⟩, ?_⟩
    rintro m σ H' ⟨rfl, u, rfl, e⟩
    refine ⟨_, rfl, _, _, rfl, rfl, _, rfl, ?_⟩
    by_cases hc : (0 : Int) < (m : Int)
    · rw [decide_eq_true hc]
      refine iteT ⟨fun σ' H2 => H2 = H' ∧ σ' = [some (.int m), some (.int (u % m : Nat))], ?_, ?_⟩
      · rintro σ' H2 ⟨rfl, rfl⟩
        refine ⟨u % m, Nat.mod_lt _ (by omega), rfl, m, rfl, ?_⟩
        rw [← e, Nat.gcd_comm m, ← Nat.gcd_rec, Nat.gcd_comm]
      · refine ⟨_, rfl, _, rfl, _, rfl, _, _, rfl, rfl, hc, ?_⟩
        exact ⟨_, _, rfl, rfl, by dsimp only; rw [← Int.natCast_emod]; rfl⟩
    · rw [decide_eq_false hc]
      refine iteF ⟨_, rfl, ?_⟩
      have z : m = 0 := by omega
      subst z
      rw [← e, Nat.gcd_zero_right]  at q
      exact q

def sp_law_base (lo hi : Nat) : Sp := fun vs H Q _ => ∃ (d : Addr) (n : Nat), vs = [.ref d] ∧ MOk H d n ∧ n ≤ 1000000000 ∧ ∀ (b : Nat) H', 2 ≤ b → b ≤ 1000 → Gr [d] H H' → MOk H' d (n + 3) → Q (.int b) H'

def sp_law_part : Sp := fun vs H Q _ => ∃ (d : Addr) (most n : Nat), vs = [.ref d, .int most] ∧ MOk H d n ∧ (1 ≤ most ∧ most ≤ 5000 ∧ n ≤ 1000000000) ∧
  ∀ (a : Addr) (x k : Nat) H', H' a = some (.tup [.int x, .int k]) → x < k → k ≤ most → Nat.gcd x k = 1 → Gr [d] H H' → MOk H' d (n + 2) → Q (.ref a) H'

theorem val_none : ∀ {kvs : List (Key × V)} {k : Key}, (∀ kv ∈ kvs, kv.1 ≠ k) → valV kvs k = none
  | [], _, _ => rfl
  | p :: r, k, h => by
    rw [valV_neg (h p (List.mem_cons_self ..))]
    exact val_none fun kv hk => h kv (List.mem_cons_of_mem _ hk)
theorem val_some : ∀ {kvs : List (Key × V)} {k : Key} {v : V} (i : Nat), kvs[i]? = some (k, v) → (∀ j, j < i → ∀ kv, kvs[j]? = some kv → kv.1 ≠ k) → valV kvs k = some v
  | [], _, _, i, h, _ => by simp at h
  | p :: r, k, v, 0, h, _ => by
    have e : p = (k, v) := Option.some.inj h
    subst e
    exact valV_pos rfl
  | p :: r, k, v, i + 1, h, d => by
    rw [valV_neg (d 0 (Nat.succ_pos _) p rfl)]
    exact val_some i h fun j hj kv hk => d (j + 1) (Nat.succ_lt_succ hj) kv hk
def rms (b n x c : Nat) : List V := (List.range c).map fun i => V.int (rem b n x i : Nat)
def rkv (b n x c : Nat) : List (Key × V) := (List.range c).map fun i => ((Sum.inl ((rem b n x i : Nat) : Int) : Key), V.int (i : Nat))
theorem rms_succ (b n x c : Nat) : rms b n x (c + 1) = rms b n x c ++ [V.int (rem b n x c : Nat)] := by
  unfold rms
  rw [List.range_succ, List.map_append]
  rfl
theorem rkv_succ (b n x c : Nat) : rkv b n x (c + 1) = rkv b n x c ++ [(Sum.inl ((rem b n x c : Nat) : Int), V.int (c : Nat))] := by
  unfold rkv
  rw [List.range_succ, List.map_append]
  rfl
theorem rms_len (b n x c : Nat) : (rms b n x c).length = c := by simp [rms]
theorem rkv_len (b n x c : Nat) : (rkv b n x c).length = c := by simp [rkv]
theorem rkv_none {b n x c y : Nat} (h : ∀ j, j < c → rem b n x j ≠ y) : valV (rkv b n x c) (Sum.inl (y : Int) : Key) = none := by
  refine val_none fun kv hk e => ?_
  obtain ⟨j, hj, rfl⟩ := List.mem_map.mp hk
  have := Sum.inl.inj e
  exact h j (List.mem_range.mp hj) (by omega)
theorem rkv_some {b n x c j : Nat} (hj : j < c) (h : ∀ i, i < j → rem b n x i ≠ rem b n x j) : valV (rkv b n x c) (Sum.inl ((rem b n x j : Nat) : Int) : Key) = some (.int (j : Nat)) := by
  refine val_some j ?_ fun i hi kv hk e => ?_
  · unfold rkv
    rw [List.getElem?_map, List.getElem?_range hj]
    rfl
  · unfold rkv at hk
    rw [List.getElem?_map, List.getElem?_range (by omega)] at hk
    have e2 := Option.some.inj hk
    subst e2
    have := Sum.inl.inj e
    exact h i hi (by omega)
def sp_law_ring : Sp := fun vs H Q _ => ∃ (b x n : Nat) (a : Addr), vs = [.int b, .ref a] ∧ H a = some (.tup [.int x, .int n]) ∧ (b ≤ 1000 ∧ n ≤ 5000 ∧ x < n ∧ Nat.gcd x n = 1) ∧
  ∀ (t l : Addr) H' (p q h L : Nat), Par b n p q h L → Gr [] H H' → H' t = some (.tup [.ref l, .int (h : Nat)]) → H' l = some (.lst (rms b n x (h + L))) → Q (.ref t) H'
theorem ok_law_ring (T : Txt K mg) : FnOk P w K mg base CX0 1 T.d_law_ring.f T.d_law_ring.fd ["b", "part"] sp_law_ring := by
  refine T.d_law_ring.F.ok sc_law_ring (fun vs H Q E h => ?_) (fun cdv A outer s H vs Q E hr h => ?_)
  · obtain ⟨b, x, n, a, rfl, _⟩ := h; rfl
  · have hu := hu_of hr
    refine ⟨_, (pss_cons (ps_asg (pv 1) (pg_tup (by rfl) (pgs_cons (pg_name (i := 2) sc_law_ring.nd rfl (by first | exact .inl rfl | exact .inr rfl)) (pgs_cons (pg_name (i := 3) sc_law_ring.nd rfl (by first | exact .inl rfl | exact .inr rfl)) pgs_nil))))
      (pss_cons (ps_par (i := 4) (j := 5) (by rfl) sc_law_ring.nd rfl rfl (by decide) rfl rfl (pa_cons (pe_lst pa_nil) (pa_cons pe_dnewK pa_nil)) (by rfl))
      (pss_cons (ps_while PassesOwn.never (pt_cmp (pc_dnotin hu (pv 2) (pv 5))) (pss_cons (ps_dput hu (pv 5) (pv 2) (pe_callB (r := rLn K) call_ln (by rfl) T.b_len PySem.boot_len (pa_cons (pv 4) pa_nil)) rfl)
      (pss_cons (ps_expr (pe_bm PySem.F.plainAttrs_list PySem.F.slot_list_append PySem.F.type_list_append mt_append (pv 4) (pa_cons (pv 2) pa_nil)))
      (pss_one (ps_set (i := 2) sc_law_ring.nd rfl (by first | exact .inl rfl | exact .inr rfl) (pe_op op_mod (pe_op op_mul (pv 2) (pv 0)) (pv 3)))))))
      (pss_one (ps_ret (pe_tup (pa_cons (pv 4) (pa_cons (pe_dget hu (pv 5) (pv 2) (fun _ _ => rfl)) pa_nil)))))))), ?_⟩
    obtain ⟨b, x, n, a, rfl, ha, ⟨hb, hn, hx, hg⟩, q⟩ := h
    have hn1 : 1 ≤ n := by omega
    refine ⟨_, rfl, a, _, rfl, sq_tup ha, rfl, _, _, rfl, _, _, rfl, rfl, ?_⟩
    refine ⟨Nat.zero_le _, fun l nl => ?_⟩
    intro e ne
    have nle : l ≠ e := ne_of_none (o := .lst []) upd_same ne
    refine ⟨_, _, rfl, ?_⟩
    have hE : ∀ {o}, H e = o → H e = o := fun h => h
    have ne0 : H e = none := by
      rw [upd_ne nle.symm] at ne
      exact ne
    refine ⟨fun m σ H' => ∃ i : Nat, m = n - i ∧ i ≤ n ∧ Gr [] H H' ∧ H' l = some (.lst (rms b n x i)) ∧ H' e = some (.dK (rkv b n x i)) ∧ σ = [some (.int b), some (.ref a), some (.int (rem b n x i : Nat)), some (.int n), some (.ref l), some (.ref e)] ∧ (∀ u v, u < v → v < i → rem b n x u ≠ rem b n x v),
      ⟨n, 0, rfl, Nat.zero_le _, (Gr.new nl).trans (Gr.new ne), ?_, upd_same, ?_, fun u v _ z => absurd z (Nat.not_lt_zero _)⟩, ?_⟩
    · rw [upd_ne nle, upd_same]
      rfl
    · rw [rem_zero hx]
      rfl
    rintro m σ H' ⟨i, rfl, hi, G, hL, hD, rfl, hd⟩
    refine ⟨_, rfl, _, rfl, e, _, rfl, DGet.k (k := Sum.inl ((rem b n x i : Nat) : Int)) hD, _, rfl, ?_⟩
    by_cases hc : ∃ j, j < i ∧ rem b n x j = rem b n x i
    · obtain ⟨j, hj, ej⟩ := hc
      have hv : valV (rkv b n x i) (Sum.inl ((rem b n x i : Nat) : Int) : Key) = some (.int (j : Nat)) := by
        rw [← ej]
        exact rkv_some hj fun u hu => hd u j hu hj
      rw [hv]
      refine iteF ?_
      obtain ⟨p, q0, h, L, P⟩ := par_exists (b := b) hn1
      obtain ⟨ei, eh⟩ := ring_end P hn1 hg hd hj ej
      refine ⟨_, rfl, _, rfl, _, rfl, e, .int (j : Nat), rfl, ?_, by show 2 ≤ sizeLine; decide, fun t nt => ?_⟩
      · rw [← hv]
        exact DGet.k (k := Sum.inl ((rem b n x i : Nat) : Int)) hD
      · refine q t l _ p q0 h L P (G.trans (Gr.new nt)) ?_ ?_
        · rw [upd_same, eh]
        · rw [upd_ne (ne_of_none hL nt), hL, ei]
    · have hno : ∀ j, j < i → rem b n x j ≠ rem b n x i := fun j hj ej => hc ⟨j, hj, ej⟩
      rw [rkv_none hno]
      refine iteT ?_
      have hlt : rem b n x i < n := rem_lt hn1
      have hin : i + 1 ≤ n := by
        have := nodup_le n ((List.range (i + 1)).map fun u => rem b n x u) (by
          rw [List.nodup_iff_pairwise_ne, List.pairwise_map, List.pairwise_iff_getElem]
          intro u v hu hv huv
          rw [List.getElem_range, List.getElem_range]
          rw [List.length_range] at hv
          rcases Nat.lt_or_eq_of_le (show v ≤ i by omega) with z | z
          · exact hd u v huv z
          · rw [z]
            exact hno u (by omega)) (fun y hy => by
          obtain ⟨u, _, rfl⟩ := List.mem_map.mp hy
          exact rem_lt hn1)
        rw [List.length_map, List.length_range] at this
        exact this
      refine ⟨fun σ' H2 => Gr [] H H2 ∧ H2 l = some (.lst (rms b n x (i + 1))) ∧ H2 e = some (.dK (rkv b n x (i + 1))) ∧ σ' = [some (.int b), some (.ref a), some (.int (rem b n x (i + 1) : Nat)), some (.int n), some (.ref l), some (.ref e)], ?_, ?_⟩
      · rintro σ' H2 ⟨G2, L2, D2, rfl⟩
        refine ⟨n - (i + 1), by omega, i + 1, rfl, hin, G2, L2, D2, rfl, fun u v huv hv => ?_⟩
        rcases Nat.lt_or_eq_of_le (show v ≤ i by omega) with z | z
        · exact hd u v huv z
        · rw [z]
          exact hno u (by omega)
      · have small : ∀ {k : Nat}, k ≤ 5000 → k < sizeLine := fun h => Nat.lt_of_lt_of_le (show _ < 6000 by omega) (by decide)
        refine ⟨_, rfl, l, _, rfl, .inl (sq_lst hL), _, rfl, _, rfl, e, _, rfl, DPut.k (k := Sum.inl ((rem b n x i : Nat) : Int)) hD (by rw [rkv_len]; exact small (by omega)), ?_⟩
        rw [putK_new _ (rkv_none hno), rms_len, ← rkv_succ]
        have hL2 : (upd H' e (.dK (rkv b n x (i + 1)))) l = some (.lst (rms b n x i)) := by
          rw [upd_ne nle]
          exact hL
        refine ⟨_, rfl, .inl ⟨rfl, _, sq_lst hL2⟩, _, rfl, l, _, _, rfl, rfl, hL2, by rw [rms_len]; exact small (by omega), ?_⟩
        refine ⟨_, rfl, _, rfl, _, b, rfl, rfl, .inl ⟨by omega, by omega⟩, _, rfl, _, n, rfl, rfl, (show (0 : Int) < (n : Int) by omega), ?_⟩
        dsimp only
        rw [icm, rem_succ, ← rms_succ]
        refine ⟨fun c o _ ec => ?_, upd_same, ?_, rfl⟩
        · rw [upd_ne (ne_of_none ec nl), upd_ne (ne_of_none ec ne0)]
          exact G c o (by simp) ec
        · rw [upd_ne nle.symm, upd_same]

theorem dgs_take (b n x h L : Nat) : (dgs b n x (h + L)).take h = dgf b n x 0 h := by
  unfold dgs dgf
  rw [← List.map_take, List.take_range, Nat.min_eq_left (by omega)]
  simp
theorem dgs_drop (b n x h L : Nat) : (dgs b n x (h + L)).drop h = dgf b n x h L := by
  unfold dgs dgf
  rw [← List.map_drop]
  apply List.ext_getElem
  · simp
  · intro i i1 i2
    simp
def sp_law_spread : Sp := fun vs H Q _ => ∃ (b x n : Nat) (a : Addr), vs = [.int b, .ref a] ∧ H a = some (.tup [.int x, .int n]) ∧ (b ≤ 1000 ∧ n ≤ 5000 ∧ x < n ∧ Nat.gcd x n = 1) ∧
  ∀ (t : Addr) H' (p q h L : Nat), Par b n p q h L → Gr [] H H' → Exp H' t b x n h L → Q (.ref t) H'
theorem ok_law_spread (T : Txt K mg) : FnOk P w K mg base CX0 2 T.d_law_spread.f T.d_law_spread.fd ["b", "part"] sp_law_spread := by
  refine T.d_law_spread.F.ok sc_law_spread (fun vs H Q E h => ?_) (fun cdv A outer s H vs Q E hr h => ?_)
  · obtain ⟨b, x, n, a, rfl, _⟩ := h; rfl
  · have hu := hu_of hr
    refine ⟨_, (pss_cons (ps_asg (pe_call (ok_law_ring T) (hr.mono (by decide)) (by rfl) T.d_law_ring.m T.d_law_ring.F.kp T.d_law_ring.b .nil pass0 (pa_cons (pv 0) (pa_cons (pv 1) pa_nil))) (pg_tup (by rfl) (pgs_cons (pg_name (i := 2) sc_law_spread.nd rfl (by first | exact .inl rfl | exact .inr rfl)) (pgs_cons (pg_name (i := 3) sc_law_spread.nd rfl (by first | exact .inl rfl | exact .inr rfl)) pgs_nil))))
      (pss_cons (ps_setLc (i := 4) (own := [("x", 5)]) (g := gName 5) (tt := tYes) rfl sc_law_spread.nd rfl rfl (sw_true rfl rfl rfl (by decide +kernel)) (pi_list (pv 2)) (blkOk_by (own := [("x", 5)]) (N := ["b", "part", "row", "begin", "figs", "x"]) (sc := defScope s_law_spread) (by decide +kernel)) (fun _ _ _ _ _ => (pg_name (i := 5) sc_law_spread.nd rfl (by first | exact .inl rfl | exact .inr rfl))) (fun _ _ _ _ _ => pts_nil) (fun _ _ _ _ _ => (pe_op op_fdiv (pe_op op_mul (pv 5) (pv 0)) (pe_ix (r := rIxT K) ix_tup (pv 1) pe_int (fun _ _ => rfl)))))
      (pss_one (ps_ret (pe_tup (pa_cons (pe_callTy (r := rTpO K) call_tpO (by rfl) T.b_tuple (by decide +kernel) (pa_cons (pe_slice (r := rSlL K) sl_list (pv 4) po_none (po_some (pv 3))) pa_nil)) (pa_cons (pe_callTy (r := rTpO K) call_tpO (by rfl) T.b_tuple (by decide +kernel) (pa_cons (pe_slice (r := rSlL K) sl_list (pv 4) (po_some (pv 3)) po_none) pa_nil)) pa_nil))))))), ?_⟩
    obtain ⟨b, x, n, a, rfl, ha, ⟨hb, hn, hx, hg⟩, q⟩ := h
    have hn1 : 1 ≤ n := by omega
    refine ⟨_, rfl, _, rfl, b, x, n, a, rfl, ha, ⟨hb, hn, hx, hg⟩, fun t l H1 p q0 h L P g1 ht hl => ?_⟩
    refine ⟨t, _, rfl, sq_tup ht, rfl, _, _, rfl, _, _, rfl, rfl, ?_⟩
    refine ⟨_, rfl, l, rfl, ⟨_, sq_lst hl⟩, fun D nD => ?_⟩
    refine lc_list (K := K) (a := l) (xs := rms b n x (h + L)) (fun i H' => Gr [] H1 H' ∧ H' D = some (.lst (dgs b n x i))) ⟨Gr.new nD, upd_same⟩ (fun i H' _ z => sq_lst (z.1 l _ (by simp) hl)) ?_ ?_
    · rintro i y H' hy ⟨G, hD⟩
      have ey : y = V.int ((rem b n x i : Nat) : Int) := by
        unfold rms at hy
        rw [List.getElem?_map] at hy
        cases e : (List.range (h + L))[i]? with
        | none =>
          rw [e] at hy
          cases hy
        | some u =>
          rw [e] at hy
          obtain ⟨hi, e2⟩ := List.getElem?_eq_some_iff.mp e
          rw [List.getElem_range] at e2
          subst e2
          exact (Option.some.inj hy).symm
      have hi : i < h + L := by
        have := (List.getElem?_eq_some_iff.mp hy).1
        rw [rms_len] at this
        exact this
      subst ey
      have hlt : rem b n x i < n := rem_lt hn1
      have ha' := G a _ (by simp) (g1 a _ (by simp) ha)
      have hLn := P.Ln hn1
      have hhn := P.hn hn1
      refine ⟨rfl, ?_⟩
      dsimp only [tYes]
      refine iteT ?_
      refine ⟨_, rfl, _, rfl, _, b, rfl, rfl, .inl ⟨by omega, by omega⟩, _, rfl, a, _, _, .int n, rfl, rfl, sq_tup ha', atI_nat (j := 1) rfl, _, n, rfl, rfl, ⟨by omega, by omega⟩, ?_⟩
      refine ⟨_, hD, ?_, ?_, ?_⟩
      · unfold dgs
        rw [List.length_map, List.length_range]
        exact Nat.lt_of_lt_of_le (show i < 20000 by omega) (by decide)
      · intro c o _ e
        rw [upd_ne (ne_of_none e nD)]
        exact G c o (by simp) e
      · dsimp only
        rw [icd, upd_same]
        unfold dgs
        rw [List.range_succ, List.map_append]
        rfl
    rintro H2 ⟨G, hD⟩
    rw [rms_len] at hD
    have lenD : (dgs b n x (h + L)).length = h + L := by
      unfold dgs
      rw [List.length_map, List.length_range]
    refine ⟨_, rfl, _, rfl, (h : Int), rfl, D, _, rfl, sq_lst hD, fun p1 n1 => ?_⟩
    refine ⟨p1, _, rfl, .inl ⟨sq_lst upd_same, fun t1 m1 => ?_⟩⟩
    have np1 : D ≠ p1 := ne_of_none hD n1
    have k1 : (upd H2 p1 (.lst (cutV (dgs b n x (h + L)) none (some (h : Int))))) D = some (.lst (dgs b n x (h + L))) := by
      rw [upd_ne np1]
      exact hD
    generalize hH3 : upd H2 p1 (.lst (cutV (dgs b n x (h + L)) none (some (h : Int)))) = H3 at m1 k1 ⊢
    have g3 : Gr [] H2 H3 := by
      rw [← hH3]
      exact Gr.new n1
    have k2 : (upd H3 t1 (.tup (cutV (dgs b n x (h + L)) none (some (h : Int))))) D = some (.lst (dgs b n x (h + L))) := by
      rw [upd_ne (ne_of_none k1 m1)]
      exact k1
    have k3 : (upd H3 t1 (.tup (cutV (dgs b n x (h + L)) none (some (h : Int))))) t1 = some (.tup (cutV (dgs b n x (h + L)) none (some (h : Int)))) := upd_same
    have g4 : Gr [] H3 (upd H3 t1 (.tup (cutV (dgs b n x (h + L)) none (some (h : Int))))) := Gr.new m1
    generalize upd H3 t1 (.tup (cutV (dgs b n x (h + L)) none (some (h : Int)))) = H4 at k2 k3 g4 ⊢
    refine ⟨_, rfl, _, rfl, (h : Int), rfl, ?_⟩
    dsimp only [tNoPart]
    refine ⟨D, _, rfl, sq_lst k2, fun p2 n2 => ?_⟩
    refine ⟨p2, _, rfl, .inl ⟨sq_lst upd_same, fun t2 m2 => ?_⟩⟩
    have k4 : (upd H4 p2 (.lst (cutV (dgs b n x (h + L)) (some (h : Int)) none))) t1 = some (.tup (cutV (dgs b n x (h + L)) none (some (h : Int)))) := by
      rw [upd_ne (ne_of_none k3 n2)]
      exact k3
    have g5 : Gr [] H4 (upd H4 p2 (.lst (cutV (dgs b n x (h + L)) (some (h : Int)) none))) := Gr.new n2
    generalize upd H4 p2 (.lst (cutV (dgs b n x (h + L)) (some (h : Int)) none)) = H5 at m2 k4 g5 ⊢
    have g6 : Gr [] H5 (upd H5 t2 (.tup (cutV (dgs b n x (h + L)) (some (h : Int)) none))) := Gr.new m2
    have k5 : (upd H5 t2 (.tup (cutV (dgs b n x (h + L)) (some (h : Int)) none))) t2 = some (.tup (cutV (dgs b n x (h + L)) (some (h : Int)) none)) := upd_same
    have k6 := g6 t1 _ (by simp) k4
    generalize upd H5 t2 (.tup (cutV (dgs b n x (h + L)) (some (h : Int)) none)) = H6 at k5 k6 g6 ⊢
    refine ⟨by show 2 ≤ sizeLine; decide, fun t7 n7 => ?_⟩
    refine q t7 _ p q0 h L P (((((g1.trans G).trans g3).trans g4).trans g5).trans (g6.trans (Gr.new n7))) ⟨t1, t2, upd_same, ?_, ?_⟩
    · rw [upd_ne (ne_of_none k6 n7), k6, cut_lo (by rw [lenD]; omega), dgs_take]
    · rw [upd_ne (ne_of_none k5 n7), k5, cut_hi (by rw [lenD]; omega), dgs_drop]

def sp_law_begun (K : PySem.W.Frag) : Sp := fun vs H Q _ => ∃ (a : Addr) (ns : List Int), vs = [.ref a] ∧ SqL K H a (ns.map V.int) ∧ ns.length ≤ 63 ∧ ∀ d H', Gr [] H H' → MOk H' d 0 → Q (.ref d) H'
theorem eqv_nil (ys : List Int) : PyData.eqv (.list (ys.map PyData.int)) (.list []) = ys.isEmpty := by
  cases ys with
  | nil => rfl
  | cons y r => rfl
theorem lay_ints : ∀ ys : List Int, PyData.canLayAll0 (ys.map PyData.int) = true ∧ PyData.depthAll (ys.map PyData.int) = 0
  | [] => ⟨rfl, rfl⟩
  | y :: r => by
    obtain ⟨h1, h2⟩ := lay_ints r
    refine ⟨?_, ?_⟩
    · show (true && PyData.canLayAll0 (r.map PyData.int)) = true
      rw [h1]
      rfl
    · show max 0 (PyData.depthAll (r.map PyData.int)) = 0
      rw [h2]
      rfl
theorem shaped_ints (ys : List Int) : SeqAt.shaped (.list (ys.map PyData.int)) = true := by
  obtain ⟨h1, h2⟩ := lay_ints ys
  exact Fits.shaped h1 (by show PyData.depthAll _ + 1 ≤ 64; rw [h2]; decide)
theorem get_ints {ns : List Int} {i : Nat} {x : V} (h : (ns.map V.int)[i]? = some x) : ∃ n, x = .int n ∧ ns[i]? = some n ∧ i < ns.length := by
  rw [List.getElem?_map] at h
  cases e : ns[i]? with
  | none =>
    rw [e] at h
    cases h
  | some n =>
    rw [e] at h
    exact ⟨n, (Option.some.inj h).symm, rfl, (List.getElem?_eq_some_iff.mp e).1⟩
theorem ok_law_begun (T : Txt K mg) : FnOk P w K mg base CX0 1 T.d_law_begun.f T.d_law_begun.fd ["script"] (sp_law_begun K) := by
  refine T.d_law_begun.F.ok sc_law_begun (fun vs H Q E h => ?_) (fun cdv A outer s H vs Q E hr h => ?_)
  · obtain ⟨a, ns, rfl, _⟩ := h; rfl
  · have hu := hu_of hr
    refine ⟨_, (pss_cons (ps_setLc (i := 1) (own := [("cell", 2)]) (g := gName 2) (tt := _) rfl sc_law_begun.nd rfl rfl (sw_true rfl rfl rfl (by decide +kernel)) (pi_list (pv 0)) (blkOk_by (own := [("cell", 2)]) (N := ["script", "great", "cell"]) (sc := defScope s_law_begun) (by decide +kernel)) (fun _ _ _ _ _ => (pg_name (i := 2) sc_law_begun.nd rfl (by first | exact .inl rfl | exact .inr rfl))) (fun _ _ _ _ _ => (pts_one (pt_cmpR op_ge (pv 2) (pe_op op_pow pe_int pe_int) (nomark _)))) (fun _ _ _ _ _ => (pv 2)))
      (pss_one (ps_ret (pe_disp (pps_cons pe_str (pe_op op_cat (pe_callTy (r := rLsO K) call_lsO (by rfl) T.b_list (by decide +kernel) (pa_cons (pv 0) pa_nil)) (pe_lst (pa_cons (pe_callB (r := rLn K) call_ln (by rfl) T.b_len PySem.boot_len (pa_cons (pv 0) pa_nil)) pa_nil))) (pps_cons pe_str (pe_ifExp (pt_cmpR (r := rNeD K) (op_neD hr.units) (pv 1) (pe_lst pa_nil) (nomark _)) (pe_ix (r := rIxL K) ix_list (pv 1) pe_int (fun _ _ => rfl)) pe_int) (pps_cons pe_str pe_int pps_nil))) (by rfl) (by rfl) (fun z => by cases z) (by decide))))), ?_⟩
    obtain ⟨a, ns, rfl, hS, hn, q⟩ := h
    have sz : ∀ {k : Nat}, k ≤ 1000 → k < sizeLine := fun h => small1000 h
    refine ⟨_, rfl, a, rfl, ⟨_, hS⟩, fun D nD => ?_⟩
    refine lc_list (K := K) (a := a) (xs := ns.map V.int) (fun i H' => Gr [] H H' ∧ ∃ ys : List Int, ys.length ≤ i ∧ H' D = some (.lst (ys.map V.int))) ⟨Gr.new nD, [], Nat.le_refl _, upd_same⟩ (fun i H' _ z => (Kp.of z.1).sqL hS) ?_ ?_
    · rintro i y H' hy ⟨G, ys, hl, hD⟩
      obtain ⟨n, rfl, hn', hi⟩ := get_ints hy
      refine ⟨rfl, ?_⟩
      refine ⟨_, rfl, _, _, rfl, rfl, ⟨by decide, by decide, by decide⟩, _, _, rfl, rfl, _, rfl, ?_⟩
      have ex : ∀ {o : HO}, Gr [] H (upd H' D o) := fun {o} c u _ e => by
        rw [upd_ne (ne_of_none e nD)]
        exact G c u (by simp) e
      refine ite2 (fun _ => ?_) (fun _ => ?_)
      · refine ⟨_, rfl, _, hD, by rw [List.length_map]; exact sz (by omega), ex, ys ++ [n], by rw [List.length_append]; simp; omega, ?_⟩
        rw [upd_same, List.map_append]
        rfl
      · exact ⟨G, ys, by omega, hD⟩
    rintro H1 ⟨g1, ys, hl, hD⟩
    rw [List.length_map] at hl
    intro p np
    have hS1 : SqL K (upd H1 p (.dK [])) a (ns.map V.int) := (Kp.of (g1.trans (Gr.new np))).sqL hS
    have hD1 := (Gr.new (W := []) (o := .dK []) np) D _ (by simp) hD
    refine ⟨_, rfl, a, _, rfl, .inl hS1, fun l nl => ?_⟩
    have hS2 := (Kp.of (Gr.new (o := .lst (ns.map V.int)) nl)).sqL hS1
    refine ⟨_, rfl, a, _, rfl, .inl hS2, by show 1 ≤ sizeLine; decide, fun l2 nl2 => ?_⟩
    have k1 := (Gr.new (W := []) (o := .lst [V.int ((ns.map V.int).length : Nat)]) nl2) l _ (by simp) (upd_same (o := .lst (ns.map V.int)))
    refine ⟨l, l2, _, _, rfl, rfl, k1, upd_same, ?_, fun p3 np3 => ?_⟩
    · rw [List.length_map]
      exact Nat.le_of_lt (sz (by show ns.length + 1 ≤ 1000; omega))
    have gA : Gr [] (upd H1 p (.dK [])) (upd (upd (upd (upd H1 p (.dK [])) l (.lst (ns.map V.int))) l2 (.lst [V.int ((ns.map V.int).length : Nat)])) p3 (.lst (ns.map V.int ++ [V.int ((ns.map V.int).length : Nat)]))) :=
      ((Gr.new nl).trans (Gr.new nl2)).trans (Gr.new np3)
    have hp3 : (upd (upd (upd (upd H1 p (.dK [])) l (.lst (ns.map V.int))) l2 (.lst [V.int ((ns.map V.int).length : Nat)])) p3 (.lst (ns.map V.int ++ [V.int ((ns.map V.int).length : Nat)]))) p3 = some (.lst ((ns ++ [(ns.length : Int)]).map V.int)) := by
      rw [upd_same, List.map_append, List.length_map]
      rfl
    generalize (upd (upd (upd (upd H1 p (.dK [])) l (.lst (ns.map V.int))) l2 (.lst [V.int ((ns.map V.int).length : Nat)])) p3 (.lst (ns.map V.int ++ [V.int ((ns.map V.int).length : Nat)]))) = H4 at gA hp3 ⊢
    have hD4 := gA D _ (by simp) hD1
    have hp4 := gA p _ (by simp) (upd_same (o := .dK []))
    have G4 : ∀ (H5 : Hp) (l0 : Int), Gr [] H4 H5 → Q (.ref p) (upd H5 p (.dK (mergeK [] (mkv p3 l0 0)))) := fun H5 l0 g5 => by
      rw [mm]
      have h3 := g5 p3 _ (by simp) hp3
      have hne : p3 ≠ p := by
        intro e
        rw [e, hp4] at hp3
        cases hp3
      refine q p _ (fun c u _ e => ?_) ⟨p3, ns ++ [(ns.length : Int)], l0, 0, upd_same, ?_, by simp, Int.le_refl _, Int.le_refl _⟩
      · have hcp : c ≠ p := ne_of_none (g1 c u (by simp) e) np
        rw [upd_ne hcp]
        refine g5 c u (by simp) (gA c u (by simp) ?_)
        rw [upd_ne hcp]
        exact g1 c u (by simp) e
      · rw [upd_ne hne]
        exact h3
    refine ⟨_, rfl, Nat.zero_le _, fun q0 nq => ?_⟩
    have hq := (Gr.new (W := []) (o := .lst []) nq)
    refine ⟨.list (ys.map PyData.int), .list [], dp_lst (hq D _ (by simp) hD4) (dpAll_ints ys), dp_lst upd_same .nil, shaped_ints ys, rfl, _, rfl, ?_⟩
    rw [eqv_nil]
    cases ys with
    | nil =>
      refine iteF ?_
      refine ⟨hq p _ (by simp) hp4, mkv p3 0 0, rfl, by show 3 ≤ 15; decide, G4 _ 0 hq⟩
    | cons y r =>
      refine iteT ⟨_, rfl, D, _, 0, .int y, rfl, rfl, sq_lst (hq D _ (by simp) hD4), atI_nat (j := 0) rfl, ?_⟩
      refine ⟨hq p _ (by simp) hp4, mkv p3 y 0, rfl, by show 3 ≤ 15; decide, G4 _ y hq⟩

end
end Wn
namespace Wn
open PySem PySem.Spec PyProof.Rows L2
open LamX (Tabs ExtN tLam)
local macro_rules | `(tactic| walk_at "vc") => `(tactic| simp only [cxK, cxK2, start1, start2, start3, tRet, tRetN, tSeq, tNext, tIfS, tAsg, gName, tDrop, tVar, tC, tOp, tUn, tTest, tB, tNot, tAnd, tOr, tAndV, tOrV, tNotV, tIf, tCons, tNil, tCB, tCall, tChain, tAug, ipI, rI, rI0, rU, rIs, rGcd, rEq, rNe, scal,
  List.getElem?_cons_zero, List.getElem?_cons_succ, List.set_cons_zero, List.set_cons_succ, Option.some.injEq, List.cons.injEq, V.int.injEq, V.bl.injEq, V.ref.injEq, V.str.injEq, and_true, true_and, exists_eq_left, exists_eq_left', exists_and_left, exists_and_right, List.append_nil, List.nil_append, List.cons_append, exists_eq_right, exists_eq_right', and_assoc, exists_const, V.ty.injEq, ↓reduceIte, Bool.false_eq_true, Bool.not_true, Bool.not_false, decide_eq_true_eq])

section
variable {P : Program} {w : World} {K : PySem.W.Frag} {mg : Str → Option Value} {base : Heap}
theorem ok_init_Nothing (T : Txt K mg) : FnOk P w K mg base CX0 1 T.I_Nothing T.fd_Nothing ["self", "value"] (spInit T.C_Nothing "value") := by
  refine T.F_Nothing.ok sc_Nothing_init (fun vs H Q E h => ?_) (fun cdv A outer s H vs Q E hr h => ?_)
  · obtain ⟨a, v, rfl, _⟩ := h
    rfl
  · obtain ⟨a, v, rfl, ha, q⟩ := h
    refine ⟨_, pss_cons (ps_expr (pe_initB T.T_Nothing (by rfl) T.b_LookupError (by rfl) (by decide) (by decide) (by kernel_rfl) (by decide +kernel) T.i_LookupError (by rfl) (pa_cons (pv 0) (pa_cons pe_str pa_nil)))) (pss_one (ps_ostE T.T_Nothing (pv 0) (pv 1))), ?_⟩
    exact ⟨_, rfl, a, _, rfl, by show 1 ≤ 1000; decide, ha, _, rfl, _, rfl, a, rfl, ha, fun d nd da => q d nd da⟩

theorem names3 {X : Cx} (T : Txt K mg) (hm : X.mg = mg) (h1 : X.env.kindOf "WheelError" = some .globalImplicit) (h2 : X.env.kindOf "Nothing" = some .globalImplicit) (h3 : X.env.kindOf "TooGreat" = some .globalImplicit) : Names3 X "WheelError" "Nothing" "TooGreat" T.C_WheelError T.C_Nothing T.C_TooGreat :=
  ⟨⟨h1, by decide, hm ▸ T.g_WheelError⟩, ⟨h2, by decide, hm ▸ T.g_Nothing⟩, ⟨h3, by decide, hm ▸ T.g_TooGreat⟩⟩
/-- the errors that may be met here: class, field, word -/
def errs (T : Txt K mg) : List (Addr × Str × Str) := [(T.C_Nothing, "value", "nothing")]
def tl (T : Txt K mg) : List (Addr × Str) := [(T.p_law_right, ("_law_right" : Str) ++ ".<locals>." ++ "<lambda>"), (T.p_law, ("law" : Str) ++ ".<locals>." ++ "<lambda>")]
theorem hm_law_right (T : Txt K mg) : (T.p_law_right, ("_law_right" : Str) ++ ".<locals>." ++ "<lambda>") ∈ tl T := by
  unfold tl
  simp
theorem hu_law_right (T : Txt K mg) : ∀ p ∈ tl T, p.1 = T.p_law_right → p.2 = ("_law_right" : Str) ++ ".<locals>." ++ "<lambda>" := by
  intro p hp e
  unfold tl at hp
  simp only [List.mem_cons, List.not_mem_nil, or_false] at hp
  rcases hp with rfl | rfl
  · rfl
  · exact absurd e (Ne.symm T.ne_law_right_law)
theorem hm_law (T : Txt K mg) : (T.p_law, ("law" : Str) ++ ".<locals>." ++ "<lambda>") ∈ tl T := by
  unfold tl
  simp
theorem hu_law (T : Txt K mg) : ∀ p ∈ tl T, p.1 = T.p_law → p.2 = ("law" : Str) ++ ".<locals>." ++ "<lambda>" := by
  intro p hp e
  unfold tl at hp
  simp only [List.mem_cons, List.not_mem_nil, or_false] at hp
  rcases hp with rfl | rfl
  · exact absurd e T.ne_law_right_law
  · rfl

structure Tbs (T : Txt K mg) (base : Heap) : Prop where
  tb_law_right : LamX.TabB base mg T.k_law_right T.p_law_right
  tb_law : LamX.TabB base mg T.k_law T.p_law

def sp_law_word (T : Txt K mg) : Sp := fun vs H Q _ => ∃ (a C d : Addr) (f w : Str) (v : V), vs = [.ref a] ∧ (C, f, w) ∈ errs T ∧ H a = some (ExV (.ref C) (some d) a) ∧ H d = some (.xd [(f, v)]) ∧ ∀ t H', Gr [] H H' → H' t = some (.tup [.str w, v]) → Q (.ref t) H'
theorem lookup_one (f : Str) (v : V) : List.lookup f [(f, v)] = some v := by simp [List.lookup]
theorem ok_law_word (T : Txt K mg) : FnOk P w K mg base CX0 1 T.d_law_word.f T.d_law_word.fd ["error"] (sp_law_word T) := by
  refine T.d_law_word.F.ok sc_law_word (fun vs H Q E h => ?_) (fun cdv A outer s H vs Q E hr h => ?_)
  · obtain ⟨a, C, d, f, w, v, rfl, _⟩ := h; rfl
  · have hu := hu_of hr
    refine ⟨_, (pss_cons (ps_set (i := 1) sc_law_word.nd rfl (by first | exact .inl rfl | exact .inr rfl) (pe_lst pa_nil))
      (pss_cons (ps_if (pt_val (pe_callB (r := rIsV K) call_isV (by rfl) T.b_isinstance (by decide +kernel) (pa_cons (pv 0) (pa_cons (pe_glob (v := .ref T.C_BadBase) (by rfl) T.g_BadBase rfl) pa_nil)))) (pss_one (ps_expr (pe_bm PySem.F.plainAttrs_list PySem.F.slot_list_append PySem.F.type_list_append mt_append (pv 1) (pa_cons (pe_tup (pa_cons pe_str (pa_cons (pe_fldE (pv 0)) pa_nil))) pa_nil)))) pss_nil)
      (pss_cons (ps_if (pt_val (pe_callB (r := rIsV K) call_isV (by rfl) T.b_isinstance (by decide +kernel) (pa_cons (pv 0) (pa_cons (pe_glob (v := .ref T.C_BadDenominator) (by rfl) T.g_BadDenominator rfl) pa_nil)))) (pss_one (ps_expr (pe_bm PySem.F.plainAttrs_list PySem.F.slot_list_append PySem.F.type_list_append mt_append (pv 1) (pa_cons (pe_tup (pa_cons pe_str (pa_cons (pe_fldE (pv 0)) pa_nil))) pa_nil)))) pss_nil)
      (pss_cons (ps_if (pt_val (pe_callB (r := rIsV K) call_isV (by rfl) T.b_isinstance (by decide +kernel) (pa_cons (pv 0) (pa_cons (pe_glob (v := .ref T.C_BadFraction) (by rfl) T.g_BadFraction rfl) pa_nil)))) (pss_one (ps_expr (pe_bm PySem.F.plainAttrs_list PySem.F.slot_list_append PySem.F.type_list_append mt_append (pv 1) (pa_cons (pe_tup (pa_cons pe_str (pa_cons (pe_fldE (pv 0)) pa_nil))) pa_nil)))) pss_nil)
      (pss_cons (ps_if (pt_val (pe_callB (r := rIsV K) call_isV (by rfl) T.b_isinstance (by decide +kernel) (pa_cons (pv 0) (pa_cons (pe_glob (v := .ref T.C_BadDigits) (by rfl) T.g_BadDigits rfl) pa_nil)))) (pss_one (ps_expr (pe_bm PySem.F.plainAttrs_list PySem.F.slot_list_append PySem.F.type_list_append mt_append (pv 1) (pa_cons (pe_tup (pa_cons pe_str (pa_cons (pe_fldE (pv 0)) pa_nil))) pa_nil)))) pss_nil)
      (pss_cons (ps_if (pt_val (pe_callB (r := rIsV K) call_isV (by rfl) T.b_isinstance (by decide +kernel) (pa_cons (pv 0) (pa_cons (pe_glob (v := .ref T.C_BadNumber) (by rfl) T.g_BadNumber rfl) pa_nil)))) (pss_one (ps_expr (pe_bm PySem.F.plainAttrs_list PySem.F.slot_list_append PySem.F.type_list_append mt_append (pv 1) (pa_cons (pe_tup (pa_cons pe_str (pa_cons (pe_fldE (pv 0)) pa_nil))) pa_nil)))) pss_nil)
      (pss_cons (ps_if (pt_val (pe_callB (r := rIsV K) call_isV (by rfl) T.b_isinstance (by decide +kernel) (pa_cons (pv 0) (pa_cons (pe_glob (v := .ref T.C_BadPaper) (by rfl) T.g_BadPaper rfl) pa_nil)))) (pss_one (ps_expr (pe_bm PySem.F.plainAttrs_list PySem.F.slot_list_append PySem.F.type_list_append mt_append (pv 1) (pa_cons (pe_tup (pa_cons pe_str (pa_cons (pe_fldE (pv 0)) pa_nil))) pa_nil)))) pss_nil)
      (pss_cons (ps_if (pt_val (pe_callB (r := rIsV K) call_isV (by rfl) T.b_isinstance (by decide +kernel) (pa_cons (pv 0) (pa_cons (pe_glob (v := .ref T.C_BadText) (by rfl) T.g_BadText rfl) pa_nil)))) (pss_one (ps_expr (pe_bm PySem.F.plainAttrs_list PySem.F.slot_list_append PySem.F.type_list_append mt_append (pv 1) (pa_cons (pe_tup (pa_cons pe_str (pa_cons (pe_fldE (pv 0)) pa_nil))) pa_nil)))) pss_nil)
      (pss_cons (ps_if (pt_val (pe_callB (r := rIsV K) call_isV (by rfl) T.b_isinstance (by decide +kernel) (pa_cons (pv 0) (pa_cons (pe_glob (v := .ref T.C_TooGreat) (by rfl) T.g_TooGreat rfl) pa_nil)))) (pss_one (ps_expr (pe_bm PySem.F.plainAttrs_list PySem.F.slot_list_append PySem.F.type_list_append mt_append (pv 1) (pa_cons (pe_tup (pa_cons pe_str (pa_cons (pe_fldE (pv 0)) pa_nil))) pa_nil)))) pss_nil)
      (pss_cons (ps_if (pt_val (pe_callB (r := rIsV K) call_isV (by rfl) T.b_isinstance (by decide +kernel) (pa_cons (pv 0) (pa_cons (pe_glob (v := .ref T.C_Nothing) (by rfl) T.g_Nothing rfl) pa_nil)))) (pss_one (ps_expr (pe_bm PySem.F.plainAttrs_list PySem.F.slot_list_append PySem.F.type_list_append mt_append (pv 1) (pa_cons (pe_tup (pa_cons pe_str (pa_cons (pe_fldE (pv 0)) pa_nil))) pa_nil)))) pss_nil)
      (pss_one (ps_ret (pe_ifExp (pt_cmpR op_eq (pe_callB (r := rLn K) call_ln (by rfl) T.b_len PySem.boot_len (pa_cons (pv 1) pa_nil)) pe_int (nomark _)) (pe_ix (r := rIxL K) ix_list (pv 1) pe_int (fun _ _ => rfl)) (pe_tup (pa_cons pe_str (pa_cons pe_non pa_nil)))))))))))))))), ?_⟩
    obtain ⟨a, C, d, f, w, v, rfl, hc, ha, hd, q⟩ := h
    unfold errs at hc
    simp only [List.mem_cons, List.not_mem_nil, or_false, Prod.mk.injEq] at hc
    rcases hc with hc
    · obtain ⟨rfl, rfl, rfl⟩ := hc
      refine ⟨Nat.zero_le _, fun l nl => ?_⟩
      have gl : Gr [] H (upd H l (.lst [])) := Gr.new nl
      have hl : (upd H l (.lst [])) l = some (.lst []) := upd_same
      have ha1 := gl a _ (by simp) ha
      have hd1 := gl d _ (by simp) hd
      have nl0 : H l = none := nl
      generalize upd H l (.lst []) = H1 at gl hl ha1 hd1 ⊢
      refine ⟨_, rfl, a, T.C_Nothing, d, _, .ref T.C_BadBase, _, _, rfl, T.is_Nothing, ha1, hd1, (fun u z => z), T.kit_Nothing_BadBase, _, rfl, iteF ?_⟩
      refine ⟨_, rfl, a, T.C_Nothing, d, _, .ref T.C_BadDenominator, _, _, rfl, T.is_Nothing, ha1, hd1, (fun u z => z), T.kit_Nothing_BadDenominator, _, rfl, iteF ?_⟩
      refine ⟨_, rfl, a, T.C_Nothing, d, _, .ref T.C_BadFraction, _, _, rfl, T.is_Nothing, ha1, hd1, (fun u z => z), T.kit_Nothing_BadFraction, _, rfl, iteF ?_⟩
      refine ⟨_, rfl, a, T.C_Nothing, d, _, .ref T.C_BadDigits, _, _, rfl, T.is_Nothing, ha1, hd1, (fun u z => z), T.kit_Nothing_BadDigits, _, rfl, iteF ?_⟩
      refine ⟨_, rfl, a, T.C_Nothing, d, _, .ref T.C_BadNumber, _, _, rfl, T.is_Nothing, ha1, hd1, (fun u z => z), T.kit_Nothing_BadNumber, _, rfl, iteF ?_⟩
      refine ⟨_, rfl, a, T.C_Nothing, d, _, .ref T.C_BadPaper, _, _, rfl, T.is_Nothing, ha1, hd1, (fun u z => z), T.kit_Nothing_BadPaper, _, rfl, iteF ?_⟩
      refine ⟨_, rfl, a, T.C_Nothing, d, _, .ref T.C_BadText, _, _, rfl, T.is_Nothing, ha1, hd1, (fun u z => z), T.kit_Nothing_BadText, _, rfl, iteF ?_⟩
      refine ⟨_, rfl, a, T.C_Nothing, d, _, .ref T.C_TooGreat, _, _, rfl, T.is_Nothing, ha1, hd1, (fun u z => z), T.kit_Nothing_TooGreat, _, rfl, iteF ?_⟩
      refine ⟨_, rfl, a, T.C_Nothing, d, _, .ref T.C_Nothing, _, _, rfl, T.is_Nothing, ha1, hd1, (fun u z => z), T.kit_Nothing_Nothing, _, rfl, iteT ?_⟩
      refine ⟨_, rfl, .inl ⟨rfl, _, sq_lst hl⟩, _, rfl, a, T.C_Nothing, d, _, v, rfl, T.T_Nothing.xf, T.T_Nothing.no, ha1, hd1, lookup_one _ _, ?_⟩
      refine ⟨by show 2 ≤ sizeLine; decide, fun p np => ?_⟩
      have g2 : Gr [] H1 (upd H1 p (.tup [.str "nothing", v])) := Gr.new np
      have hp := upd_same (H := H1) (a := p) (o := .tup [.str "nothing", v])
      have hl2 := g2 l _ (by simp) hl
      have ha2 := g2 a _ (by simp) ha1
      have hd2 := g2 d _ (by simp) hd1
      generalize upd H1 p (.tup [.str "nothing", v]) = H2 at g2 hp hl2 ha2 hd2 ⊢
      refine ⟨l, _, _, rfl, rfl, hl2, by show 0 < sizeLine; decide, ?_⟩
      have gA : Gr [] H (upd H2 l (.lst ([] ++ [.ref p]))) := fun u o _ e => by
        rw [upd_ne (ne_of_none e nl0)]
        exact g2 u o (by simp) (gl u o (by simp) e)
      have hl3 : (upd H2 l (.lst ([] ++ [.ref p]))) l = some (.lst [.ref p]) := upd_same
      have hp3 : (upd H2 l (.lst ([] ++ [.ref p]))) p = some (.tup [.str "nothing", v]) := by
        rw [upd_ne (ne_of hp hl2 (by intro z; cases z))]
        exact hp
      have ha2 := gA a _ (by simp) ha
      have hd2 := gA d _ (by simp) hd
      generalize upd H2 l (.lst ([] ++ [.ref p])) = H3 at gA hl3 hp3 ha2 hd2 ⊢
      refine ⟨_, rfl, l, _, rfl, .inl (sq_lst hl3), rfl, _, rfl, iteT ?_⟩
      exact ⟨_, rfl, l, _, _, .ref p, rfl, rfl, sq_lst hl3, atI_nat (j := 0) rfl, q p _ gA hp3⟩

/-- what comes of _law_outcome(lambda: e) -/
abbrev TTout (T : Txt K mg) : (XK → Hp → VK → Prop) → Hp → VK → Prop := TTg (errs T)
theorem exm_ok (T : Txt K mg) {C : Addr} {f w : Str} (h : (C, f, w) ∈ errs T) : PySem.W.exmAny K (.ref C) [.ref T.C_WheelError, .ref T.C_Nothing, .ref T.C_TooGreat] = some true := by
  unfold errs at h
  simp only [List.mem_cons, List.not_mem_nil, or_false, Prod.mk.injEq] at h
  rcases h with ⟨rfl, _, _⟩
  · exact T.exm_Nothing
theorem gives_out {X : Cx} (T : Txt K mg) (hK : X.K = K) (hm : X.mg = mg) {q : Str} : Gives X ["call", "found", "error", "e"] "_law_outcome" (defScope s_law_outcome) T.d_law_outcome.f T.d_law_outcome.fd.code (defBody s_law_outcome) "call" q (TTout T) := by
  subst hK hm
  intro f c' s H Q tl hr act hc h
  have hu := hu_of hr
  refine ⟨_, (pss_cons (ps_asg (pe_tup (pa_cons pe_non (pa_cons pe_non pa_nil))) (pg_tup (by rfl) (pgs_cons (pg_name (i := 1) sc_law_outcome.nd rfl (by first | exact .inl rfl | exact .inr rfl)) (pgs_cons (pg_name (i := 2) sc_law_outcome.nd rfl (by first | exact .inl rfl | exact .inr rfl)) pgs_nil))))
      (pss_cons (ps_try_keep (i := 3) (j := 2) rfl rfl sc_law_outcome.nd rfl rfl (by decide) rfl rfl (names3 T rfl rfl rfl rfl) (fun W pn xe tk _ => pss_one (ps_set (i := 1) sc_law_outcome.nd rfl (by first | exact .inl rfl | exact .inr rfl) (act W pn xe _ _ tk))))
      (pss_one (ps_ret (pe_ifExp (pt_cmpR op_isN (pv 2) pe_non (nomark _)) (pe_lst (pa_cons (pv 1) pa_nil)) (pe_call (ok_law_word T) (hr.mono (by decide)) (by rfl) T.d_law_word.m T.d_law_word.F.kp T.d_law_word.b .nil pass0 (pa_cons (pv 2) pa_nil))))))), ?_⟩
  refine ⟨by show 2 ≤ sizeLine; decide, fun p np => ?_⟩
  refine ⟨p, _, rfl, sq_tup upd_same, rfl, _, _, rfl, _, _, rfl, rfl, ?_⟩
  have g1 : Gr [] H (upd H p (.tup [.non, .non])) := Gr.new np
  generalize upd H p (.tup [.non, .non]) = H1 at g1 ⊢
  refine ⟨rfl, g1 c' _ (by simp) hc, fun cls d H3 => ∃ (C dd : Addr) (f w : Str) (v : V), cls = .ref C ∧ d = some dd ∧ (C, f, w) ∈ errs T ∧ H3 dd = some (.xd [(f, v)]) ∧ ∀ t H4, Gr [] H3 H4 → H4 t = some (.tup [.str w, v]) → Q (.ref t) H4, ?_, ?_⟩
  · rintro cls d H3 ⟨C, dd, f, w, v, rfl, rfl, he, hx, k⟩
    refine ⟨exm_ok T he, fun a na => ?_⟩
    refine ⟨_, rfl, rfl, _, rfl, iteFb (decide_eq_false (by intro z; cases z)) ?_⟩
    refine ⟨_, rfl, a, C, dd, f, w, v, rfl, he, upd_same, ?_, fun t H4 g4 h4 => k t H4 ((Gr.new na).trans g4) h4⟩
    rw [upd_ne (ne_of_none hx na)]
    exact hx
  · refine h H1 _ _ g1 (fun v H3 k => ?_) (fun C d f w v H3 he hx k => ⟨C, d, f, w, v, rfl, rfl, he, hx, k⟩)
    refine ⟨_, rfl, rfl, _, rfl, iteTb rfl ?_⟩
    exact ⟨_, rfl, by show 1 ≤ sizeLine; decide, fun l nl => k l nl⟩

end
end Wn
namespace Wn
open PySem PySem.Spec PyProof.Rows L2
open LamX (Tabs ExtN tLam)
local macro_rules | `(tactic| walk_at "vc") => `(tactic| simp only [cxK, cxK2, start1, start2, start3, tRet, tRetN, tSeq, tNext, tIfS, tAsg, gName, tDrop, tVar, tC, tOp, tUn, tTest, tB, tNot, tAnd, tOr, tAndV, tOrV, tNotV, tIf, tCons, tNil, tCB, tCall, tChain, tAug, ipI, rI, rI0, rU, rIs, rGcd, rEq, rNe, scal,
  List.getElem?_cons_zero, List.getElem?_cons_succ, List.set_cons_zero, List.set_cons_succ, Option.some.injEq, List.cons.injEq, V.int.injEq, V.bl.injEq, V.ref.injEq, V.str.injEq, and_true, true_and, exists_eq_left, exists_eq_left', exists_and_left, exists_and_right, List.append_nil, List.nil_append, List.cons_append, exists_eq_right, exists_eq_right', and_assoc, exists_const, V.ty.injEq, ↓reduceIte, Bool.false_eq_true, Bool.not_true, Bool.not_false, decide_eq_true_eq])

section
variable {P : Program} {w : World} {K : PySem.W.Frag} {mg : Str → Option Value} {base : Heap}

theorem sq_step (r s l n : Nat) : (r * s ^ l) % n = if l % 2 = 1 then ((r * s % n) * (s * s % n) ^ (l / 2)) % n else (r * (s * s % n) ^ (l / 2)) % n := by
  have e : ∀ a, (a * (s * s % n) ^ (l / 2)) % n = (a * (s * s) ^ (l / 2)) % n := fun a => by
    rw [Nat.mul_mod, ← Nat.pow_mod, ← Nat.mul_mod]
  split
  · rename_i h
    have hl : l = 2 * (l / 2) + 1 := by omega
    rw [e, Nat.mod_mul_mod]
    conv => lhs; rw [hl]
    rw [Nat.pow_succ, Nat.pow_mul, Nat.pow_two, Nat.mul_comm ((s * s) ^ (l / 2)) s, Nat.mul_assoc]
  · rename_i h
    have hl : l = 2 * (l / 2) := by omega
    rw [e]
    conv => lhs; rw [hl]
    rw [Nat.pow_mul, Nat.pow_two]
def sp_power_rest : Sp := fun vs H Q _ => ∃ b e n : Nat, vs = [.int b, .int e, .int n] ∧ (1 ≤ n ∧ n ≤ 5000) ∧ Q (.int (b ^ e % n : Nat)) H
theorem ok_power_rest (T : Txt K mg) : FnOk P w K mg base CX0 1 T.d_power_rest.f T.d_power_rest.fd ["number", "exponent", "divisor"] sp_power_rest := by
  refine T.d_power_rest.F.ok sc_power_rest (fun vs H Q E h => ?_) (fun cdv A outer s H vs Q E hr h => ?_)
  · obtain ⟨b, e, n, rfl, _⟩ := h; rfl
  · have hu := hu_of hr
    refine ⟨_, (pss_cons (ps_set (i := 3) sc_power_rest.nd rfl (by first | exact .inl rfl | exact .inr rfl) (pe_op op_mod pe_int (pv 2)))
      (pss_cons (ps_set (i := 4) sc_power_rest.nd rfl (by first | exact .inl rfl | exact .inr rfl) (pe_op op_mod (pv 0) (pv 2)))
      (pss_cons (ps_set (i := 5) sc_power_rest.nd rfl (by first | exact .inl rfl | exact .inr rfl) (pv 1))
      (pss_cons (ps_while PassesOwn.never (pt_cmpR op_gt (pv 5) pe_int (nomark _)) (pss_cons (ps_if (pt_cmpR op_eq (pe_op op_mod (pv 5) pe_int) pe_int (nomark _)) (pss_one (ps_set (i := 3) sc_power_rest.nd rfl (by first | exact .inl rfl | exact .inr rfl) (pe_op op_mod (pe_op op_mul (pv 3) (pv 4)) (pv 2)))) pss_nil)
      (pss_cons (ps_set (i := 4) sc_power_rest.nd rfl (by first | exact .inl rfl | exact .inr rfl) (pe_op op_mod (pe_op op_mul (pv 4) (pv 4)) (pv 2)))
      (pss_one (ps_set (i := 5) sc_power_rest.nd rfl (by first | exact .inl rfl | exact .inr rfl) (pe_op op_fdiv (pv 5) pe_int))))))
      (pss_one (ps_ret (pv 3))))))), ?_⟩
    obtain ⟨b, e, n, rfl, ⟨hn1, hn2⟩, q⟩ := h
    have hn0 : (0 : Int) < (n : Int) := by omega
    have e1 : (1 : Int) % (n : Int) = ((1 % n : Nat) : Int) := by rw [Int.natCast_emod]; rfl
    refine ⟨_, rfl, 1, n, rfl, rfl, hn0, ?_⟩
    refine ⟨_, rfl, _, rfl, b, n, rfl, rfl, hn0, ?_⟩
    refine ⟨_, rfl, ?_⟩
    refine ⟨fun m σ H' => H' = H ∧ ∃ r s : Nat, r < n ∧ s < n ∧ r * s ^ m % n = b ^ e % n ∧ σ = [some (.int b), some (.int e), some (.int n), some (.int r), some (.int s), some (.int m)], ⟨e, rfl, 1 % n, b % n, Nat.mod_lt _ hn1, Nat.mod_lt _ hn1, ?_, ?_⟩, ?_⟩
    · rw [Nat.mod_mul_mod, Nat.one_mul, ← Nat.pow_mod]
    · rw [← e1, Int.natCast_emod]
      rfl
    rintro m σ H' ⟨rfl, r, s, hr1, hs1, hrs, rfl⟩
    refine ⟨_, rfl, _, _, rfl, rfl, _, rfl, ?_⟩
    by_cases hc : (0 : Int) < (m : Int)
    · rw [decide_eq_true hc]
      have st := sq_step r s m n
      have e2 : (m : Int) % 2 = ((m % 2 : Nat) : Int) := by omega
      have e3 : (m : Int) / 2 = ((m / 2 : Nat) : Int) := by omega
      refine iteT ⟨fun σ' H2 => H2 = H' ∧ ∃ r s : Nat, r < n ∧ s < n ∧ r * s ^ (m / 2) % n = b ^ e % n ∧ σ' = [some (.int b), some (.int e), some (.int n), some (.int r), some (.int s), some (.int (m / 2 : Nat))], ?_, ?_⟩
      · rintro σ' H2 ⟨rfl, r', s', h1, h2, h3, rfl⟩
        exact ⟨m / 2, by omega, rfl, r', s', h1, h2, h3, rfl⟩
      · refine ⟨_, rfl, _, _, rfl, rfl, (by show (0 : Int) < 2; decide), rfl, _, rfl, ?_⟩
        by_cases ho : m % 2 = 1
        · rw [decide_eq_true (show V.int ((m : Int) % 2) = V.int 1 by rw [e2, ho]; rfl)]
          rw [if_pos ho] at st
          refine iteT ⟨_, rfl, _, rfl, _, _, rfl, rfl, .inl ⟨by omega, by omega⟩, _, rfl, _, _, rfl, rfl, hn0, ?_⟩
          refine ⟨_, rfl, _, rfl, _, _, rfl, rfl, .inl ⟨by omega, by omega⟩, _, rfl, _, _, rfl, rfl, hn0, ?_⟩
          refine ⟨_, rfl, _, _, rfl, rfl, ⟨by decide, by decide⟩, rfl, r * s % n, s * s % n, Nat.mod_lt _ hn1, Nat.mod_lt _ hn1, st.symm.trans hrs, ?_⟩
          dsimp only
          rw [icm, icm, e3]
          rfl
        · rw [decide_eq_false (show ¬ V.int ((m : Int) % 2) = V.int 1 from fun z => ho (by have := V.int.inj z; omega))]
          rw [if_neg ho] at st
          refine iteF ?_
          refine ⟨_, rfl, _, rfl, _, _, rfl, rfl, .inl ⟨by omega, by omega⟩, _, rfl, _, _, rfl, rfl, hn0, ?_⟩
          refine ⟨_, rfl, _, _, rfl, rfl, ⟨by decide, by decide⟩, rfl, r, s * s % n, hr1, Nat.mod_lt _ hn1, st.symm.trans hrs, ?_⟩
          dsimp only
          rw [icm, e3]
          rfl
    · rw [decide_eq_false hc]
      refine iteF ⟨_, rfl, ?_⟩
      have z : m = 0 := by omega
      subst z
      rw [Nat.pow_zero, Nat.mul_one, Nat.mod_eq_of_lt hr1] at hrs
      rw [← hrs] at q
      exact q

def FR (b x n : Nat) : Prop := BN b n ∧ x < n ∧ Nat.gcd x n = 1
def sp_remainder_at : Sp := fun vs H Q _ => ∃ (b x n k : Nat) (a : Addr), vs = [.int b, .ref a, .int k] ∧ H a = some (.tup [.int x, .int n]) ∧ FR b x n ∧ k ≤ 10 ^ 30 ∧ Q (.int (rem b n x k : Nat)) H

def sp_digit_at : Sp := fun vs H Q _ => ∃ (b x n k : Nat) (a : Addr), vs = [.int b, .ref a, .int k] ∧ H a = some (.tup [.int x, .int n]) ∧ FR b x n ∧ k ≤ 10 ^ 30 ∧ Q (.int (rem b n x k * b / n : Nat)) H

def sp_digits_from : Sp := fun vs H Q _ => ∃ (b x n k c : Nat) (a : Addr), vs = [.int b, .ref a, .int k, .int c] ∧ H a = some (.tup [.int x, .int n]) ∧ FR b x n ∧ (k ≤ 10 ^ 30 ∧ c ≤ 400) ∧
  ∀ t H', Gr [] H H' → H' t = some (.tup (dgf b n x k c)) → Q (.ref t) H'
theorem rem_add (b n x i j : Nat) : rem b n (rem b n x i) j = rem b n x (i + j) := by
  unfold rem
  rw [Nat.mod_mul_mod, Nat.mul_assoc, ← Nat.pow_add]
theorem dgs_dgf (b n x k c : Nat) : dgs b n (rem b n x k) c = dgf b n x k c := by
  unfold dgs dgf
  simp only [rem_add]

def sp_law_pure : Sp := fun vs H Q _ => ∃ (d : Addr) (b most n : Nat), vs = [.ref d, .int b, .int most] ∧ MOk H d n ∧ (2 ≤ b ∧ b ≤ 1000 ∧ 1 ≤ most ∧ most ≤ 3000 ∧ n ≤ 1000000000) ∧
  ∀ (r k : Nat) H', r < most → 2 + r ≤ k → (∀ t, 2 + r ≤ t → Nat.gcd b t = 1 → k ≤ t) → Nat.gcd b k = 1 → Gr [d] H H' → MOk H' d (n + 1) → Q (.int k) H'
theorem ok_law_pure (T : Txt K mg) : FnOk P w K mg base CX0 2 T.d_law_pure.f T.d_law_pure.fd ["m", "b", "most"] sp_law_pure := by
  refine T.d_law_pure.F.ok sc_law_pure (fun vs H Q E h => ?_) (fun cdv A outer s H vs Q E hr h => ?_)
  · obtain ⟨d, b, most, n, rfl, _⟩ := h; rfl
  · have hu := hu_of hr
    refine ⟨_, (pss_cons (ps_set (i := 3) sc_law_pure.nd rfl (by first | exact .inl rfl | exact .inr rfl) (pe_op op_add pe_int (pe_call (ok_law_draw T) (hr.mono (by decide)) (by rfl) T.d_law_draw.m T.d_law_draw.F.kp T.d_law_draw.b .nil pass0 (pa_cons (pv 0) (pa_cons (pv 2) pa_nil)))))
      (pss_cons (ps_while PassesOwn.never (pt_cmpR op_ne (pe_call (ok_law_divisor T) (hr.mono (by decide)) (by rfl) T.d_law_divisor.m T.d_law_divisor.F.kp T.d_law_divisor.b .nil pass0 (pa_cons (pv 3) (pa_cons (pv 1) pa_nil))) pe_int (nomark _)) (pss_one (ps_set (i := 3) sc_law_pure.nd rfl (by first | exact .inl rfl | exact .inr rfl) (pe_op op_add (pv 3) pe_int))))
      (pss_one (ps_ret (pv 3))))), ?_⟩
    obtain ⟨d, b, most, n, rfl, M, ⟨hb, hb2, h1, h2, h3⟩, q⟩ := h
    refine ⟨_, rfl, _, rfl, d, most, n, rfl, M, ⟨h1, by omega, by omega⟩, fun r1 H1 hr1 g1 M1 => ?_⟩
    refine ⟨2, r1, rfl, rfl, ?_⟩
    have e1 : (2 : Int) + (r1 : Int) = ((2 + r1 : Nat) : Int) := by omega
    dsimp only
    rw [e1]
    generalize hk : 2 + r1 = k
    obtain ⟨top, hT⟩ : ∃ top, top = b * (k / b + 1) + 1 := ⟨_, rfl⟩
    have hdm := Nat.div_add_mod k b
    have hml := Nat.mod_lt k (show b > 0 by omega)
    have hT1 : k < top := by rw [hT, Nat.mul_add]; omega
    have hT2 : top ≤ k + b + 1 := by rw [hT, Nat.mul_add]; omega
    have hTg : Nat.gcd b top = 1 := by
      rw [hT]
      simp
    refine ⟨fun m σ H' => H' = H1 ∧ ∃ y : Nat, m = top - y ∧ (k ≤ y ∧ ∀ t, k ≤ t → Nat.gcd b t = 1 → y ≤ t) ∧ y ≤ top ∧ σ = [some (.ref d), some (.int b), some (.int most), some (.int y)], ⟨top - k, rfl, k, rfl, ⟨by omega, fun t ht _ => ht⟩, by omega, rfl⟩, ?_⟩
    rintro m σ H' ⟨rfl, y, rfl, hy, hyT, rfl⟩
    refine ⟨_, rfl, _, rfl, y, b, rfl, rfl, _, rfl, ?_⟩
    by_cases hc : Nat.gcd y b = 1
    · rw [show (!decide (V.int ((Nat.gcd y b : Nat) : Int) = V.int 1)) = false by rw [hc]; rfl]
      refine iteF ⟨_, rfl, ?_⟩
      exact q r1 y _ hr1 (by omega) (fun t ht hg => hy.2 t (by omega) hg) (by rw [Nat.gcd_comm]; exact hc) g1 M1
    · rw [show (!decide (V.int ((Nat.gcd y b : Nat) : Int) = V.int 1)) = true by rw [decide_eq_false (fun z => hc (by have := V.int.inj z; omega))]; rfl]
      have hyk : y < top := by
        rcases Nat.lt_or_eq_of_le hyT with l | l
        · exact l
        · subst l
          exact absurd (by rw [Nat.gcd_comm]; exact hTg) hc
      refine iteT ⟨fun σ' H3 => H3 = H' ∧ σ' = [some (.ref d), some (.int b), some (.int most), some (.int (y + 1 : Nat))], ?_, ?_⟩
      · rintro σ' H3 ⟨rfl, rfl⟩
        refine ⟨top - (y + 1), by omega, rfl, y + 1, rfl, ⟨by omega, fun t ht hg => ?_⟩, by omega, rfl⟩
        have := hy.2 t ht hg
        rcases Nat.lt_or_eq_of_le this with l | l
        · exact l
        · subst l
          exact absurd (by rw [Nat.gcd_comm]; exact hg) hc
      · exact ⟨_, rfl, _, _, rfl, rfl, rfl, rfl⟩

theorem small5 {k : Nat} (h : k ≤ 5000) : k < sizeLine := Nat.lt_of_lt_of_le (show _ < 6000 by omega) (by decide)
def sp_need_pure : Sp := fun vs H Q _ => ∃ b n : Nat, vs = [.int b, .int n] ∧ BN b n ∧ Nat.gcd b n = 1 ∧ Q (.int n) H
theorem ok_need_pure (T : Txt K mg) : FnOk P w K mg base CX0 4 T.d_need_pure.f T.d_need_pure.fd ["base", "denominator"] sp_need_pure := by
  refine T.d_need_pure.F.ok sc_need_pure (fun vs H Q E h => ?_) (fun cdv A outer s H vs Q E hr h => ?_)
  · obtain ⟨b, n, rfl, _⟩ := h; rfl
  · have hu := hu_of hr
    refine ⟨_, (pss_cons (ps_expr (pe_call (ok_need_base T) (hr.mono (by decide)) (by rfl) T.d_need_base.m T.d_need_base.F.kp T.d_need_base.b .nil pass0 (pa_cons (pv 0) pa_nil)))
      (pss_cons (ps_expr (pe_call (ok_need_denominator T) (hr.mono (by decide)) (by rfl) T.d_need_denominator.m T.d_need_denominator.F.kp T.d_need_denominator.b .nil pass0 (pa_cons (pv 1) pa_nil)))
      (pss_cons (ps_if (pt_cmpR op_ne (pe_callBfun cr_gcd (by rfl) T.b_gcd (pa_cons (pv 0) (pa_cons (pv 1) pa_nil))) pe_int (nomark _)) (pss_one ps_never) pss_nil)
      (pss_one (ps_ret (pv 1)))))), ?_⟩
    obtain ⟨b, n, rfl, ⟨hb1, hb2, hn1, hn2⟩, hg, q⟩ := h
    refine ⟨_, rfl, b, rfl, ⟨by omega, by omega⟩, ?_⟩
    refine ⟨_, rfl, n, rfl, ⟨by omega, by omega⟩, ?_⟩
    refine ⟨_, rfl, _, rfl, b, n, rfl, rfl, _, rfl, ?_⟩
    have e : (!decide (V.int ((Nat.gcd (b : Int).natAbs (n : Int).natAbs : Nat) : Int) = V.int 1)) = false := by
      rw [Int.natAbs_natCast, Int.natAbs_natCast, hg]
      rfl
    rw [e]
    exact iteF ⟨_, rfl, q⟩

def spc (b n x s c : Nat) : List Nat := (List.range c).map fun i => rem b n x (s * i)
theorem spc_len (b n x s c : Nat) : (spc b n x s c).length = c := by simp [spc]
def sp_spaced : Sp := fun vs H Q _ => ∃ (b x n s c : Nat) (a : Addr), vs = [.int b, .ref a, .int s, .int c] ∧ H a = some (.tup [.int x, .int n]) ∧ (1 ≤ n ∧ n ≤ 5000 ∧ x < n ∧ c ≤ 5000) ∧
  ∀ t H', Gr [] H H' → H' t = some (.tup (vn (spc b n x s c))) → Q (.ref t) H'
theorem ok_spaced (T : Txt K mg) : FnOk P w K mg base CX0 2 T.d_spaced.f T.d_spaced.fd ["base", "fraction", "size", "count"] sp_spaced := by
  refine T.d_spaced.F.ok sc_spaced (fun vs H Q E h => ?_) (fun cdv A outer s H vs Q E hr h => ?_)
  · obtain ⟨b, x, n, s, c, a, rfl, _⟩ := h; rfl
  · have hu := hu_of hr
    refine ⟨_, (pss_cons (ps_asg (pv 1) (pg_tup (by rfl) (pgs_cons (pg_name (i := 4) sc_spaced.nd rfl (by first | exact .inl rfl | exact .inr rfl)) (pgs_cons (pg_name (i := 5) sc_spaced.nd rfl (by first | exact .inl rfl | exact .inr rfl)) pgs_nil))))
      (pss_cons (ps_set (i := 6) sc_spaced.nd rfl (by first | exact .inl rfl | exact .inr rfl) (pe_call (ok_power_rest T) (hr.mono (by decide)) (by rfl) T.d_power_rest.m T.d_power_rest.F.kp T.d_power_rest.b .nil pass0 (pa_cons (pv 0) (pa_cons (pv 2) (pa_cons (pv 5) pa_nil)))))
      (pss_cons (ps_set (i := 7) sc_spaced.nd rfl (by first | exact .inl rfl | exact .inr rfl) (pe_lst pa_nil))
      (pss_cons (ps_set (i := 8) sc_spaced.nd rfl (by first | exact .inl rfl | exact .inr rfl) (pv 4))
      (pss_cons (ps_for PassesOwn.never rfl (pi_range1 (by rfl) T.b_range (pa_cons (pv 3) pa_nil)) (pg_name (i := 9) sc_spaced.nd rfl (by first | exact .inl rfl | exact .inr rfl)) (pss_cons (ps_expr (pe_bm PySem.F.plainAttrs_list PySem.F.slot_list_append PySem.F.type_list_append mt_append (pv 7) (pa_cons (pv 8) pa_nil)))
      (pss_one (ps_set (i := 8) sc_spaced.nd rfl (by first | exact .inl rfl | exact .inr rfl) (pe_op op_mod (pe_op op_mul (pv 8) (pv 6)) (pv 5))))))
      (pss_one (ps_ret (pe_callTy (r := rTpO K) call_tpO (by rfl) T.b_tuple (by decide +kernel) (pa_cons (pv 7) pa_nil))))))))), ?_⟩
    obtain ⟨b, x, n, s, c, a, rfl, ha, ⟨hn1, hn2, hx, hc⟩, q⟩ := h
    refine ⟨_, rfl, a, _, rfl, sq_tup ha, rfl, _, _, rfl, _, _, rfl, rfl, ?_⟩
    refine ⟨_, rfl, _, rfl, _, rfl, b, s, n, rfl, ⟨hn1, hn2⟩, ?_⟩
    refine ⟨Nat.zero_le _, fun l nl => ?_⟩
    refine ⟨_, rfl, ?_⟩
    refine ⟨_, rfl, (c : Int), rfl, by omega, by omega, ?_⟩
    have hl : b ^ s % n < n := Nat.mod_lt _ hn1
    refine for_range (lo := 0) (n := (c : Int).toNat) (fun i σ H' => Gr [] H H' ∧ H' l = some (.lst (vn (spc b n x s i))) ∧ ∃ v, σ = [some (.int b), some (.ref a), some (.int s), some (.int c), some (.int x), some (.int n), some (.int (b ^ s % n : Nat)), some (.ref l), some (.int (rem b n x (s * i) : Nat)), v]) ⟨Gr.new nl, upd_same, none, ?_⟩ ?_ ?_
    · rw [Nat.mul_zero, rem_zero hx]
      rfl
    · rintro i σ H' hi ⟨G, hL, v, rfl⟩
      have hr1 := rem_lt (b := b) (n := n) (x := x) (i := s * i) hn1
      refine ⟨_, rfl, .inl ⟨rfl, _, sq_lst hL⟩, _, rfl, l, _, _, rfl, rfl, hL, by rw [vn_len, spc_len]; exact small5 (by omega), ?_⟩
      refine ⟨_, rfl, _, rfl, _, _, rfl, rfl, .inl ⟨by omega, by omega⟩, _, rfl, _, n, rfl, rfl, (show (0 : Int) < (n : Int) by omega), ?_⟩
      dsimp only
      rw [icm, show rem b n x (s * i) * (b ^ s % n) % n = rem b n x (s * (i + 1)) by unfold rem; rw [Nat.mul_mod_mod, Nat.mod_mul_mod, Nat.mul_assoc, ← Nat.pow_add, Nat.mul_succ]]
      refine ⟨fun u o _ e => ?_, ?_, _, rfl⟩
      · rw [upd_ne (ne_of_none e nl)]
        exact G u o (by simp) e
      · rw [upd_same, vn_snoc]
        unfold spc
        rw [List.range_succ, List.map_append]
        rfl
    rintro σ H2 ⟨G, hL, v, rfl⟩
    rw [Int.toNat_natCast] at hL
    refine ⟨_, rfl, l, _, rfl, .inl ⟨sq_lst hL, fun t nt => ?_⟩⟩
    exact q t _ (G.trans (Gr.new nt)) upd_same

def sp_is_balanced_with : Sp := fun vs H Q _ => ∃ b n s c : Nat, vs = [.int b, .int n, .int s, .int c] ∧ (2 ≤ n ∧ n ≤ 5000 ∧ c ≤ 5000) ∧ ∀ H', Gr [] H H' → Q (.bl (bal b n s c)) H'
theorem ok_is_balanced_with (T : Txt K mg) : FnOk P w K mg base CX0 3 T.d_is_balanced_with.f T.d_is_balanced_with.fd ["base", "denominator", "size", "cut"] sp_is_balanced_with := by
  refine T.d_is_balanced_with.F.ok sc_is_balanced_with (fun vs H Q E h => ?_) (fun cdv A outer s H vs Q E hr h => ?_)
  · obtain ⟨b, n, s, c, rfl, _⟩ := h; rfl
  · have hu := hu_of hr
    refine ⟨_, (pss_one (ps_ret (pe_cmpR op_eq (pe_op op_mod (pe_callB (r := rSumT K) (cr_sumT rfl) (by rfl) T.b_sum (by decide +kernel) (pa_cons (pe_call (ok_spaced T) (hr.mono (by decide)) (by rfl) T.d_spaced.m T.d_spaced.F.kp T.d_spaced.b .nil pass0 (pa_cons (pv 0) (pa_cons (pe_tup (pa_cons pe_int (pa_cons (pv 1) pa_nil))) (pa_cons (pv 2) (pa_cons (pv 3) pa_nil))))) pa_nil)) (pv 1)) pe_int (nomark _)))), ?_⟩
    obtain ⟨b, n, s, c, rfl, ⟨hn1, hn2, hc⟩, q⟩ := h
    refine ⟨_, rfl, _, rfl, by show 2 ≤ sizeLine; decide, fun p np => ?_⟩
    refine ⟨_, rfl, _, rfl, b, 1, n, s, c, p, rfl, upd_same, ⟨by omega, hn2, by omega, hc⟩, fun t H1 g1 h1 => ?_⟩
    refine ⟨t, ni (spc b n 1 s c), rfl, by rw [← vn_ni]; exact sq_tup h1, ?_⟩
    refine ⟨_, rfl, _, n, rfl, rfl, (show (0 : Int) < (n : Int) by omega), ?_⟩
    dsimp only
    rw [ni_sum]
    have e : decide (V.int ((((spc b n 1 s c).sum : Nat) : Int) % (n : Int)) = V.int 0) = bal b n s c := by
      unfold bal
      rw [← Int.natCast_emod]
      show _ = decide ((spc b n 1 s c).sum % n = 0)
      by_cases z : (spc b n 1 s c).sum % n = 0
      · rw [decide_eq_true z, z]
        rfl
      · rw [decide_eq_false z, decide_eq_false (fun y => z (by have := V.int.inj y; omega))]
    have fin := q _ ((Gr.new np).trans g1)
    rw [← e] at fin
    exact ⟨rfl, fin⟩

theorem due_le {b n L : Nat} (hL : 1 ≤ L) : (dueL b n L).length ≤ L := by
  unfold dueL splitsL
  refine Nat.le_trans (List.length_filter_le _ _) (Nat.le_trans (List.length_filter_le _ _) ?_)
  rw [from2_len]
  omega
theorem splits_le (L : Nat) : (splitsL L).length ≤ L - 1 := by
  unfold splitsL
  refine Nat.le_trans (List.length_filter_le _ _) ?_
  rw [from2_len]
  exact Nat.le_refl _
theorem per_pos {b n L : Nat} (h : IsPer b n L) : 1 ≤ L := h.1
theorem per_le {b n L : Nat} (hn : 1 ≤ n) (g : Nat.gcd b n = 1) (h : IsPer b n L) : L ≤ n := by
  obtain ⟨d, hd, hd'⟩ := per_exists hn g
  rw [h.uniq hd']
  exact hd
/-- a period of 2 or more is one of a denominator of 2 or more -/
theorem per_n {b n L : Nat} (hn : 1 ≤ n) (h : IsPer b n L) (h2 : 2 ≤ L) : 2 ≤ n := by
  rcases Nat.lt_or_ge n 2 with z | z
  · have : n = 1 := by omega
    subst this
    exact absurd (by rw [Nat.mod_one, Nat.mod_one]) (h.2.2 1 (Nat.le_refl _) h2)
  · exact z
def LB (b n L : Nat) : Prop := b ≤ 1000 ∧ 2 ≤ n ∧ n ≤ 5000 ∧ Nat.gcd b n = 1 ∧ IsPer b n L
theorem LB.par {b n p q h L d : Nat} (B : LB b n L) (P : Par b n p q h d) : p = n ∧ h = 0 ∧ d = L := by
  have ep := P.hp.uniq (IsPure.self B.2.2.2.1)
  subst ep
  have eq1 : q = 1 := by
    have := P.e
    have h2 := B.2.1
    have : p * 1 = p * q := by omega
    exact (Nat.eq_of_mul_eq_mul_left (by omega) this).symm
  subst eq1
  refine ⟨rfl, P.hh.uniq ⟨Nat.mod_one _, fun j hj => absurd hj (Nat.not_lt_zero _)⟩, P.hL.uniq B.2.2.2.2⟩
def sp_law_splits : Sp := fun vs H Q _ => ∃ b n L : Nat, vs = [.int b, .int n] ∧ LB b n L ∧ ∀ (t l : Addr) H', Gr [] H H' → H' t = some (.tup [.int (L : Nat), .ref l]) → H' l = some (.lst (vn (splitsL L))) → Q (.ref t) H'
theorem ok_law_splits (T : Txt K mg) : FnOk P w K mg base CX0 2 T.d_law_splits.f T.d_law_splits.fd ["b", "n"] sp_law_splits := by
  refine T.d_law_splits.F.ok sc_law_splits (fun vs H Q E h => ?_) (fun cdv A outer s H vs Q E hr h => ?_)
  · obtain ⟨b, n, L, rfl, _⟩ := h; rfl
  · have hu := hu_of hr
    refine ⟨_, (pss_cons (ps_set (i := 2) sc_law_splits.nd rfl (by first | exact .inl rfl | exact .inr rfl) (pe_callB (r := rLn K) call_ln (by rfl) T.b_len PySem.boot_len (pa_cons (pe_ix (r := rIxT K) ix_tup (pe_call (ok_law_ring T) (hr.mono (by decide)) (by rfl) T.d_law_ring.m T.d_law_ring.F.kp T.d_law_ring.b .nil pass0 (pa_cons (pv 0) (pa_cons (pe_tup (pa_cons pe_int (pa_cons (pv 1) pa_nil))) pa_nil))) pe_int (fun _ _ => rfl)) pa_nil)))
      (pss_one (ps_ret (pe_tup (pa_cons (pv 2) (pa_cons (pe_lc (own := [("cut", 3)]) (g := gName 3) (tt := _) rfl sc_law_splits.nd (pi_range2 (by rfl) T.b_range (pa_cons pe_int (pa_cons (pe_op op_add (pv 2) pe_int) pa_nil))) (blkOk_by (own := [("cut", 3)]) (N := ["b", "n", "size", "cut"]) (sc := defScope s_law_splits) (by decide +kernel)) (fun _ _ _ _ _ => (pg_name (i := 3) sc_law_splits.nd rfl (by first | exact .inl rfl | exact .inr rfl))) (fun _ _ _ _ _ => (pts_one (pt_cmpR op_eq (pe_op op_mod (pe_callTy call_int1 (by rfl) T.b_int (by decide +kernel) (pa_cons (pv 2) pa_nil)) (pv 3)) pe_int (nomark _)))) (fun _ _ _ _ _ => (pv 3))) pa_nil)))))), ?_⟩
    obtain ⟨b, n, L, rfl, B, q⟩ := h
    obtain ⟨hb2, hn1, hn2, hg, hP⟩ := id B
    have hL1 := hP.1
    have hLn := per_le (by omega) hg hP
    refine ⟨_, rfl, _, rfl, by show 2 ≤ sizeLine; decide, fun p np => ?_⟩
    refine ⟨b, 1, n, p, rfl, upd_same, ⟨hb2, hn2, by omega, by simp⟩, fun t r H1 p0 q0 h0 L0 P g1 ht hr1 => ?_⟩
    obtain ⟨rfl, rfl, rfl⟩ := B.par P
    refine ⟨t, _, _, .ref r, rfl, rfl, sq_tup ht, atI_nat (j := 0) rfl, r, _, rfl, .inl (sq_lst hr1), ?_⟩
    rw [rms_len, Nat.zero_add]
    refine ⟨_, rfl, _, rfl, _, _, rfl, rfl, 2, _, rfl, ⟨by omega, by omega, by omega, by omega⟩, fun D nD => ?_⟩
    have en : ((L0 : Int) + 1 - 2).toNat = L0 - 1 := by omega
    rw [en]
    refine lc_range (lo := 2) (n := L0 - 1) (fun i H' => Gr [] H1 H' ∧ H' D = some (.lst (vn (((from2 (L0 - 1)).take i).filter fun c => decide (L0 % c = 0))))) ⟨Gr.new nD, upd_same⟩ ?_ ?_
    · rintro i H' hi ⟨G, hD⟩
      have ei : (2 : Int) + (i : Int) = ((2 + i : Nat) : Int) := by omega
      rw [ei]
      refine ⟨rfl, ?_⟩
      have hfl : i < (from2 (L0 - 1)).length := by rw [from2_len]; exact hi
      have fg := from2_get hi
      have e0 : ((L0 : Nat) : Int) % ((2 + i : Nat) : Int) = ((L0 % (2 + i) : Nat) : Int) := by rw [← Int.natCast_emod]
      refine ⟨_, rfl, .inl ⟨_, rfl, _, rfl, _, _, rfl, rfl, (show (0 : Int) < ((2 + i : Nat) : Int) by omega), rfl, ?_⟩⟩
      have ex : ∀ {o : HO}, Gr [] H1 (upd H' D o) := fun {o} c u _ e => by
        rw [upd_ne (ne_of_none e nD)]
        exact G c u (by simp) e
      by_cases h1 : L0 % (2 + i) = 0
      · rw [decide_eq_true (show V.int ((L0 : Int) % ((2 + i : Nat) : Int)) = V.int 0 by rw [e0, h1]; rfl)]
        refine ⟨_, rfl, iteT ⟨_, rfl, _, hD, ?_, ex, ?_⟩⟩
        · rw [vn_len]
          refine small5 (Nat.le_trans (List.length_filter_le _ _) ?_)
          rw [List.length_take]
          omega
        · rw [upd_same, vn_snoc, filt_yes hfl (by rw [fg]; exact decide_eq_true h1), fg]
      · rw [decide_eq_false (fun z : V.int ((L0 : Int) % ((2 + i : Nat) : Int)) = V.int 0 => h1 (by rw [e0] at z; have := V.int.inj z; omega))]
        refine ⟨_, rfl, iteF ⟨G, ?_⟩⟩
        rw [filt_no hfl (by rw [fg]; exact decide_eq_false h1)]
        exact hD
    rintro H2 ⟨g2, hD⟩
    rw [List.take_of_length_le (by rw [from2_len]; exact Nat.le_refl _)] at hD
    refine ⟨by show 2 ≤ sizeLine; decide, fun u nu => ?_⟩
    refine q u D _ (((Gr.new np).trans g1).trans (g2.trans (Gr.new nu))) upd_same ?_
    rw [upd_ne (ne_of_none hD nu)]
    exact hD

theorem fm_map {α β : Type} {f : α → Option β} {g : α → β} : ∀ l : List α, (∀ x ∈ l, f x = some (g x)) → l.filterMap f = l.map g
  | [], _ => rfl
  | x :: r, h => by
    rw [List.filterMap_cons, h x (List.mem_cons_self ..), List.map_cons, fm_map r fun y hy => h y (List.mem_cons_of_mem _ hy)]
theorem step_rms (b n x k c : Nat) (hk : 1 ≤ k) : stepV (rms b n x (k * c)) k = vn (spc b n x k c) := by
  unfold stepV
  have e : (k * c + k - 1) / k = c := by
    rw [show k * c + k - 1 = k - 1 + k * c by omega, Nat.add_mul_div_left _ _ (by omega), Nat.div_eq_of_lt (by omega), Nat.zero_add]
  rw [rms_len, e]
  have f : (List.range c).filterMap (fun i => (rms b n x (k * c))[k * i]?) = (List.range c).map (fun i => V.int (rem b n x (k * i) : Nat)) := by
    refine fm_map _ fun i hi => ?_
    have hi := List.mem_range.mp hi
    have : k * i < k * c := Nat.mul_lt_mul_of_pos_left hi (by omega)
    unfold rms
    rw [List.getElem?_map, List.getElem?_range this]
    rfl
  rw [f]
  unfold vn spc
  rw [List.map_map]
  rfl

def PF (b x n : Nat) : Prop := BN b n ∧ x < n ∧ Nat.gcd x n = 1 ∧ Nat.gcd b n = 1
def sp_need_pure_fraction : Sp := fun vs H Q _ => ∃ (b x n : Nat) (a : Addr), vs = [.int b, .ref a] ∧ H a = some (.tup [.int x, .int n]) ∧ PF b x n ∧ Q (.ref a) H

def sp_piece_size : Sp := fun vs H Q _ => ∃ b n L c : Nat, vs = [.int b, .int n, .int c] ∧ BN b n ∧ Nat.gcd b n = 1 ∧ IsPer b n L ∧ (2 ≤ c ∧ c ∣ L) ∧ Q (.int (L / c : Nat)) H
theorem ok_piece_size (T : Txt K mg) : FnOk P w K mg base CX0 6 T.d_piece_size.f T.d_piece_size.fd ["base", "denominator", "cut"] sp_piece_size := by
  refine T.d_piece_size.F.ok sc_piece_size (fun vs H Q E h => ?_) (fun cdv A outer s H vs Q E hr h => ?_)
  · obtain ⟨b, n, L, c, rfl, _⟩ := h; rfl
  · have hu := hu_of hr
    refine ⟨_, (pss_cons (ps_set (i := 3) sc_piece_size.nd rfl (by first | exact .inl rfl | exact .inr rfl) (pe_call (ok_period T) (hr.mono (by decide)) (by rfl) T.d_period.m T.d_period.F.kp T.d_period.b .nil pass0 (pa_cons (pv 0) (pa_cons (pv 1) pa_nil))))
      (pss_cons (ps_if (PW.pt (pw_or (pt_not (pt_val (pe_call (ok_is_within T) (hr.mono (by decide)) (by rfl) T.d_is_within.m T.d_is_within.F.kp T.d_is_within.b .nil pass0 (pa_cons (pv 2) (pa_cons pe_int (pa_cons (pv 3) pa_nil)))))) (pw_or1 (pt_cmpR op_ne (pe_op op_mod (pv 3) (pv 2)) pe_int (nomark _))))) (pss_one ps_never) pss_nil)
      (pss_one (ps_ret (pe_op op_fdiv (pv 3) (pv 2)))))), ?_⟩
    obtain ⟨b, n, L, c, rfl, hbn, hg, hP, ⟨hc, hd⟩, q⟩ := h
    obtain ⟨hb1, hb2, hn1, hn2⟩ := id hbn
    have hL1 := hP.1
    have hLn := per_le hn1 hg hP
    have hcL := Nat.le_of_dvd hL1 hd
    refine ⟨_, rfl, _, rfl, b, n, rfl, hbn, fun p d hp hd' => ?_⟩
    have ep : p = n := hp.uniq (IsPure.self hg)
    subst ep
    have ed : d = L := hd'.uniq hP
    subst ed
    refine ⟨_, rfl, _, rfl, c, _, _, rfl, ⟨by omega, by omega⟩, true, rfl, iteF ?_⟩
    refine ⟨_, rfl, _, rfl, _, _, rfl, rfl, (show (0 : Int) < (c : Int) by omega), rfl, _, rfl, ?_⟩
    have e0 : (d : Int) % (c : Int) = 0 := by rw [← Int.natCast_emod, Nat.mod_eq_zero_of_dvd hd]; rfl
    rw [show (!decide (V.int ((d : Int) % (c : Int)) = V.int 0)) = false by rw [e0]; rfl]
    refine iteF ⟨_, rfl, _, rfl, _, _, rfl, rfl, ⟨by omega, by omega⟩, ?_⟩
    dsimp only
    rw [← Int.natCast_ediv]
    exact q

def sp_number_of : Sp := fun vs H Q _ => ∃ (b : Nat) (t : Addr) (ds : List Nat), vs = [.int b, .ref t] ∧ H t = some (.tup (vn ds)) ∧ b ≤ 1000 ∧ Q (.int (wrt b ds : Nat)) H
theorem wrt_step {b : Nat} {ds : List Nat} {i : Nat} (hi : i < ds.length) : wrt b (ds.take (i + 1)) = wrt b (ds.take i) * b + ds[i] := by
  rw [List.take_succ_eq_append_getElem hi, wrt_snoc]
theorem ok_law_worth (T : Txt K mg) : FnOk P w K mg base CX0 1 T.d_law_worth.f T.d_law_worth.fd ["b", "figs"] sp_number_of := by
  refine T.d_law_worth.F.ok sc_law_worth (fun vs H Q E h => ?_) (fun cdv A outer s H vs Q E hr h => ?_)
  · obtain ⟨b, t, ds, rfl, _⟩ := h; rfl
  · have hu := hu_of hr
    refine ⟨_, (pss_cons (ps_set (i := 2) sc_law_worth.nd rfl (by first | exact .inl rfl | exact .inr rfl) pe_int)
      (pss_cons (ps_for PassesOwn.never rfl (pi_tup (pv 1)) (pg_name (i := 3) sc_law_worth.nd rfl (by first | exact .inl rfl | exact .inr rfl)) (pss_one (ps_set (i := 2) sc_law_worth.nd rfl (by first | exact .inl rfl | exact .inr rfl) (pe_op op_add (pe_op op_mul (pv 2) (pv 0)) (pv 3)))))
      (pss_one (ps_ret (pv 2))))), ?_⟩
    obtain ⟨b, t, ds, rfl, ht, hb, q⟩ := h
    refine ⟨_, rfl, t, rfl, ⟨_, sq_tup ht⟩, ?_⟩
    refine for_tup (K := K) (a := t) (xs := vn ds) (fun i σ H' => H' = H ∧ ∃ v, σ = [some (.int b), some (.ref t), some (.int (wrt b (ds.take i) : Nat)), v]) ⟨rfl, none, ?_⟩ (fun i σ H' _ z => by rw [z.1]; exact sq_tup ht) ?_ ?_
    · rfl
    · rintro i y σ H' hy ⟨rfl, v, rfl⟩
      obtain ⟨hi, rfl⟩ := vn_get hy
      refine ⟨_, rfl, _, rfl, _, _, rfl, rfl, .inr ⟨by omega, by omega⟩, _, rfl, _, _, rfl, rfl, rfl, some (.int (ds[i] : Nat)), ?_⟩
      dsimp only
      rw [wrt_step hi, Int.natCast_add, Int.natCast_mul]
      rfl
    rintro σ H' ⟨rfl, v, rfl⟩
    rw [List.take_of_length_le (by rw [vn_len]; exact Nat.le_refl _)]
    exact ⟨_, rfl, q⟩

theorem dgf_vn (b n x lo c : Nat) : dgf b n x lo c = vn (dg b n x lo c) := by
  unfold dgf vn dg
  rw [List.map_map]
  rfl
theorem dg_cut {b n x L lo hi : Nat} (h1 : lo ≤ hi) (h2 : hi ≤ L) : cutV (vn (dg b n x 0 L)) (some (lo : Int)) (some (hi : Int)) = vn (dg b n x lo (hi - lo)) := by
  unfold cutV
  rw [HT.sIx_nat, HT.sIx_nat, vn_len, dg_len, Nat.min_eq_left h2, Nat.min_eq_left (Nat.le_trans h1 h2)]
  unfold vn dg
  rw [← List.map_drop, ← List.map_take, ← List.map_drop, ← List.map_take]
  rw [List.map_map, List.map_map]
  apply List.ext_getElem
  · simp
    omega
  · intro i i1 i2
    simp
theorem par_pure {b n p q h L : Nat} (hn : 1 ≤ n) (hg : Nat.gcd b n = 1) (P : Par b n p q h L) : p = n ∧ h = 0 := by
  have ep := P.hp.uniq (IsPure.self hg)
  subst ep
  have eq1 : q = 1 := by
    have := P.e
    have : p * 1 = p * q := by omega
    exact (Nat.eq_of_mul_eq_mul_left (by omega) this).symm
  subst eq1
  exact ⟨rfl, P.hh.uniq ⟨Nat.mod_one _, fun j hj => absurd hj (Nat.not_lt_zero _)⟩⟩
def CT (b n L k c : Nat) : Prop := IsPer b n L ∧ 2 ≤ c ∧ 1 ≤ k ∧ L = k * c
theorem CT.d {b n L k c : Nat} (h : CT b n L k c) : c ∣ L ∧ L / c = k := by
  obtain ⟨h1, h2, h3, h4⟩ := h
  exact ⟨⟨k, by rw [h4, Nat.mul_comm]⟩, by rw [h4]; exact Nat.mul_div_cancel _ (by omega)⟩
def sp_pieces : Sp := fun vs H Q _ => ∃ (b x n L k c : Nat) (a : Addr), vs = [.int b, .ref a, .int c] ∧ H a = some (.tup [.int x, .int n]) ∧ PF b x n ∧ CT b n L k c ∧
  ∀ t H', Gr [] H H' → H' t = some (.tup (vn (pcs b n x k c))) → Q (.ref t) H'

def qv (b n x k c : Nat) : V := if restSum b n x k c % n = 0 then .int (restSum b n x k c / n : Nat) else .non
def sp_quotient : Sp := fun vs H Q _ => ∃ (b x n L k c : Nat) (a : Addr), vs = [.int b, .ref a, .int c] ∧ H a = some (.tup [.int x, .int n]) ∧ PF b x n ∧ CT b n L k c ∧
  ∀ H', Gr [] H H' → Q (qv b n x k c) H'

def sp_law_power : Sp := fun vs H Q _ => ∃ b k : Nat, vs = [.int b, .int k] ∧ (b ≤ 1000 ∧ k ≤ 100000) ∧ Q (.int (b ^ k : Nat)) H
theorem ok_law_power (T : Txt K mg) : FnOk P w K mg base CX0 1 T.d_law_power.f T.d_law_power.fd ["b", "many"] sp_law_power := by
  refine T.d_law_power.F.ok sc_law_power (fun vs H Q E h => ?_) (fun cdv A outer s H vs Q E hr h => ?_)
  · obtain ⟨b, k, rfl, _⟩ := h; rfl
  · have hu := hu_of hr
    refine ⟨_, (pss_cons (ps_set (i := 2) sc_law_power.nd rfl (by first | exact .inl rfl | exact .inr rfl) pe_int)
      (pss_cons (ps_for PassesOwn.never rfl (pi_range1 (by rfl) T.b_range (pa_cons (pv 1) pa_nil)) (pg_name (i := 3) sc_law_power.nd rfl (by first | exact .inl rfl | exact .inr rfl)) (pss_one (ps_set (i := 2) sc_law_power.nd rfl (by first | exact .inl rfl | exact .inr rfl) (pe_op op_mul (pv 2) (pv 0)))))
      (pss_one (ps_ret (pv 2))))), ?_⟩
    obtain ⟨b, k, rfl, ⟨hb, hk⟩, q⟩ := h
    refine ⟨_, rfl, (k : Int), rfl, by omega, by omega, ?_⟩
    refine for_range (lo := 0) (n := ((k : Int)).toNat) (fun i σ H' => H' = H ∧ ∃ v, σ = [some (.int b), some (.int k), some (.int (b ^ i : Nat)), v]) ⟨rfl, none, ?_⟩ ?_ ?_
    · rfl
    · rintro i σ H' hi ⟨rfl, v, rfl⟩
      refine ⟨_, rfl, _, rfl, _, _, rfl, rfl, .inr ⟨by omega, by omega⟩, rfl, some (.int (0 + (i : Int))), ?_⟩
      dsimp only
      rw [Nat.pow_succ, Int.natCast_mul]
      rfl
    rintro σ H' ⟨rfl, v, rfl⟩
    rw [Int.toNat_natCast]
    exact ⟨_, rfl, q⟩

def sp_law_rests : Sp := fun vs H Q _ => ∃ (b x n k : Nat) (a : Addr), vs = [.int b, .ref a, .int k] ∧ H a = some (.tup [.int x, .int n]) ∧ (b ≤ 1000 ∧ 1 ≤ n ∧ n ≤ 5000 ∧ x < n ∧ k ≤ 5000) ∧ ∀ l H', Gr [] H H' → H' l = some (.lst (rms b n x k)) → Q (.ref l) H'

def sp_law_sliced : Sp := fun vs H Q _ => ∃ (b x n L k c : Nat) (a : Addr), vs = [.int b, .ref a, .int c] ∧ H a = some (.tup [.int x, .int n]) ∧ PF b x n ∧ CT b n L k c ∧
  ∀ l H', Gr [] H H' → H' l = some (.lst (vn (pcs b n x k c))) → Q (.ref l) H'
theorem ok_law_sliced (T : Txt K mg) : FnOk P w K mg base CX0 3 T.d_law_sliced.f T.d_law_sliced.fd ["b", "part", "cut"] sp_law_sliced := by
  refine T.d_law_sliced.F.ok sc_law_sliced (fun vs H Q E h => ?_) (fun cdv A outer s H vs Q E hr h => ?_)
  · obtain ⟨b, x, n, L, k, c, a, rfl, _⟩ := h; rfl
  · have hu := hu_of hr
    refine ⟨_, (pss_cons (ps_set (i := 3) sc_law_sliced.nd rfl (by first | exact .inl rfl | exact .inr rfl) (pe_ix (r := rIxT K) ix_tup (pe_call (ok_law_spread T) (hr.mono (by decide)) (by rfl) T.d_law_spread.m T.d_law_spread.F.kp T.d_law_spread.b .nil pass0 (pa_cons (pv 0) (pa_cons (pv 1) pa_nil))) pe_int (fun _ _ => rfl)))
      (pss_cons (ps_set (i := 4) sc_law_sliced.nd rfl (by first | exact .inl rfl | exact .inr rfl) (pe_op op_fdiv (pe_callB (r := rLn K) call_ln (by rfl) T.b_len PySem.boot_len (pa_cons (pv 3) pa_nil)) (pv 2)))
      (pss_one (ps_ret (pe_lc (own := [("k", 5)]) (g := gName 5) (tt := tYes) rfl sc_law_sliced.nd (pi_range1 (by rfl) T.b_range (pa_cons (pv 2) pa_nil)) (blkOk_by (own := [("k", 5)]) (N := ["b", "part", "cut", "figs", "size", "k"]) (sc := defScope s_law_sliced) (by decide +kernel)) (fun _ _ _ _ _ => (pg_name (i := 5) sc_law_sliced.nd rfl (by first | exact .inl rfl | exact .inr rfl))) (fun _ _ _ _ _ => pts_nil) (fun _ _ _ _ _ => (pe_call (ok_law_worth T) (hr.mono (by decide)) (by rfl) T.d_law_worth.m T.d_law_worth.F.kp T.d_law_worth.b .nil pass0 (pa_cons (pv 0) (pa_cons (pe_slice (r := rSlA K) sl_tupA (pv 3) (po_some (pe_op op_mul (pv 5) (pv 4))) (po_some (pe_op op_add (pe_op op_mul (pv 5) (pv 4)) (pv 4)))) pa_nil))))))))), ?_⟩
    obtain ⟨b, x, n, L, k, c, a, rfl, ha, hf, hC, q⟩ := h
    obtain ⟨⟨hb1, hb2, hn1, hn2⟩, hx, hg, hp⟩ := id hf
    obtain ⟨hP, hc2, hk1, hL⟩ := id hC
    obtain ⟨cd, ce⟩ := hC.d
    have hLn := per_le hn1 hp hP
    have hcL : c ≤ L := Nat.le_of_dvd hP.1 cd
    refine ⟨_, rfl, _, rfl, b, x, n, a, rfl, ha, ⟨hb2, hn2, hx, hg⟩, fun t H1 p q0 h L0 P g1 E => ?_⟩
    obtain ⟨rfl, rfl⟩ := par_pure hn1 hp P
    have eL := P.hL.uniq hP
    subst eL
    obtain ⟨a1, a2, e0, e1, e2⟩ := E.at_
    refine ⟨t, _, _, .ref a2, rfl, rfl, sq_tup e0, atI_nat (j := 1) rfl, ?_⟩
    rw [dgf_vn] at e2
    refine ⟨_, rfl, a2, _, rfl, .inr (sq_tup e2), _, rfl, _, _, rfl, rfl, ⟨by omega, by omega⟩, ?_⟩
    rw [vn_len, dg_len]
    dsimp only
    rw [← Int.natCast_ediv, ce]
    refine ⟨_, rfl, (c : Int), rfl, by omega, by omega, fun D nD => ?_⟩
    refine lc_range (lo := 0) (n := ((c : Int)).toNat) (fun i H' => Gr [] H1 H' ∧ H' D = some (.lst (vn (pcs b p x k i)))) ⟨Gr.new nD, upd_same⟩ ?_ ?_
    · rintro i H' hi ⟨G, hD⟩
      have e2' := G a2 _ (by simp) e2
      have hi' : i < c := by omega
      have hm : k * i + k ≤ k * c := by
        rw [← Nat.mul_succ]
        exact Nat.mul_le_mul_left _ hi'
      have ei : (0 : Int) + (i : Int) = ((i : Nat) : Int) := by omega
      rw [ei]
      refine ⟨rfl, ?_⟩
      dsimp only [tYes]
      refine iteT ?_
      refine ⟨_, rfl, _, rfl, _, rfl, _, rfl, _, _, rfl, rfl, .inl ⟨by omega, by omega⟩, _, rfl, _, rfl, _, rfl, _, _, rfl, rfl, .inl ⟨by omega, by omega⟩, _, rfl, _, _, rfl, rfl, _, rfl, ?_⟩
      have q1 : (i : Int) * (k : Int) = ((k * i : Nat) : Int) := by rw [Int.natCast_mul, Int.mul_comm]
      have q2 : (i : Int) * (k : Int) + (k : Int) = ((k * i + k : Nat) : Int) := by rw [Int.natCast_add, Int.natCast_mul, Int.mul_comm]
      dsimp only
      rw [q2, q1]
      refine slA_of e2' fun u H2 g2 hu2 => ?_
      rw [dg_cut (by omega) (by omega), Nat.add_sub_cancel_left] at hu2
      have hD2 := g2 D _ (by simp) hD
      refine ⟨b, u, _, rfl, hu2, hb2, _, hD2, ?_, ?_, ?_⟩
      · rw [vn_len, pcs_len]
        exact small5 (by omega)
      · intro u o _ e
        rw [upd_ne (ne_of_none e nD)]
        exact (G.trans g2) u o (by simp) e
      · rw [upd_same, vn_snoc, pcs_succ]
        rfl
    rintro H2 ⟨g2, hD⟩
    rw [Int.toNat_natCast] at hD
    exact q D _ (g1.trans g2) hD

def from1 (k : Nat) : List Nat := (List.range k).map (1 + ·)
theorem from1_len (k : Nat) : (from1 k).length = k := by simp [from1]
theorem from1_get {k i : Nat} (h : i < k) : (from1 k)[i]'(by rw [from1_len]; exact h) = 1 + i := by simp [from1]
def topsL (n : Nat) : List Nat := (from1 (n - 1)).filter fun x => decide (Nat.gcd x n = 1)
theorem mem_tops {n x : Nat} : x ∈ topsL n ↔ 1 ≤ x ∧ x < n ∧ Nat.gcd x n = 1 := by
  unfold topsL from1
  rw [List.mem_filter, decide_eq_true_eq, List.mem_map]
  constructor
  · rintro ⟨⟨i, hi, rfl⟩, h⟩
    rw [List.mem_range] at hi
    exact ⟨by omega, by omega, h⟩
  · rintro ⟨h1, h2, h3⟩
    exact ⟨⟨x - 1, List.mem_range.mpr (by omega), by omega⟩, h3⟩
theorem tops_len (n : Nat) : (topsL n).length ≤ n := by
  unfold topsL
  refine Nat.le_trans (List.length_filter_le _ _) ?_
  rw [from1_len]
  omega
def sp_law_tops : Sp := fun vs H Q _ => ∃ n : Nat, vs = [.int n] ∧ (2 ≤ n ∧ n ≤ 5000) ∧ ∀ l H', Gr [] H H' → H' l = some (.lst (vn (topsL n))) → Q (.ref l) H'
theorem ok_law_tops (T : Txt K mg) : FnOk P w K mg base CX0 2 T.d_law_tops.f T.d_law_tops.fd ["n"] sp_law_tops := by
  refine T.d_law_tops.F.ok sc_law_tops (fun vs H Q E h => ?_) (fun cdv A outer s H vs Q E hr h => ?_)
  · obtain ⟨n, rfl, _⟩ := h; rfl
  · have hu := hu_of hr
    refine ⟨_, (pss_one (ps_ret (pe_lc (own := [("x", 1)]) (g := gName 1) (tt := _) rfl sc_law_tops.nd (pi_range2 (by rfl) T.b_range (pa_cons pe_int (pa_cons (pv 0) pa_nil))) (blkOk_by (own := [("x", 1)]) (N := ["n", "x"]) (sc := defScope s_law_tops) (by decide +kernel)) (fun _ _ _ _ _ => (pg_name (i := 1) sc_law_tops.nd rfl (by first | exact .inl rfl | exact .inr rfl))) (fun _ _ _ _ _ => (pts_one (pt_cmpR op_eq (pe_call (ok_law_divisor T) (hr.mono (by decide)) (by rfl) T.d_law_divisor.m T.d_law_divisor.F.kp T.d_law_divisor.b .nil pass0 (pa_cons (pv 1) (pa_cons (pv 0) pa_nil))) pe_int (nomark _)))) (fun _ _ _ _ _ => (pv 1))))), ?_⟩
    obtain ⟨n, rfl, ⟨hn1, hn2⟩, q⟩ := h
    refine ⟨_, rfl, 1, _, rfl, ⟨by omega, by omega, by omega, by omega⟩, fun E nE => ?_⟩
    have en : ((n : Int) - 1).toNat = n - 1 := by omega
    rw [en]
    refine lc_range (lo := 1) (n := n - 1) (fun i H' => Gr [] H H' ∧ H' E = some (.lst (vn (((from1 (n - 1)).take i).filter fun c => decide (Nat.gcd c n = 1))))) ⟨Gr.new nE, upd_same⟩ ?_ ?_
    · rintro i H' hi ⟨G, hE⟩
      have ei : (1 : Int) + (i : Int) = ((1 + i : Nat) : Int) := by omega
      rw [ei]
      refine ⟨rfl, ?_⟩
      have hfl : i < (from1 (n - 1)).length := by rw [from1_len]; exact hi
      have fg := from1_get hi
      refine ⟨_, rfl, _, rfl, 1 + i, n, rfl, rfl, ?_⟩
      have ex : ∀ {o : HO}, Gr [] H (upd H' E o) := fun {o} c u _ e => by
        rw [upd_ne (ne_of_none e nE)]
        exact G c u (by simp) e
      by_cases h1 : Nat.gcd (1 + i) n = 1
      · rw [decide_eq_true (show V.int ((Nat.gcd (1 + i) n : Nat) : Int) = V.int 1 by rw [h1]; rfl)]
        refine ⟨_, rfl, iteT ⟨_, rfl, _, hE, ?_, ex, ?_⟩⟩
        · rw [vn_len]
          refine small5 (Nat.le_trans (List.length_filter_le _ _) ?_)
          rw [List.length_take]
          omega
        · rw [upd_same, vn_snoc, filt_yes hfl (by rw [fg]; exact decide_eq_true h1), fg]
      · rw [decide_eq_false (fun z : V.int ((Nat.gcd (1 + i) n : Nat) : Int) = V.int 1 => h1 (by have := V.int.inj z; omega))]
        refine ⟨_, rfl, iteF ⟨G, ?_⟩⟩
        rw [filt_no hfl (by rw [fg]; exact decide_eq_false h1)]
        exact hE
    rintro H14 ⟨g14, hE⟩
    rw [List.take_of_length_le (by rw [from1_len]; exact Nat.le_refl _)] at hE
    exact q E _ g14 hE

end
end Wn
namespace Wn
open PySem PySem.Spec PyProof.Rows L2
open LamX (Tabs ExtN tLam)
local macro_rules | `(tactic| walk_at "vc") => `(tactic| simp only [cxK, cxK2, start1, start2, start3, tRet, tRetN, tSeq, tNext, tIfS, tAsg, gName, tDrop, tVar, tC, tOp, tUn, tTest, tB, tNot, tAnd, tOr, tAndV, tOrV, tNotV, tIf, tCons, tNil, tCB, tCall, tChain, tAug, ipI, rI, rI0, rU, rIs, rGcd, rEq, rNe, scal,
  List.getElem?_cons_zero, List.getElem?_cons_succ, List.set_cons_zero, List.set_cons_succ, Option.some.injEq, List.cons.injEq, V.int.injEq, V.bl.injEq, V.ref.injEq, V.str.injEq, and_true, true_and, exists_eq_left, exists_eq_left', exists_and_left, exists_and_right, List.append_nil, List.nil_append, List.cons_append, exists_eq_right, exists_eq_right', and_assoc, exists_const, V.ty.injEq, ↓reduceIte, Bool.false_eq_true, Bool.not_true, Bool.not_false, decide_eq_true_eq])

section
variable {P : Program} {w : World} {K : PySem.W.Frag} {mg : Str → Option Value} {base : Heap}

def sp_is_balanced : Sp := fun vs H Q _ => ∃ b n L k c : Nat, vs = [.int b, .int n, .int c] ∧ BN b n ∧ Nat.gcd b n = 1 ∧ 2 ≤ n ∧ CT b n L k c ∧ ∀ H', Gr [] H H' → Q (.bl (bal b n k c)) H'
theorem ok_is_balanced (T : Txt K mg) : FnOk P w K mg base CX0 7 T.d_is_balanced.f T.d_is_balanced.fd ["base", "denominator", "cut"] sp_is_balanced := by
  refine T.d_is_balanced.F.ok sc_is_balanced (fun vs H Q E h => ?_) (fun cdv A outer s H vs Q E hr h => ?_)
  · obtain ⟨b, n, L, k, c, rfl, _⟩ := h; rfl
  · have hu := hu_of hr
    refine ⟨_, (pss_cons (ps_expr (pe_call (ok_need_pure T) (hr.mono (by decide)) (by rfl) T.d_need_pure.m T.d_need_pure.F.kp T.d_need_pure.b .nil pass0 (pa_cons (pv 0) (pa_cons (pv 1) pa_nil))))
      (pss_one (ps_ret (pe_call (ok_is_balanced_with T) (hr.mono (by decide)) (by rfl) T.d_is_balanced_with.m T.d_is_balanced_with.F.kp T.d_is_balanced_with.b .nil pass0 (pa_cons (pv 0) (pa_cons (pv 1) (pa_cons (pe_call (ok_piece_size T) (hr.mono (by decide)) (by rfl) T.d_piece_size.m T.d_piece_size.F.kp T.d_piece_size.b .nil pass0 (pa_cons (pv 0) (pa_cons (pv 1) (pa_cons (pv 2) pa_nil)))) (pa_cons (pv 2) pa_nil)))))))), ?_⟩
    obtain ⟨b, n, L, k, c, rfl, hbn, hg, hn, hC, q⟩ := h
    obtain ⟨hb1, hb2, hn1, hn2⟩ := id hbn
    obtain ⟨hP, hc2, hk1, hL⟩ := id hC
    obtain ⟨cd, ce⟩ := hC.d
    have hLn := per_le hn1 hg hP
    have hcL : c ≤ L := Nat.le_of_dvd hP.1 cd
    refine ⟨_, rfl, _, rfl, b, n, rfl, hbn, hg, ?_⟩
    refine ⟨_, rfl, _, rfl, _, rfl, _, rfl, _, rfl, b, n, L, c, rfl, hbn, hg, hP, ⟨hc2, cd⟩, ?_⟩
    refine ⟨_, rfl, b, n, k, c, by rw [ce]; rfl, ⟨hn, hn2, by omega⟩, fun H1 g1 => ?_⟩
    exact q H1 g1


def prD (g : Nat → Nat) (ks : List Nat) : PyData := .tuple (ks.map fun q => .tuple [.int (q : Nat), .int (g q : Nat)])
def pairOf (H : Hp) (v : V) : Int × Int := match v with
  | .ref t => match H t with
    | some (.tup [.int i, .int j]) => (i, j)
    | _ => (0, 0)
  | _ => (0, 0)
theorem pairOf_at {H : Hp} {t : Addr} {i j : Int} (h : H t = some (.tup [.int i, .int j])) : pairOf H (.ref t) = (i, j) := by
  show (match H t with
    | some (.tup [.int i, .int j]) => (i, j)
    | _ => (0, 0)) = _
  rw [h]
def cst (p : Nat × Nat) : Int × Int := (((p.1 : Nat) : Int), ((p.2 : Nat) : Int))
theorem pr_get {H3 : Hp} : ∀ {ts : List Addr} {ps : List (Nat × Nat)}, Paired (fun (t : Addr) (q : Key × V) => H3 t = some (.tup [kV q.1, q.2])) ts (kvP ps) → (∀ t ∈ ts, ∃ q : Nat × Nat, H3 t = some (.tup [.int (q.1 : Nat), .int (q.2 : Nat)])) ∧ ts.map (fun t => pairOf H3 (.ref t)) = ps.map cst
  | [], [], _ => ⟨fun t h => (by cases h), rfl⟩
  | [], _ :: _, h => by cases h
  | _ :: _, [], h => by cases h
  | t :: ts, p :: ps, h => by
    cases h with
    | cons h1 h2 =>
      obtain ⟨i1, i2⟩ := pr_get h2
      refine ⟨fun x hx => ?_, ?_⟩
      · rcases List.mem_cons.mp hx with rfl | h
        · exact ⟨p, h1⟩
        · exact i1 x h
      · rw [List.map_cons, List.map_cons, i2]
        exact congrArg (· :: _) (pairOf_at h1)
theorem prs_dp {K : PySem.W.Frag} {H : Hp} : ∀ {ys : List V} {zs : List (Nat × Nat)}, (∀ y ∈ ys, ∃ t, y = V.ref t ∧ H t = some (.tup [.int (pairOf H y).1, .int (pairOf H y).2])) → ys.map (pairOf H) = zs.map cst → DpAll K H ys (zs.map fun p => .tuple [.int (p.1 : Nat), .int (p.2 : Nat)])
  | [], [], _, _ => .nil
  | [], _ :: _, _, e => by simp at e
  | _ :: _, [], _, e => by simp at e
  | y :: ys, z :: zs, h, e => by
    rw [List.map_cons, List.map_cons] at e
    injection e with e1 e2
    obtain ⟨t, rfl, ht⟩ := h y (by simp)
    rw [e1] at ht
    exact .cons (dp_tup ht (.cons (.int _) (.cons (.int _) .nil))) (prs_dp (fun y hy => h y (List.mem_cons_of_mem _ hy)) e2)
/-- tuple(sorted(list(counts.items()))) -/
theorem sort_items {K : PySem.W.Frag} {σ : L2.St} {H : Hp} {i : Nat} {D : Addr} {ps : List (Nat × Nat)} {g : Nat → Nat} {Q : VK} (hi : σ[i]? = some (some (.ref D))) (hD : H D = some (.dK (kvP ps))) (C : Cnt g ps)
    (q : ∀ ks t H', Gr [] H H' → IsKeys g ks → Dp K H' (.ref t) (prD g ks) → Q (.ref t) H') :
    tCB (rTpO K) (tCons (tCB (rSortedPO K) (tCons (LiI.tListItems (tVar i)) tNil)) tNil) σ H Q := by
  refine ⟨_, hi, D, kvP ps, rfl, hD, fun H3 p ts G np nts pts hp pr => ⟨p, ts.map V.ref, pairOf H3, rfl, sq_lst hp, ?_, fun ys u hs hst nu => ⟨u, _, rfl, .inl ⟨sq_lst upd_same, fun t nt => ?_⟩⟩⟩⟩
  · intro x hx
    obtain ⟨t, ht, rfl⟩ := List.mem_map.mp hx
    obtain ⟨q, hq⟩ := (pr_get pr).1 t ht
    refine ⟨t, rfl, ?_⟩
    rw [pairOf_at hq]
    exact hq
  obtain ⟨zs, hz, ez⟩ := perm_lift cst (hst.perm.map (pairOf H3)) ps (by rw [List.map_map]; exact (pr_get pr).2.symm)
  have g3 : Gr [] H3 (upd (upd H3 u (.lst ys)) t (.tup ys)) := (Gr.new nu).trans (Gr.new nt)
  have hs2 : (ys.map (pairOf H3)).Pairwise fun x y => ¬ (y.1 < x.1) := by
    rw [List.pairwise_map]
    exact hs.imp fun {x y} h z => (SrtO.lexB_no.mp h) (.inl z)
  rw [← ez, List.pairwise_map] at hs2
  obtain ⟨hk, hzz⟩ := C.sorted hz (hs2.imp fun {x y} h z => h (by show ((y.1 : Nat) : Int) < ((x.1 : Nat) : Int); omega))
  refine q (zs.map Prod.fst) t _ (fun b o _ e => g3 b o (by simp) (G b o e)) hk ?_
  refine dp_tup upd_same ?_
  refine DpAll.kp (Kp.of g3) ?_
  have dp := prs_dp (K := K) (H := H3) (ys := ys) (zs := zs) (fun y hy => by
    obtain ⟨t, ht, rfl⟩ := List.mem_map.mp (hst.perm.mem_iff.mp hy)
    obtain ⟨q, hq⟩ := (pr_get pr).1 t ht
    refine ⟨t, rfl, ?_⟩
    rw [pairOf_at hq]
    exact hq) ez.symm
  have e2 : (zs.map fun p => PyData.tuple [.int (p.1 : Nat), .int (p.2 : Nat)]) = (zs.map Prod.fst).map fun q => .tuple [.int (q : Nat), .int (g q : Nat)] := by
    conv => lhs; rw [hzz]
    unfold prs
    rw [List.map_map]
    rfl
  rw [← e2]
  exact dp
def cQ (b n k c : Nat) (q : Nat) : Nat := cntQ (fun x => restSum b n x k c / n) (topsL n) q
def sp_quotientsX (T : Txt K mg) : Sp := fun vs H Q E => ∃ b n L k c : Nat, vs = [.int b, .int n, .int c] ∧ BN b n ∧ Nat.gcd b n = 1 ∧ 2 ≤ n ∧ CT b n L k c ∧
  (bal b n k c = true → ∀ ks t H', Gr [] H H' → IsKeys (cQ b n k c) ks → Dp K H' (.ref t) (prD (cQ b n k c) ks) → Q (.ref t) H') ∧
  (bal b n k c = false → ∀ H1 d, Gr [] H H1 → H1 d = none → E (.ref T.C_Nothing) (some d) (upd H1 d (.xd [("value", .int c)])))
theorem spc_rl (b n x k c : Nat) : spc b n x k c = rl (b ^ k) n x c := by
  unfold spc rl
  refine List.map_congr_left fun i _ => ?_
  rw [rem_pow]
theorem flags0 (n : Nat) : (List.replicate n [V.bl false]).flatten = (List.range n).map fun _ => V.bl false := by
  induction n with
  | zero => rfl
  | succ n ih => rw [List.replicate_succ', List.flatten_append, ih, List.range_succ, List.map_append]; rfl
theorem flags_set {m : Nat → Bool} {n r : Nat} (hr : r < n) : ((List.range n).map fun z => V.bl (m z)).set r (.bl true) = (List.range n).map fun z => V.bl (m z || decide (z = r)) := by
  apply List.ext_getElem
  · simp
  · intro i h1 h2
    rw [List.getElem_set]
    simp only [List.getElem_map, List.getElem_range]
    by_cases e : r = i
    · rw [if_pos e, decide_eq_true e.symm, Bool.or_true]
    · rw [if_neg e, decide_eq_false (fun z => e z.symm), Bool.or_false]
theorem mem_topsQ {n x : Nat} (hn : 2 ≤ n) : x ∈ topsL n ↔ x < n ∧ Nat.gcd x n = 1 := by
  rw [mem_tops]
  constructor
  · rintro ⟨h1, h2, h3⟩
    exact ⟨h2, h3⟩
  · rintro ⟨h1, h2⟩
    refine ⟨?_, h1, h2⟩
    rcases Nat.eq_zero_or_pos x with z | z
    · rw [z, Nat.gcd_zero_left] at h2
      omega
    · exact z
theorem tops_nodup (n : Nat) : (topsL n).Nodup := by
  unfold topsL from1
  refine List.Pairwise.filter _ ?_
  rw [List.pairwise_map]
  exact List.pairwise_lt_range.imp fun h => by omega
theorem okX_quotients (T : Txt K mg) : FnOk P w K mg base (L2.CX P w) 8 T.d_quotients.f T.d_quotients.fd ["base", "denominator", "cut"] (sp_quotientsX T) := by
  refine T.d_quotients.F.okX sc_quotients (fun vs H Q E h => ?_) (fun cdv A outer s H vs Q E hr h => ?_)
  · obtain ⟨b, n, L, k, c, rfl, _⟩ := h; rfl
  · have hu := hu_of hr
    refine ⟨_, (pss_cons (ps_if (pt_not (pt_val (pe_call (ok_is_balanced T) (hr.mono (by decide)) (by rfl) T.d_is_balanced.m T.d_is_balanced.F.kp T.d_is_balanced.b .nil pass0 (pa_cons (pv 0) (pa_cons (pv 1) (pa_cons (pv 2) pa_nil)))))) (pss_one (ps_raise rfl (takes_of rfl rfl rfl rfl) (pmkE T.T_Nothing (ok_init_Nothing T) (hr.mono (by decide)) T.b_Nothing pass0 (by rfl) T.g_Nothing (pa_cons (pv 2) pa_nil)))) pss_nil)
      (PSs.nox (pss_cons (ps_set (i := 3) sc_quotients.nd rfl (by first | exact .inl rfl | exact .inr rfl) (pe_call (ok_piece_size T) (hr.mono (by decide)) (by rfl) T.d_piece_size.m T.d_piece_size.F.kp T.d_piece_size.b .nil pass0 (pa_cons (pv 0) (pa_cons (pv 1) (pa_cons (pv 2) pa_nil)))))
      (pss_cons (ps_set (i := 4) sc_quotients.nd rfl (by first | exact .inl rfl | exact .inr rfl) pe_dnewK)
      (pss_cons (ps_set (i := 5) sc_quotients.nd rfl (by first | exact .inl rfl | exact .inr rfl) (pe_op op_rep (pe_lst (pa_cons pe_bl pa_nil)) (pv 1)))
      (pss_cons (ps_for PassesOwn.never rfl (pi_range2 (by rfl) T.b_range (pa_cons pe_int (pa_cons (pv 1) pa_nil))) (pg_name (i := 6) sc_quotients.nd rfl (by first | exact .inl rfl | exact .inr rfl)) (pss_cons (ps_if (PW.pt (pw_or (pt_val (pe_ix (r := rIxL K) ix_list (pv 5) (pv 6) (fun _ _ => rfl))) (pw_or1 (pt_cmpR op_ne (pe_callBfun cr_gcd (by rfl) T.b_gcd (pa_cons (pv 6) (pa_cons (pv 1) pa_nil))) pe_int (nomark _))))) (pss_one ps_continue) pss_nil)
      (pss_cons (ps_set (i := 7) sc_quotients.nd rfl (by first | exact .inl rfl | exact .inr rfl) (pe_call (ok_spaced T) (hr.mono (by decide)) (by rfl) T.d_spaced.m T.d_spaced.F.kp T.d_spaced.b .nil pass0 (pa_cons (pv 0) (pa_cons (pe_tup (pa_cons (pv 6) (pa_cons (pv 1) pa_nil))) (pa_cons (pv 3) (pa_cons (pv 2) pa_nil))))))
      (pss_cons (ps_for PassesOwn.never rfl (pi_tup (pv 7)) (pg_name (i := 8) sc_quotients.nd rfl (by first | exact .inl rfl | exact .inr rfl)) (pss_one (ps_asg pe_bl (pg_sub (pv 5) (pv 8) set_list))))
      (pss_cons (ps_set (i := 9) sc_quotients.nd rfl (by first | exact .inl rfl | exact .inr rfl) (pe_op op_fdiv (pe_callB (r := rSumT K) (cr_sumT rfl) (by rfl) T.b_sum (by decide +kernel) (pa_cons (pv 7) pa_nil)) (pv 1)))
      (pss_one (ps_dput hu (pv 4) (pv 9) (pe_op op_add (pe_dget2 hu (pv 4) (pv 9) pe_int ⟨by rfl, by rfl, by rfl, by rfl⟩) (pv 2)) rfl)))))))
      (pss_one (ps_ret (pe_callTy (r := rTpO K) call_tpO (by rfl) T.b_tuple (by decide +kernel) (pa_cons (pe_callB (r := rSortedPO K) cr_sortedPO (by rfl) T.b_sorted (by decide +kernel) (pa_cons (LiI.pe_listItems rfl (pv 4) (by rfl) T.b_list (by decide +kernel)) pa_nil)) pa_nil)))))))))), ?_⟩
    obtain ⟨b, n, L, k, c, rfl, hbn, hg, hn, hC, q, e⟩ := h
    obtain ⟨hb1, hb2, hn1, hn2⟩ := id hbn
    obtain ⟨hP, hc2, hk1, hL⟩ := id hC
    obtain ⟨cd, ce⟩ := hC.d
    have hLn := per_le hn1 hg hP
    have hcL : c ≤ L := Nat.le_of_dvd hP.1 cd
    refine ⟨_, rfl, _, rfl, _, rfl, b, n, L, k, c, rfl, hbn, hg, hn, hC, fun H1 g1 => ⟨_, rfl, ?_⟩⟩
    cases hbal : bal b n k c with
    | false => exact iteT ⟨_, rfl, mk1_go fun d nd => e hbal H1 d g1 nd⟩
    | true =>
    refine iteF ?_
    have q := q hbal
    refine ⟨_, rfl, _, rfl, _, rfl, b, n, L, c, rfl, hbn, hg, hP, ⟨hc2, cd⟩, ?_⟩
    rw [ce]
    intro D nD
    have g2 : Gr [] H1 (upd H1 D (.dK [])) := Gr.new nD
    have hD0 : (upd H1 D (.dK [])) D = some (.dK []) := upd_same
    generalize upd H1 D (.dK []) = H2 at g2 hD0 ⊢
    refine ⟨by show 1 ≤ sizeLine; decide, fun l0 nl0 => ⟨_, rfl, l0, (n : Int), _, rfl, rfl, upd_same, by omega, by omega, ?_, fun M nM => ?_⟩⟩
    · rw [Int.toNat_natCast]
      exact Nat.le_trans (show _ ≤ 6000 by simp; omega) (by decide)
    rw [Int.toNat_natCast, flags0]
    have g3 : Gr [] H2 (upd (upd H2 l0 (.lst [.bl false])) M (.lst ((List.range n).map fun _ => V.bl false))) := (Gr.new nl0).trans (Gr.new nM)
    have hM0 : (upd (upd H2 l0 (.lst [.bl false])) M (.lst ((List.range n).map fun _ => V.bl false))) M = some (.lst ((List.range n).map fun _ => V.bl false)) := upd_same
    generalize upd (upd H2 l0 (.lst [.bl false])) M (.lst ((List.range n).map fun _ => V.bl false)) = H3 at g3 hM0 ⊢
    have hD3 := g3 D _ (by simp) hD0
    have hDM : D ≠ M := ne_of hD3 hM0 (by intro z; cases z)
    have gB : Nat.gcd (b ^ k) n = 1 := cop_pow hg k
    have pB : IsPer (b ^ k) n c := IsPer.pow (hL ▸ hP) hk1 (by omega)
    have hPk : IsPer b n (k * c) := hL ▸ hP
    generalize hB : b ^ k = B at gB pB
    refine ⟨_, rfl, 1, _, rfl, ⟨by omega, by omega, by omega, by omega⟩, ?_⟩
    have en : ((n : Int) - 1).toNat = n - 1 := by omega
    rw [en]
    refine for_range (lo := 1) (n := n - 1) (fun i σ H' => (∀ u o, u ≠ D → u ≠ M → H3 u = some o → H' u = some o) ∧ (∃ m : Nat → Bool, H' M = some (.lst ((List.range n).map fun r => V.bl (m r))) ∧ ∀ r, m r = true ↔ Met B n c (1 + i) r) ∧ (∃ ps, H' D = some (.dK (kvP ps)) ∧ Cnt (cntQ (fun x => restSum b n x k c / n) (msQ B n c (1 + i))) ps) ∧ ∃ v6 v7 v8 v9, σ = [some (.int b), some (.int n), some (.int c), some (.int (k : Nat)), some (.ref D), some (.ref M), v6, v7, v8, v9]) ⟨fun u o _ _ e => e, ⟨fun _ => false, hM0, fun r => ?_⟩, ⟨[], hD3, ?_⟩, none, none, none, none, ?_⟩ ?_ ?_
    · refine ⟨fun z => (by cases z), ?_⟩
      rintro ⟨y, h1, h2, _⟩
      have : y = 0 := by omega
      rw [this, Nat.gcd_zero_left] at h2
      omega
    · refine Cnt.nil.congr fun q => ?_
      have e : msQ B n c (1 + 0) = [] := by
        have ht : ¬ topB B n c 0 = true := fun z => by
          have := (top_iff.mp z).1
          rw [Nat.gcd_zero_left] at this
          omega
        show msQ B n c (0 + 1) = []
        rw [msQ_succ, if_neg ht]
        rfl
      rw [e]
      rfl
    · rfl
    · rintro i σ H' hi ⟨G, ⟨m, hM, hm⟩, ⟨ps, hD, hC⟩, v6, v7, v8, v9, rfl⟩
      have ei : (1 : Int) + (i : Int) = ((1 + i : Nat) : Int) := by omega
      rw [ei]
      have hxn : 1 + i < n := by omega
      have hx1 : 1 ≤ 1 + i := by omega
      have sx : 1 + (i + 1) = (1 + i) + 1 := by omega
      rw [sx]
      generalize 1 + i = x at hm hC hxn hx1 ⊢
      have skip : topB B n c x = false → ∀ v6 v7 v8 v9, (∀ u o, u ≠ D → u ≠ M → H3 u = some o → H' u = some o) ∧ (∃ m : Nat → Bool, H' M = some (.lst ((List.range n).map fun r => V.bl (m r))) ∧ ∀ r, m r = true ↔ Met B n c (x + 1) r) ∧ (∃ ps, H' D = some (.dK (kvP ps)) ∧ Cnt (cntQ (fun x => restSum b n x k c / n) (msQ B n c (x + 1))) ps) ∧ ∃ w6 w7 w8 w9, [some (V.int b), some (.int n), some (.int c), some (.int (k : Nat)), some (.ref D), some (.ref M), v6, v7, v8, v9] = [some (V.int b), some (.int n), some (.int c), some (.int (k : Nat)), some (.ref D), some (.ref M), w6, w7, w8, w9] := fun ht v6 v7 v8 v9 => by
        refine ⟨G, ⟨m, hM, fun r => (hm r).trans (met_skip gB pB hxn ht).symm⟩, ⟨ps, hD, ?_⟩, v6, v7, v8, v9, rfl⟩
        rw [msQ_succ, if_neg (by rw [ht]; decide), List.append_nil]
        exact hC
      have hmx : ((List.range n).map fun r => V.bl (m r))[x]? = some (.bl (m x)) := by
        rw [List.getElem?_map, List.getElem?_range hxn]
        rfl
      refine ⟨_, rfl, _, rfl, M, _, (x : Int), .bl (m x), rfl, rfl, sq_lst hM, atI_nat hmx, _, rfl, ?_⟩
      cases hmm : m x with
      | true =>
        refine iteT (skip ?_ _ _ _ _)
        have mt := (hm x).mp hmm
        obtain ⟨y, h1, h2, h3⟩ := mt
        have gx : Nat.gcd x n = 1 := by
          obtain ⟨j, _, e⟩ := h3
          rw [← e]
          exact rem_cop gB h2 j
        exact (not_top gB pB hxn gx).mpr ⟨y, h1, h2, h3⟩
      | false =>
      refine iteF ?_
      refine ⟨_, rfl, _, rfl, (x : Int), (n : Int), rfl, rfl, _, rfl, ?_⟩
      by_cases gx : Nat.gcd x n = 1
      case neg =>
        refine iteTb (by show (!decide (V.int ((Nat.gcd x n : Nat) : Int) = V.int 1)) = true; rw [decide_eq_false (fun z => gx (by have := V.int.inj z; omega))]; rfl) (skip ?_ _ _ _ _)
        refine Bool.eq_false_iff.mpr fun z => gx (top_iff.mp z).1
      refine iteFb (by show (!decide (V.int ((Nat.gcd x n : Nat) : Int) = V.int 1)) = false; rw [decide_eq_true (by rw [gx]; rfl)]; rfl) ?_
      have ht : topB B n c x = true := by
        cases z : topB B n c x with
        | true => rfl
        | false =>
          have := (hm x).mpr ((not_top gB pB hxn gx).mp z)
          rw [hmm] at this
          cases this
      refine ⟨_, rfl, _, rfl, _, rfl, by show 2 ≤ sizeLine; decide, fun p np => ⟨_, rfl, _, rfl, b, x, n, k, c, p, rfl, upd_same, ⟨hn1, hn2, hxn, by omega⟩, fun t H5 g5 h5 => ?_⟩⟩
      have gg := (Gr.new (W := []) (o := .tup [.int x, .int n]) np).trans g5
      have hM5 := gg M _ (by simp) hM
      have hD5 := gg D _ (by simp) hD
      have G5 : ∀ u o, u ≠ D → u ≠ M → H3 u = some o → H5 u = some o := fun u o h1 h2 e => gg u o (by simp) (G u o h1 h2 e)
      clear gg g5
      have htD : t ≠ D := ne_of h5 hD5 (by intro z; cases z)
      have htM : t ≠ M := ne_of h5 hM5 (by intro z; cases z)
      have er : spc b n x k c = rl B n x c := by rw [spc_rl, hB]
      refine ⟨_, rfl, t, rfl, ⟨_, sq_tup h5⟩, ?_⟩
      refine for_tup (K := K) (a := t) (xs := vn (spc b n x k c)) (fun j σ H' => (∀ u o, u ≠ M → H5 u = some o → H' u = some o) ∧ (∃ m' : Nat → Bool, H' M = some (.lst ((List.range n).map fun r => V.bl (m' r))) ∧ ∀ r, m' r = true ↔ m r = true ∨ r ∈ (rl B n x c).take j) ∧ ∃ v8, σ = [some (.int b), some (.int n), some (.int c), some (.int (k : Nat)), some (.ref D), some (.ref M), some (.int (x : Nat)), some (.ref t), v8, v9]) ⟨fun u o _ e => e, ⟨m, hM5, fun r => by simp⟩, v8, rfl⟩ (fun j σ H' _ z => sq_tup (z.1 t _ htM h5)) ?_ ?_
      · rintro j y σ H6 hy ⟨G6, ⟨m', hM6, hm6⟩, v8, rfl⟩
        obtain ⟨hj, rfl⟩ := vn_get hy
        have hjr : j < (rl B n x c).length := by rw [← er]; exact hj
        have ey : (spc b n x k c)[j] = (rl B n x c)[j] := by simp only [er]
        rw [ey]
        have hyn := rl_lt (b := B) (n := n) (x := x) (L := c) hn1 (List.getElem_mem hjr)
        have tk := List.take_succ_eq_append_getElem hjr
        generalize (rl B n x c)[j] = r0 at hyn tk
        have hix : ixN n (r0 : Int) = some r0 := by
          unfold ixN
          rw [if_pos (by omega), if_pos (by omega), Int.toNat_natCast]
        refine ⟨_, rfl, _, rfl, M, _, (r0 : Int), r0, rfl, rfl, hM6, by rw [List.length_map, List.length_range]; exact hix, ?_⟩
        rw [flags_set hyn]
        refine ⟨fun u o h1 e => ?_, ⟨_, upd_same, fun r => ?_⟩, _, rfl⟩
        · rw [upd_ne h1]
          exact G6 u o h1 e
        · rw [Bool.or_eq_true, decide_eq_true_eq, hm6, tk, List.mem_append, List.mem_singleton, or_assoc]
      rintro σ H6 ⟨G6, ⟨m', hM6, hm6⟩, v8, rfl⟩
      rw [vn_len, er, rl_len, List.take_of_length_le (by rw [rl_len]; exact Nat.le_refl _)] at hm6
      have h6 := G6 t _ htM h5
      have hD6 := G6 D _ hDM hD5
      refine ⟨_, rfl, t, ni (spc b n x k c), rfl, by rw [← vn_ni]; exact sq_tup h6, ?_⟩
      rw [ni_sum]
      have es : (spc b n x k c).sum = restSum b n x k c := rfl
      rw [es]
      refine ⟨_, rfl, _, n, rfl, rfl, ⟨by omega, by omega⟩, ?_⟩
      dsimp only
      rw [← Int.natCast_ediv]
      obtain ⟨q0, hq0⟩ : ∃ q0, restSum b n x k c / n = q0 := ⟨_, rfl⟩
      rw [hq0]
      have gt := hC.get q0
      have gt2 : (valV (kvP ps) (Sum.inl ((q0 : Nat) : Int) : Key)).getD (V.int 0) = V.int ((cntQ (fun x => restSum b n x k c / n) (msQ B n c x) q0 : Nat) : Int) := by
        rw [gt]
        by_cases z : cntQ (fun x => restSum b n x k c / n) (msQ B n c x) q0 = 0
        · rw [if_pos z, z]
          rfl
        · rw [if_neg z]
          rfl
      have kl : ps.length ≤ 5000 := by
        have := hC.len (ks := (msQ B n c x).map fun x => restSum b n x k c / n) fun q hq => cntQ_pos hq
        have h2 := nodup_sub (ys := List.range n) (msQ_nodup gB pB x (by omega)) fun r hr => by
          obtain ⟨y, _, _, j, _, e⟩ := (mem_msQ gB pB (by omega)).mp hr
          rw [← e]
          exact List.mem_range.mpr (rem_lt hn1)
        rw [List.length_map] at this
        rw [List.length_range] at h2
        omega
      refine ⟨_, rfl, D, rfl, .inl ⟨_, .inl hD6⟩, _, rfl, _, DGet.k (k := Sum.inl ((q0 : Nat) : Int)) hD6, _, rfl, _, _, gt2, rfl, _, rfl, _, rfl, D, _, rfl, DPut.k (k := Sum.inl ((q0 : Nat) : Int)) hD6 (by unfold kvP; rw [List.length_map]; exact small5 kl), ?_⟩
      dsimp only
      obtain ⟨ps', ep, C'⟩ := hC.put q0 c (by omega)
      rw [← Int.natCast_add, ep]
      refine ⟨fun u o h1 h2 e => ?_, ⟨m', ?_, fun r => ?_⟩, ⟨ps', upd_same, C'.congr fun z => ?_⟩, _, _, _, _, rfl⟩
      · rw [upd_ne h1]
        exact G6 u o h2 (G5 u o h1 h2 e)
      · rw [upd_ne (Ne.symm hDM)]
        exact hM6
      · rw [hm6, hm, met_succ, mem_rl]
        exact ⟨fun h => h.elim .inl fun h => .inr ⟨gx, h⟩, fun h => h.elim .inl fun h => .inr h.2⟩
      · rw [msQ_succ, if_pos ht, cntQ_app, cntQ_const (ms := rl B n x c) (q0 := q0) (fun r hr => ?_), rl_len]
        rw [← hB] at hr
        rw [rest_mem hPk hxn hr]
        exact hq0
    rintro σ H4 ⟨G, _, ⟨ps, hD, hC⟩, v6, v7, v8, v9, rfl⟩
    rw [show 1 + (n - 1) = n by omega] at hC
    refine sort_items rfl hD (hC.congr fun q => cnt_all hn1 gB pB (tops_nodup n) (fun r => mem_topsQ hn) q) fun ks t H' g' hk dp => q ks t H' (fun u o _ e => ?_) hk dp
    have e1 := g1 u o (by simp) e
    have e2 := g2 u o (by simp) e1
    refine g' u o (by simp) (G u o (ne_of_none e1 nD) (ne_of_none ((Gr.new (W := []) (o := .lst [.bl false]) nl0) u o (by simp) e2) nM) (g3 u o (by simp) e2))

end
end Wn
namespace Wn
open PySem PySem.Spec PyProof.Rows L2
open LamX (Tabs ExtN tLam)
local macro_rules | `(tactic| walk_at "vc") => `(tactic| simp only [cxK, cxK2, start1, start2, start3, tRet, tRetN, tSeq, tNext, tIfS, tAsg, gName, tDrop, tVar, tC, tOp, tUn, tTest, tB, tNot, tAnd, tOr, tAndV, tOrV, tNotV, tIf, tCons, tNil, tCB, tCall, tChain, tAug, ipI, rI, rI0, rU, rIs, rGcd, rEq, rNe, scal,
  List.getElem?_cons_zero, List.getElem?_cons_succ, List.set_cons_zero, List.set_cons_succ, Option.some.injEq, List.cons.injEq, V.int.injEq, V.bl.injEq, V.ref.injEq, V.str.injEq, and_true, true_and, exists_eq_left, exists_eq_left', exists_and_left, exists_and_right, List.append_nil, List.nil_append, List.cons_append, exists_eq_right, exists_eq_right', and_assoc, exists_const, V.ty.injEq, ↓reduceIte, Bool.false_eq_true, Bool.not_true, Bool.not_false, decide_eq_true_eq])

section
variable {P : Program} {w : World} {K : PySem.W.Frag} {mg : Str → Option Value} {base : Heap}

theorem rest_unbal {b n k c x : Nat} (gx : Nat.gcd x n = 1) (h : bal b n k c = false) : restSum b n x k c % n ≠ 0 := fun z => by
  unfold bal at h
  rw [decide_eq_false_iff_not, restSum_mod, Nat.one_mul] at h
  rw [restSum_mod] at z
  refine h (Nat.mod_eq_zero_of_dvd ?_)
  exact (Nat.Coprime.symm gx).dvd_of_dvd_mul_left (Nat.dvd_of_mod_eq_zero z)
def sp_law_own (K : PySem.W.Frag) : Sp := fun vs H Q E => ∃ b n L k c : Nat, vs = [.int b, .int n, .int c, .int L] ∧ BN b n ∧ Nat.gcd b n = 1 ∧ 2 ≤ n ∧ n ≤ 800 ∧ CT b n L k c ∧
  (bal b n k c = false → ∀ p H', Gr [] H H' → H' p = some (.tup [.str "nothing", .int c]) → Q (.ref p) H') ∧
  (bal b n k c = true → ∀ ks p u H', Gr [] H H' → IsKeys (cQ b n k c) ks → H' p = some (.lst [.ref u]) → Dp K H' (.ref u) (prD (cQ b n k c) ks) → Q (.ref p) H')
theorem ok_law_own (T : Txt K mg) : FnOk P w K mg base CX0 4 T.d_law_own.f T.d_law_own.fd ["b", "n", "cut", "size"] (sp_law_own K) := by
  refine T.d_law_own.F.ok sc_law_own (fun vs H Q E h => ?_) (fun cdv A outer s H vs Q E hr h => ?_)
  · obtain ⟨b, n, L, k, c, rfl, _⟩ := h; rfl
  · have hu := hu_of hr
    refine ⟨_, (pss_cons (ps_par (i := 4) (j := 5) (by rfl) sc_law_own.nd rfl rfl (by decide) rfl rfl (pa_cons (pe_op op_sub (pe_call (ok_law_power T) (hr.mono (by decide)) (by rfl) T.d_law_power.m T.d_law_power.F.kp T.d_law_power.b .nil pass0 (pa_cons (pv 0) (pa_cons (pe_op op_fdiv (pv 3) (pv 2)) pa_nil))) pe_int) (pa_cons pe_dnewK pa_nil)) (by rfl))
      (pss_cons (ps_for PassesOwn.never rfl (pi_list (pe_call (ok_law_tops T) (hr.mono (by decide)) (by rfl) T.d_law_tops.m T.d_law_tops.F.kp T.d_law_tops.b .nil pass0 (pa_cons (pv 1) pa_nil))) (pg_name (i := 6) sc_law_own.nd rfl (by first | exact .inl rfl | exact .inr rfl)) (pss_cons (ps_set (i := 7) sc_law_own.nd rfl (by first | exact .inl rfl | exact .inr rfl) (pe_callB (r := rSum K) (cr_sum rfl) (by rfl) T.b_sum (by decide +kernel) (pa_cons (pe_call (ok_law_sliced T) (hr.mono (by decide)) (by rfl) T.d_law_sliced.m T.d_law_sliced.F.kp T.d_law_sliced.b .nil pass0 (pa_cons (pv 0) (pa_cons (pe_tup (pa_cons (pv 6) (pa_cons (pv 1) pa_nil))) (pa_cons (pv 2) pa_nil)))) pa_nil)))
      (pss_cons (ps_if (pt_cmpR op_ne (pe_op op_mod (pe_callTy call_int1 (by rfl) T.b_int (by decide +kernel) (pa_cons (pv 7) pa_nil)) (pv 4)) pe_int (nomark _)) (pss_one (ps_ret (pe_tup (pa_cons pe_str (pa_cons (pv 2) pa_nil))))) pss_nil)
      (pss_one (ps_dput hu (pv 5) (pe_op op_fdivW (pv 7) (pv 4)) (pe_op op_add (pe_dget2 hu (pv 5) (pe_op op_fdivW (pv 7) (pv 4)) pe_int ⟨by rfl, by rfl, by rfl, by rfl⟩) pe_int) rfl)))))
      (pss_one (ps_ret (pe_lst (pa_cons (pe_callTy (r := rTpO K) call_tpO (by rfl) T.b_tuple (by decide +kernel) (pa_cons (pe_callB (r := rSortedPO K) cr_sortedPO (by rfl) T.b_sorted (by decide +kernel) (pa_cons (LiI.pe_listItems rfl (pv 5) (by rfl) T.b_list (by decide +kernel)) pa_nil)) pa_nil)) pa_nil)))))), ?_⟩
    obtain ⟨b, n, L, k, c, rfl, hbn, hg, hn, hn8, hC, q1, q2⟩ := h
    obtain ⟨hb1, hb2, hn1, hn2⟩ := id hbn
    obtain ⟨hP, hc2, hk1, hL⟩ := id hC
    obtain ⟨cd, ce⟩ := hC.d
    have hLn := per_le hn1 hg hP
    have hcL : c ≤ L := Nat.le_of_dvd hP.1 cd
    have hkL : k ≤ L := by
      rw [hL]
      exact Nat.le_mul_of_pos_right k (by omega)
    have hPk : IsPer b n (k * c) := hL ▸ hP
    refine ⟨_, rfl, _, rfl, _, rfl, _, _, rfl, rfl, ⟨by omega, by omega⟩, b, k, by dsimp only; rw [← Int.natCast_ediv, ce]; rfl, ⟨hb2, by omega⟩, _, _, rfl, rfl, ?_⟩
    have bk2 : 2 ≤ b ^ k := Nat.le_trans (by simpa using hb1) (Nat.pow_le_pow_right (by omega) hk1)
    have bkb : b ^ k < 2 ^ 8800 := by
      refine Nat.lt_of_le_of_lt (Nat.pow_le_pow_left (show b ≤ 2 ^ 10 by omega) k) ?_
      rw [← Nat.pow_mul]
      exact Nat.pow_lt_pow_right (by decide) (by omega)
    intro D nD
    have g1 : Gr [] H (upd H D (.dK [])) := Gr.new nD
    have hD0 : (upd H D (.dK [])) D = some (.dK []) := upd_same
    generalize upd H D (.dK []) = H1 at g1 hD0 ⊢
    refine ⟨_, _, rfl, ?_⟩
    dsimp only
    have enn : (((b ^ k : Nat) : Int) - 1) = ((b ^ k - 1 : Nat) : Int) := by omega
    rw [enn]
    obtain ⟨N, hN⟩ : ∃ N, b ^ k - 1 = N := ⟨_, rfl⟩
    have hN1 : 1 ≤ N := by omega
    have hNb : N < 2 ^ 8800 := by omega
    rw [hN]
    refine ⟨_, rfl, n, rfl, ⟨hn, hn2⟩, fun l H2 g2 hl => ⟨l, rfl, ⟨_, sq_lst hl⟩, ?_⟩⟩
    have hD2 := g2 D _ (by simp) hD0
    have hlD : l ≠ D := ne_of hl hD2 (by intro z; cases z)
    refine for_list (D := ⟨_, Q, fun _ _ => False, fun _ _ => False⟩) (K := K) (a := l) (xs := vn (topsL n)) (fun i σ H' => (∀ u o, u ≠ D → H2 u = some o → H' u = some o) ∧ (0 < i → bal b n k c = true) ∧ (∃ ps, H' D = some (.dK (kvP ps)) ∧ Cnt (cntQ (fun x => restSum b n x k c / n) ((topsL n).take i)) ps) ∧ ∃ v6 v7, σ = [some (.int b), some (.int n), some (.int c), some (.int L), some (.int N), some (.ref D), v6, v7]) ⟨fun u o _ e => e, fun z => absurd z (by decide), ⟨[], hD2, Cnt.nil⟩, none, none, rfl⟩ (fun i σ H' _ z => sq_lst (z.1 l _ hlD hl)) ?_ ?_
    · rintro i y σ H' hy ⟨G, _, ⟨ps, hD, hCn⟩, v6, v7, rfl⟩
      obtain ⟨hi, rfl⟩ := vn_get hy
      have hm := (mem_topsQ hn).mp (List.getElem_mem hi)
      have tk := List.take_succ_eq_append_getElem hi
      generalize (topsL n)[i] = x at hm tk ⊢
      have pf : PF b x n := ⟨hbn, hm.1, hm.2, hg⟩
      refine ⟨_, rfl, _, rfl, _, rfl, by show 2 ≤ sizeLine; decide, fun p np => ⟨_, rfl, b, x, n, L, k, c, p, rfl, upd_same, pf, hC, fun l2 H3 g3 hl2 => ⟨l2, ni (pcs b n x k c), rfl, by rw [← vn_ni]; exact sq_lst hl2, ?_⟩⟩⟩
      rw [ni_sum]
      have gg := (Gr.new (W := []) (o := .tup [.int x, .int n]) np).trans g3
      have hD3 := gg D _ (by simp) hD
      have G3 : ∀ u o, u ≠ D → H2 u = some o → H3 u = some o := fun u o h1 e => gg u o (by simp) (G u o h1 e)
      obtain ⟨d1, d2⟩ := pcs_div (b := b) (n := n) (x := x) (k := k) (c := c) hb1 hk1 hn1 hPk
      rw [hN] at d1 d2
      generalize (pcs b n x k c).sum = S at d1 d2 ⊢
      refine ⟨_, rfl, .inl ⟨_, rfl, _, rfl, _, _, rfl, rfl, (show (0 : Int) < ((N : Nat) : Int) by omega), rfl, _, rfl, ?_⟩⟩
      have e0 : (S : Int) % (N : Int) = ((S % N : Nat) : Int) := by rw [← Int.natCast_emod]
      cases hbal : bal b n k c with
      | false =>
        have hr := rest_unbal (x := x) hm.2 hbal
        refine iteTb (by show (!decide (V.int ((S : Int) % (N : Int)) = V.int 0)) = true; rw [decide_eq_false (fun z => hr (d1.mp (by rw [e0] at z; have := V.int.inj z; omega)))]; rfl) ?_
        refine ⟨_, rfl, by show 2 ≤ sizeLine; decide, fun p np => q1 hbal p _ (fun u o _ e => ?_) upd_same⟩
        have e1 := g2 u o (by simp) (g1 u o (by simp) e)
        exact (Gr.new (W := []) (o := .tup [.str "nothing", .int c]) np) u o (by simp) (G3 u o (ne_of_none e nD) e1)
      | true =>
      have hr := rest_bal (x := x) hbal
      refine iteFb (by show (!decide (V.int ((S : Int) % (N : Int)) = V.int 0)) = false; rw [e0, d1.mpr hr]; rfl) ?_
      have ed : (S : Int) / (N : Int) = ((restSum b n x k c / n : Nat) : Int) := by rw [← Int.natCast_ediv, d2 hr]
      obtain ⟨q0, hq0⟩ : ∃ q0, restSum b n x k c / n = q0 := ⟨_, rfl⟩
      rw [hq0] at ed
      have gt := hCn.get q0
      have gt2 : (valV (kvP ps) (Sum.inl ((q0 : Nat) : Int) : Key)).getD (V.int 0) = V.int ((cntQ (fun x => restSum b n x k c / n) ((topsL n).take i) q0 : Nat) : Int) := by
        rw [gt]
        by_cases z : cntQ (fun x => restSum b n x k c / n) ((topsL n).take i) q0 = 0
        · rw [if_pos z, z]
          rfl
        · rw [if_neg z]
          rfl
      have kl : ps.length ≤ 5000 := by
        have := hCn.len (ks := ((topsL n).take i).map fun x => restSum b n x k c / n) fun q hq => cntQ_pos hq
        have h2 := tops_len n
        rw [List.length_map, List.length_take] at this
        omega
      have wd : CDivW ((S : Nat) : Int) ((N : Nat) : Int) := wide_div (b := 8800) (by omega) (by rw [Int.natAbs_natCast]; exact hNb) (by decide) (by decide)
      refine ⟨_, rfl, D, rfl, .inl ⟨_, .inl hD3⟩, _, rfl, _, rfl, _, _, rfl, rfl, wd, ?_⟩
      dsimp only
      rw [ed]
      refine ⟨_, DGet.k (k := Sum.inl ((q0 : Nat) : Int)) hD3, _, _, gt2, rfl, _, rfl, _, rfl, _, rfl, _, _, rfl, rfl, wd, ?_⟩
      dsimp only
      rw [ed]
      refine ⟨D, _, rfl, DPut.k (k := Sum.inl ((q0 : Nat) : Int)) hD3 (by unfold kvP; rw [List.length_map]; exact small5 kl), ?_⟩
      obtain ⟨ps', ep, C'⟩ := hCn.put q0 1 (by omega)
      have e1 : V.int (((cntQ (fun x => restSum b n x k c / n) ((topsL n).take i) q0 : Nat) : Int) + 1) = V.int ((cntQ (fun x => restSum b n x k c / n) ((topsL n).take i) q0 + 1 : Nat) : Int) := rfl
      rw [e1, ep]
      refine ⟨fun u o h1 e => ?_, fun _ => rfl, ⟨ps', upd_same, C'.congr fun z => ?_⟩, _, _, rfl⟩
      · rw [upd_ne h1]
        exact G3 u o h1 e
      · rw [tk, cntQ_app, cntQ_const (ms := [x]) (q0 := q0) (fun r hr => ?_)]
        · rfl
        · rw [List.mem_singleton.mp hr]
          exact hq0
    rintro σ H' ⟨G, hbal, ⟨ps, hD, hCn⟩, v6, v7, rfl⟩
    have one : 0 < (vn (topsL n)).length := by
      rw [vn_len]
      exact List.length_pos_of_mem ((mem_topsQ (x := 1) hn).mpr ⟨by omega, by simp⟩)
    have hbal := hbal one
    rw [vn_len, List.take_length] at hCn
    refine sort_items rfl hD hCn fun ks t H4 g' hk dp => ⟨by show 1 ≤ sizeLine; decide, fun p np => ?_⟩
    have g5 := Gr.new (W := []) (o := .lst [.ref t]) np
    refine q2 hbal ks p t _ (fun u o _ e => ?_) hk upd_same (Dp.kp (Kp.of g5) dp)
    have e1 := g2 u o (by simp) (g1 u o (by simp) e)
    exact g5 u o (by simp) (g' u o (by simp) (G u o (ne_of_none e nD) e1))

end
end Wn
/-! a list backwards: xs[::-1] -/
namespace Wn
open PySem PySem.Spec PyProof.Rows L2
theorem pick_rev (us : List Value) : slicePick us.toArray none none (some (-1)) = us.reverse.toArray := by
  have e : sliceBounds none none (some (-1)) us.toArray.size = (((us.length : Int) - 1), (-1 : Int), (-1 : Int)) := by
    simp [sliceBounds]
  unfold slicePick
  rw [e]
  show (List.filterMap (fun i => us.toArray[i]?) (sliceRange ((us.length : Int) - 1) (-1) (-1))).toArray = _
  congr 1
  have e2 : sliceRange ((us.length : Int) - 1) (-1) (-1) = (List.range us.length).map fun i => us.length - 1 - i := by
    unfold sliceRange
    have c : (if (-1 : Int) > 0 then (if ((us.length : Int) - 1) < -1 then ((-1) - ((us.length : Int) - 1) + (-1) - 1) / (-1) else 0) else (if ((us.length : Int) - 1) > -1 then (((us.length : Int) - 1) - (-1) - (-1) - 1) / (-(-1)) else 0)).toNat = us.length := by
      rw [if_neg (by decide)]
      by_cases z : ((us.length : Int) - 1) > -1
      · rw [if_pos z, show (-(-1 : Int)) = 1 from rfl, Int.ediv_one]
        omega
      · rw [if_neg z]
        omega
    dsimp only
    rw [c]
    apply List.map_congr_left
    intro i hi
    have := List.mem_range.mp hi
    omega
  rw [e2, List.filterMap_map]
  apply List.ext_getElem?
  intro i
  have key : ∀ n, n ≤ us.length → (List.filterMap ((fun i => us.toArray[i]?) ∘ fun i => us.length - 1 - i) (List.range n)) = us.reverse.take n := by
    intro n
    induction n with
    | zero => intro _; rfl
    | succ n ih =>
      intro hn
      rw [List.range_succ, List.filterMap_append, ih (by omega), List.take_succ_eq_append_getElem (by rw [List.length_reverse]; omega), List.getElem_reverse]
      refine congrArg (fun z => us.reverse.take n ++ z) ?_
      show List.filterMap (fun i => us.toArray[us.length - 1 - i]?) [n] = _
      rw [List.filterMap_cons]
      have : us.toArray[us.length - 1 - n]? = some us[us.length - 1 - n] := by
        rw [List.getElem?_toArray, List.getElem?_eq_getElem]
      rw [this]
      rfl
  rw [key us.length (Nat.le_refl _), List.take_of_length_le (by rw [List.length_reverse]; exact Nat.le_refl _)]
def rRvL (K : PySem.W.Frag) : V → V → Hp → VK → Prop := fun x y H Q => ∃ (a : Addr) (xs : List V), x = .ref a ∧ y = .int (-1) ∧ SqL K H a xs ∧ ∀ p, H p = none → Q (.ref p) (upd H p (.lst xs.reverse))
variable {X : Cx} {e st : Expr} {te ts : TE} {pos p2 : Pos}
theorem pe_revL {r : R2} (he : PE X e te) (hs : PE X st ts) (hr : r = rRvL X.K := by rfl) : PE X (.Subscript e (.Slice none none (some st) p2) pos) (tStL r te ts) := by
  subst hr
  refine ⟨fun pins s σ H Q I h => ?_⟩
  refine Subscript_ (thn (he.run pins s σ H _ I h) fun v s1 ⟨x, H1, I1, r1, q1⟩ => ?_)
  refine wpAny_Slice ?_
  rw [evalPart_none]
  refine wpAny_pure (wpAny_pure ?_)
  rw [evalPart_some]
  refine thn (hs.run pins s1 σ H1 _ I1 q1) fun vs s3 ⟨y, H3, I3, ry, q3⟩ => ?_
  obtain ⟨a, xs, rfl, rfl, hx, q⟩ := q3
  cases r1
  obtain ⟨t, rfl⟩ := ry
  have I4 : Inv X pins σ H3 { s3 with heap := s3.heap.push { cls := .type "slice", data := .fields #[.none, .none, .int (-1) t] } } := I3.kept (t' := s3.toks) fun b ob q => Heap.get?_push_of_some _ q
  obtain ⟨its, r, ht, hz⟩ := I4.list hx
  have hlen := r.length
  have hg : wpAny (model X.prog X.w) X.A (getItem (.ref a) (.ref s3.heap.objs.size)) (EP X pins σ Q) X.xe { s3 with heap := s3.heap.push { cls := .type "slice", data := .fields #[.none, .none, .int (-1) t] } } := by
    refine wpAny_getItem_list_slice (st := some (-1)) ht.isList (Heap.IsSliceOf.new ..) .none .none (.int _ _) (by intro z; have := Option.some.inj z; omega) ?_ (by rw [List.size_toArray] <;> omega)
    rw [pick_rev its]
    refine ⟨.ref _, _, I4.laid (t' := s3.toks) (o := .lst xs.reverse) (fun b ob q => Heap.get?_push_of_some _ q) (Nat.le_refl _) ?_, rfl, q _ (I4.hok.fresh (Nat.le_refl _))⟩
    exact ⟨by rw [List.length_reverse]; exact hz, _, 0, r.reverse, Heap.get?_push_size _ rfl⟩
  show wpAny (model X.prog X.w) X.A (subscriptTail e (.Slice none none (some st) p2) (.ref a) (.ref s3.heap.objs.size)) (EP X pins σ Q) X.xe { s3 with heap := s3.heap.push { cls := .type "slice", data := .fields #[.none, .none, .int (-1) t] } }
  exact tail_any (ops := [.ref a, .ref s3.heap.objs.size]) ht.isList.typeIs slot_list_getitem.lookup hg (by with_unfolding_all rfl)
end Wn
/-! counts from both ends; how many there are -/
namespace Wn
open PySem PySem.Spec PyProof.Rows L2
theorem cnt_sum {f : Nat → Nat} {ks : List Nat} (nd : ks.Nodup) : ∀ ms : List Nat, (∀ x ∈ ms, f x ∈ ks) → (ks.map fun q => cntQ f ms q).sum = ms.length
  | [], hh => by
    clear hh
    induction ks with
    | nil => rfl
    | cons k r ih =>
      rw [List.map_cons, List.sum_cons, ih (List.nodup_cons.mp nd).2]
      rfl
  | x :: ms, h => by
    have ih := cnt_sum nd ms fun y hy => h y (List.mem_cons_of_mem _ hy)
    have one : ∀ q, cntQ f (x :: ms) q = (if f x = q then 1 else 0) + cntQ f ms q := fun q => by
      unfold cntQ
      rw [List.filter_cons]
      by_cases e : f x = q
      · rw [if_pos (decide_eq_true e), if_pos e, List.length_cons, Nat.add_comm]
      · rw [if_neg (by simpa using e), if_neg e, Nat.zero_add]
    have split : ∀ l : List Nat, (l.map fun q => cntQ f (x :: ms) q).sum = (l.map fun q => if f x = q then 1 else 0).sum + (l.map fun q => cntQ f ms q).sum := fun l => by
      induction l with
      | nil => rfl
      | cons a r ih =>
        rw [List.map_cons, List.map_cons, List.map_cons, List.sum_cons, List.sum_cons, List.sum_cons, ih, one]
        omega
    have hit : ∀ l : List Nat, l.Nodup → (l.map fun q => if f x = q then 1 else 0).sum = if f x ∈ l then 1 else 0 := fun l nl => by
      induction l with
      | nil => rfl
      | cons a r ih =>
        obtain ⟨n1, n2⟩ := List.nodup_cons.mp nl
        rw [List.map_cons, List.sum_cons, ih n2]
        by_cases e : f x = a
        · rw [if_pos e, if_neg (by rw [e]; exact n1), if_pos (by rw [e]; simp)]
        · rw [if_neg e]
          by_cases m : f x ∈ r
          · rw [if_pos m, if_pos (by simp [m])]
          · rw [if_neg m, if_neg (by simp [m, e])]
    rw [split, hit ks nd, if_pos (h x (by simp)), ih, List.length_cons, Nat.add_comm]
/-- the remainder of the other end -/
theorem rem_neg {b n x i : Nat} (hx : 1 ≤ x) (hxn : x < n) (g : Nat.gcd b n = 1) (gx : Nat.gcd x n = 1) (hn : 2 ≤ n) : rem b n (n - x) i + rem b n x i = n := by
  have h1 : (rem b n (n - x) i + rem b n x i) % n = 0 := by
    unfold rem
    rw [← Nat.add_mod, ← Nat.add_mul, Nat.sub_add_cancel (by omega), Nat.mul_mod_right]
  have h2 := rem_lt (b := b) (n := n) (x := x) (i := i) (by omega)
  have h3 := rem_lt (b := b) (n := n) (x := n - x) (i := i) (by omega)
  have h4 : 1 ≤ rem b n x i := by
    rcases Nat.eq_zero_or_pos (rem b n x i) with z | z
    · have := rem_cop g gx i
      rw [z, Nat.gcd_zero_left] at this
      omega
    · exact z
  obtain ⟨t, ht⟩ := Nat.dvd_of_mod_eq_zero h1
  have : t = 1 := by
    rcases Nat.lt_or_ge t 2 with z | z
    · have : t ≠ 0 := fun z => by
        rw [z, Nat.mul_zero] at ht
        omega
      omega
    · have : n * 2 ≤ n * t := Nat.mul_le_mul_left _ z
      omega
  rw [this, Nat.mul_one] at ht
  exact ht
theorem rest_neg {b n x k : Nat} (hx : 1 ≤ x) (hxn : x < n) (g : Nat.gcd b n = 1) (gx : Nat.gcd x n = 1) (hn : 2 ≤ n) : ∀ c, restSum b n (n - x) k c + restSum b n x k c = n * c
  | 0 => by simp [restSum]
  | c + 1 => by
    have e1 := rest_neg (b := b) (k := k) hx hxn g gx hn c
    have e2 := rem_neg (b := b) (i := k * c) hx hxn g gx hn
    rw [restSum_succ, restSum_succ, Nat.mul_succ]
    omega
theorem rest_pos {b n x k c : Nat} (hx : 1 ≤ x) (hxn : x < n) (g : Nat.gcd b n = 1) (gx : Nat.gcd x n = 1) (hn : 2 ≤ n) (hc : 1 ≤ c) : 1 ≤ restSum b n x k c := by
  obtain ⟨c, rfl⟩ : ∃ d, c = d + 1 := ⟨c - 1, by omega⟩
  rw [restSum_succ]
  have h4 : 1 ≤ rem b n x (k * c) := by
    rcases Nat.eq_zero_or_pos (rem b n x (k * c)) with z | z
    · have := rem_cop g gx (k * c)
      rw [z, Nat.gcd_zero_left] at this
      omega
    · exact z
  omega
/-- the quotient of the other end -/
theorem quo_neg {b n x k c : Nat} (hx : 1 ≤ x) (hxn : x < n) (g : Nat.gcd b n = 1) (gx : Nat.gcd x n = 1) (hn : 2 ≤ n) (h : restSum b n x k c % n = 0) : restSum b n (n - x) k c / n + restSum b n x k c / n = c := by
  have e := rest_neg (b := b) (k := k) hx hxn g gx hn c
  obtain ⟨t, ht⟩ := Nat.dvd_of_mod_eq_zero h
  rw [ht] at e ⊢
  have hle : n * t ≤ n * c := by omega
  have htc : t ≤ c := Nat.le_of_mul_le_mul_left hle (by omega)
  have e2 : restSum b n (n - x) k c = n * (c - t) := by
    rw [Nat.mul_sub]
    omega
  rw [e2, Nat.mul_div_cancel_left _ (by omega), Nat.mul_div_cancel_left _ (by omega)]
  omega
theorem neg_cop {n x : Nat} (hx : x ≤ n) (g : Nat.gcd x n = 1) : Nat.gcd (n - x) n = 1 := by
  have h := Nat.gcd_dvd_left (n - x) n
  have h2 := Nat.gcd_dvd_right (n - x) n
  have h3 : Nat.gcd (n - x) n ∣ x := by
    have := Nat.dvd_sub h2 h
    rwa [show n - (n - x) = x by omega] at this
  have := Nat.dvd_gcd h3 h2
  rw [g] at this
  exact Nat.dvd_one.mp this
end Wn
namespace Wn
open PySem PySem.Spec PyProof.Rows L2
open LamX (Tabs ExtN tLam)
local macro_rules | `(tactic| walk_at "vc") => `(tactic| simp only [cxK, cxK2, start1, start2, start3, tRet, tRetN, tSeq, tNext, tIfS, tAsg, gName, tDrop, tVar, tC, tOp, tUn, tTest, tB, tNot, tAnd, tOr, tAndV, tOrV, tNotV, tIf, tCons, tNil, tCB, tCall, tChain, tAug, ipI, rI, rI0, rU, rIs, rGcd, rEq, rNe, scal,
  List.getElem?_cons_zero, List.getElem?_cons_succ, List.set_cons_zero, List.set_cons_succ, Option.some.injEq, List.cons.injEq, V.int.injEq, V.bl.injEq, V.ref.injEq, V.str.injEq, and_true, true_and, exists_eq_left, exists_eq_left', exists_and_left, exists_and_right, List.append_nil, List.nil_append, List.cons_append, exists_eq_right, exists_eq_right', and_assoc, exists_const, V.ty.injEq, ↓reduceIte, Bool.false_eq_true, Bool.not_true, Bool.not_false, decide_eq_true_eq])

section
variable {P : Program} {w : World} {K : PySem.W.Frag} {mg : Str → Option Value} {base : Heap}

noncomputable def ksOf (g : Nat → Nat) : List Nat := Classical.epsilon (IsKeys g)
theorem IsKeys.is {g : Nat → Nat} {ks : List Nat} (h : IsKeys g ks) : ksOf g = ks := (Classical.epsilon_spec (p := IsKeys g) ⟨ks, h⟩ : IsKeys g (ksOf g)).uniq h
noncomputable def dueQ (b n k c : Nat) : PyData := if bal b n k c = true then .list [prD (cQ b n k c) (ksOf (cQ b n k c))] else .tuple [.str "nothing", .int (c : Nat)]
theorem et_quo {T : Txt K mg} {σ : L2.St} {H : Hp} {b n L k c i j l : Nat} (hi : σ[i]? = some (some (.int (b : Nat)))) (hj : σ[j]? = some (some (.int (n : Nat)))) (hl : σ[l]? = some (some (.int (c : Nat)))) (hbn : BN b n) (hg : Nat.gcd b n = 1) (hn : 2 ≤ n) (hC : CT b n L k c) :
    EvT K (tl T) (tLam (tl T) (TTg (errs T)) (fun E => tCall (sp_quotientsX T) [] E (tCons (tVar i) (tCons (tVar j) (tCons (tVar l) tNil))))) σ H (dueQ b n k c) := by
  unfold dueQ
  cases hb : bal b n k c with
  | false =>
    rw [if_neg (by decide)]
    refine et_outX (f := "value") (w := "nothing") (C := T.C_Nothing) (by unfold errs; simp) fun E H1 g Q ke => ⟨_, hi, _, hj, _, hl, b, n, L, k, c, rfl, hbn, hg, hn, hC, fun z => absurd (hb.symm.trans z) (by decide), fun _ H2 d g2 nd => ?_⟩
    exact ke d _ _ (g2.trans (Gr.new nd)) upd_same (.int _)
  | true =>
    rw [if_pos rfl]
    refine et_outV fun E H1 g Q q => ⟨_, hi, _, hj, _, hl, b, n, L, k, c, rfl, hbn, hg, hn, hC, fun _ ks t H2 g2 hk dp => ?_, fun z => absurd (hb.symm.trans z) (by decide)⟩
    refine q _ H2 g2 ?_
    rw [hk.is]
    exact dp
def sp_law_right (T : Txt K mg) : Sp := fun vs H Q _ => ∃ b n L k c : Nat, vs = [.int b, .int n, .int c, .int L] ∧ Tabs (tl T) H ∧ BN b n ∧ Nat.gcd b n = 1 ∧ 2 ≤ n ∧ n ≤ 800 ∧ CT b n L k c ∧ ∀ H', ExtN H H' → Tabs (tl T) H' → Q (.bl true) H'

theorem prD_sm {g : Nat → Nat} {ks : List Nat} (h : ∀ q ∈ ks, q ≤ 5000 ∧ g q ≤ 5000) (hl : ks.length ≤ 800) : Sm (prD g ks) 600 2 2400 := by
  refine Sm.tup (W := 2) 800 (fun d hd => ?_) (by rw [List.length_map]; exact hl)
  obtain ⟨q, hq, rfl⟩ := List.mem_map.mp hd
  obtain ⟨h1, h2⟩ := h q hq
  refine Sm.tup (W := 0) 2 (fun d hd => ?_) (Nat.le_refl _)
  simp only [List.mem_cons, List.not_mem_nil, or_false] at hd
  rcases hd with rfl | rfl
  · exact Sm.intW (by rw [Int.natAbs_natCast]; exact Nat.lt_of_lt_of_le (show q < 2 ^ 14 by omega) (Nat.pow_le_pow_right (by decide) (by decide)))
  · exact Sm.intW (by rw [Int.natAbs_natCast]; exact Nat.lt_of_lt_of_le (show g q < 2 ^ 14 by omega) (Nat.pow_le_pow_right (by decide) (by decide)))
theorem cQ_key {b n k c q : Nat} (h : 1 ≤ cQ b n k c q) : ∃ x ∈ topsL n, restSum b n x k c / n = q := by
  have := cntQ_pos h
  obtain ⟨x, hx, e⟩ := List.mem_map.mp this
  exact ⟨x, hx, e⟩
theorem cQ_le (b n k c q : Nat) : cQ b n k c q ≤ n := Nat.le_trans (List.length_filter_le _ _) (tops_len n)
theorem cQ_sym {b n k c : Nat} (hn : 2 ≤ n) (hg : Nat.gcd b n = 1) (hb : bal b n k c = true) {q : Nat} (hq : q ≤ c) : cQ b n k c q ≤ cQ b n k c (c - q) := by
  unfold cQ cntQ
  rw [← List.length_map (f := fun x => n - x)]
  refine nodup_sub ?_ fun y hy => ?_
  · have h1 := List.Pairwise.filter (fun x => decide (restSum b n x k c / n = q)) (tops_nodup n)
    refine List.pairwise_map.mpr (List.Pairwise.imp_of_mem (R := (· ≠ ·)) (fun {x y} hx hy ne e => ne ?_) h1)
    have a1 := (mem_topsQ hn).mp (List.mem_filter.mp hx).1
    have a2 := (mem_topsQ hn).mp (List.mem_filter.mp hy).1
    omega
  · obtain ⟨x, hx, rfl⟩ := List.mem_map.mp hy
    obtain ⟨h1, h2⟩ := List.mem_filter.mp hx
    rw [decide_eq_true_eq] at h2
    obtain ⟨a1, a2⟩ := (mem_topsQ hn).mp h1
    have x1 : 1 ≤ x := by
      rcases Nat.eq_zero_or_pos x with z | z
      · rw [z, Nat.gcd_zero_left] at a2
        omega
      · exact z
    have := quo_neg x1 a1 hg a2 hn (rest_bal (x := x) hb)
    refine List.mem_filter.mpr ⟨(mem_topsQ hn).mpr ⟨by omega, neg_cop (by omega) a2⟩, decide_eq_true ?_⟩
    have h3 : restSum b n x k c / n = q := h2
    show restSum b n (n - x) k c / n = c - q
    omega
theorem cQ_range {b n k c q : Nat} (hn : 2 ≤ n) (hg : Nat.gcd b n = 1) (hc : 1 ≤ c) (hb : bal b n k c = true) (h : 1 ≤ cQ b n k c q) : 1 ≤ q ∧ q < c := by
  obtain ⟨x, hx, e⟩ := cQ_key h
  obtain ⟨a1, a2⟩ := (mem_topsQ hn).mp hx
  have x1 : 1 ≤ x := by
    rcases Nat.eq_zero_or_pos x with z | z
    · rw [z, Nat.gcd_zero_left] at a2
      omega
    · exact z
  have pos : ∀ y, 1 ≤ y → y < n → Nat.gcd y n = 1 → 1 ≤ restSum b n y k c / n := fun y y1 y2 y3 => by
    have h1 := rest_pos (b := b) (k := k) (c := c) y1 y2 hg y3 hn hc
    have h2 := rest_bal (x := y) hb
    exact Nat.div_pos (Nat.le_of_dvd h1 (Nat.dvd_of_mod_eq_zero h2)) (by omega)
  have := quo_neg x1 a1 hg a2 hn (rest_bal (x := x) hb)
  have p1 := pos x x1 a1 a2
  have p2 := pos (n - x) (by omega) (by omega) (neg_cop (by omega) a2)
  omega
theorem keys_rev {b n k c : Nat} {ks : List Nat} (hn : 2 ≤ n) (hg : Nat.gcd b n = 1) (hc : 1 ≤ c) (hb : bal b n k c = true) (hk : IsKeys (cQ b n k c) ks) : ks.reverse.map (fun q => c - q) = ks ∧ ∀ q ∈ ks, cQ b n k c (c - q) = cQ b n k c q := by
  have rg : ∀ q ∈ ks, 1 ≤ q ∧ q < c := fun q hq => cQ_range hn hg hc hb ((hk.2 q).mp hq)
  have sym : ∀ q ∈ ks, cQ b n k c (c - q) = cQ b n k c q := fun q hq => by
    have h := rg q hq
    refine Nat.le_antisymm ?_ (cQ_sym hn hg hb (by omega))
    have := cQ_sym (q := c - q) hn hg hb (by omega)
    rwa [show c - (c - q) = q by omega] at this
  refine ⟨IsKeys.uniq (g := cQ b n k c) ⟨?_, fun q => ?_⟩ hk, sym⟩
  · rw [List.pairwise_map, List.pairwise_reverse]
    refine List.Pairwise.imp_of_mem (fun {x y} hx hy lt => ?_) hk.1
    have h1 := rg x hx
    have h2 := rg y hy
    omega
  · rw [List.mem_map]
    constructor
    · rintro ⟨z, hz, rfl⟩
      have hz := List.mem_reverse.mp hz
      rw [sym z hz]
      exact (hk.2 z).mp hz
    · intro h
      have h1 := cQ_range hn hg hc hb h
      have hm := (hk.2 q).mpr h
      refine ⟨c - q, List.mem_reverse.mpr ((hk.2 _).mpr ?_), by omega⟩
      rw [sym q hm]
      exact h
theorem keys_len {b n k c : Nat} {ks : List Nat} (hk : IsKeys (cQ b n k c) ks) : ks.length ≤ n := by
  have := nodup_sub (ys := (topsL n).map fun x => restSum b n x k c / n) (hk.1.imp fun h => Nat.ne_of_lt h) fun q hq => cntQ_pos ((hk.2 q).mp hq)
  rw [List.length_map] at this
  exact Nat.le_trans this (tops_len n)
theorem keys_two {b n k : Nat} {ks : List Nat} (hn : 2 ≤ n) (hg : Nat.gcd b n = 1) (hb : bal b n k 2 = true) (hk : IsKeys (cQ b n k 2) ks) : ks.length = 1 := by
  have rg : ∀ q ∈ ks, q = 1 := fun q hq => by
    have := cQ_range hn hg (by decide) hb ((hk.2 q).mp hq)
    omega
  have le := nodup_sub (ys := [1]) (hk.1.imp fun h => Nat.ne_of_lt h) fun q hq => by rw [rg q hq]; simp
  have h1 : (1 : Nat) ∈ topsL n := (mem_topsQ hn).mpr ⟨by omega, by simp⟩
  have h2 : 1 ≤ cQ b n k 2 (restSum b n 1 k 2 / n) := by
    unfold cQ cntQ
    exact List.length_pos_of_mem (List.mem_filter.mpr ⟨h1, decide_eq_true rfl⟩)
  have := List.length_pos_of_mem ((hk.2 _).mpr h2)
  simp at le
  omega
theorem keys_sum {b n k c : Nat} {ks : List Nat} (hk : IsKeys (cQ b n k c) ks) : (ks.map (cQ b n k c)).sum = (topsL n).length := by
  have := cnt_sum (f := fun x => restSum b n x k c / n) (ks := ks) (hk.1.imp fun h => Nat.ne_of_lt h) (topsL n) fun x hx => (hk.2 _).mpr (by
    unfold cQ cntQ
    exact List.length_pos_of_mem (List.mem_filter.mpr ⟨hx, decide_eq_true rfl⟩))
  exact this
theorem ne_self (z : Str) : (!decide (V.str z = V.str z)) = false := by rw [decide_eq_true rfl]; rfl
theorem Sm.str {z : Str} {B : Nat} (h : ((PyData.str z).showable && (PyData.str z).leavesShort B && !(PyData.str z).hasDict && (PyData.str z).canLay0) = true) : Sm (.str z) B 0 z.cps.size := by
  simp only [Bool.and_eq_true, Bool.not_eq_true'] at h
  exact ⟨h.1.1.1, h.1.1.2, h.1.2, h.2, Nat.le_refl _, Nat.le_refl _⟩
theorem prs_inv {H : Hp} {g : Nat → Nat} : ∀ {xs : List V} {ks : List Nat}, DpAll K H xs (ks.map fun q => PyData.tuple [.int (q : Nat), .int (g q : Nat)]) → xs.length = ks.length ∧ ∀ i y, xs[i]? = some y → ∃ (hi : i < ks.length) (a : Addr), y = .ref a ∧ SqT K H a [.int (ks[i] : Nat), .int (g ks[i] : Nat)]
  | [], [], _ => ⟨rfl, fun i y h => by simp at h⟩
  | [], _ :: _, h => by cases h
  | _ :: _, [], h => by cases h
  | x :: xs, q :: ks, h => by
    rw [List.map_cons] at h
    cases h with
    | cons h1 h2 =>
      obtain ⟨e, i2⟩ := prs_inv h2
      refine ⟨congrArg (· + 1) e, fun i y hy => ?_⟩
      cases i with
      | zero =>
        have : x = y := by simpa using hy
        subst this
        cases h1 with
        | @tup a zs _ s t =>
          cases t with
          | cons t1 t2 =>
            cases t2 with
            | cons t3 t4 =>
              cases t4
              rw [dp_int t1, dp_int t3] at s
              exact ⟨by simp, a, rfl, s⟩
      | succ i =>
        obtain ⟨hi, a, e, s⟩ := i2 i y (by simpa using hy)
        exact ⟨by simpa using hi, a, e, by simpa using s⟩
theorem eqv_prs (g : Nat → Nat) (ks : List Nat) : PyData.eqv (.list (ks.map fun q => PyData.tuple [.int (q : Nat), .int (g q : Nat)])) (.list (ks.map fun q => PyData.tuple [.int (q : Nat), .int (g q : Nat)])) = true := by
  rw [PyData.eqv]
  induction ks with
  | nil => rfl
  | cons r rs ih =>
    rw [List.map_cons]
    show (PyData.eqv (PyData.tuple [.int (r : Nat), .int (g r : Nat)]) (PyData.tuple [.int (r : Nat), .int (g r : Nat)]) && PyData.eqvAll _ _) = true
    rw [ih, Bool.and_true]
    simp [PyData.eqv, PyData.eqvAll]
theorem prL_sm {g : Nat → Nat} {ks : List Nat} (h : ∀ q ∈ ks, q ≤ 5000 ∧ g q ≤ 5000) (hl : ks.length ≤ 800) : Sm (.list (ks.map fun q => PyData.tuple [.int (q : Nat), .int (g q : Nat)])) 600 2 2400 := by
  refine Sm.lst (W := 2) 800 (fun d hd => ?_) (by rw [List.length_map]; exact hl)
  obtain ⟨q, hq, rfl⟩ := List.mem_map.mp hd
  obtain ⟨h1, h2⟩ := h q hq
  refine Sm.tup (W := 0) 2 (fun d hd => ?_) (Nat.le_refl _)
  simp only [List.mem_cons, List.not_mem_nil, or_false] at hd
  rcases hd with rfl | rfl
  · exact Sm.intW (by rw [Int.natAbs_natCast]; exact Nat.lt_of_lt_of_le (show q < 2 ^ 14 by omega) (Nat.pow_le_pow_right (by decide) (by decide)))
  · exact Sm.intW (by rw [Int.natAbs_natCast]; exact Nat.lt_of_lt_of_le (show g q < 2 ^ 14 by omega) (Nat.pow_le_pow_right (by decide) (by decide)))
inductive TP (H : Hp) : List V → List (Nat × Nat) → Prop
  | nil : TP H [] []
  | cons {a : Addr} {p : Nat × Nat} {vs : List V} {ps : List (Nat × Nat)} : H a = some (.tup [.int (p.1 : Nat), .int (p.2 : Nat)]) → TP H vs ps → TP H (.ref a :: vs) (p :: ps)
theorem TP.gr {H H' : Hp} {vs : List V} {ps : List (Nat × Nat)} (g : Gr [] H H') (h : TP H vs ps) : TP H' vs ps := by
  induction h with
  | nil => exact .nil
  | cons a _ ih => exact .cons (g _ _ (by simp) a) ih
theorem TP.app {H : Hp} {vs vs2 : List V} {ps ps2 : List (Nat × Nat)} (h : TP H vs ps) (h2 : TP H vs2 ps2) : TP H (vs ++ vs2) (ps ++ ps2) := by
  induction h with
  | nil => exact h2
  | cons a _ ih => exact .cons a ih
theorem TP.upd {H : Hp} {D : Addr} {o : HO} {xs : List V} {vs : List V} {ps : List (Nat × Nat)} (hD : H D = some (.lst xs)) (h : TP H vs ps) : TP (upd H D o) vs ps := by
  induction h with
  | nil => exact .nil
  | cons ha _ ih => exact .cons (by rw [upd_ne (ne_of ha hD (by intro z; cases z))]; exact ha) ih
theorem TP.dp {H : Hp} {vs : List V} {ps : List (Nat × Nat)} (h : TP H vs ps) : DpAll K H vs (ps.map fun p => PyData.tuple [.int (p.1 : Nat), .int (p.2 : Nat)]) := by
  induction h with
  | nil => exact .nil
  | cons a _ ih => exact .cons (dp_tup a (.cons (.int _) (.cons (.int _) .nil))) ih
theorem okG_law_right (T : Txt K mg) (B : Tbs T base) : FnG P w K mg base CX0 11 T.d_law_right.f T.d_law_right.fd ["b", "n", "cut", "size"] (sp_law_right T) := by
  refine fnGc0 T.d_law_right.F sc_law_right (fun vs H Q E h => ?_) (fun cdv A outer s H vs Q E hcc hgd hr h => ?_)
  · obtain ⟨b, n, L, k, c, rfl, _⟩ := h; rfl
  · have hu := hu_of hr
    have hcode : cdv = .ref T.k_law_right := hcc.symm.trans T.e_law_right
    refine ⟨_, (pss_cons (ps_set (i := 4) sc_law_right.nd rfl (by first | exact .inl rfl | exact .inr rfl) (pe_call (ok_law_own T) (hr.mono (by decide)) (by rfl) T.d_law_own.m T.d_law_own.F.kp T.d_law_own.b .nil pass0 (pa_cons (pv 0) (pa_cons (pv 1) (pa_cons (pv 2) (pa_cons (pv 3) pa_nil))))))
      (pss_cons (ps_set (i := 5) sc_law_right.nd rfl (by first | exact .inl rfl | exact .inr rfl) (pe_lst (pa_cons (pe_outc (T := tl T) (TT := TTout T) (k := 8) (by rfl) T.d_law_outcome.m T.d_law_outcome.F.kp T.d_law_outcome.F rfl T.d_law_outcome.b sc_law_outcome rfl (by first | exact .inl rfl | exact .inr (.inl rfl)) (gives_out T rfl rfl) (fun pins σ H s Q I hT h => lam_plain I (B.tb_law_right) hcode (hm_law_right T) (hu_law_right T) hT rfl (LamD.has (lamD_by (N := ["b", "n", "cut", "size", "due", "heard", "pairs", "many", "often"]) (sc := defScope s_law_right) (by decide +kernel)) I.ok) (fun _ _ _ _ _ _ => rfl) h) (hr.mono (by decide)) (lamD_by (N := ["b", "n", "cut", "size", "due", "heard", "pairs", "many", "often"]) (sc := defScope s_law_right) (by decide +kernel)) (fun _ _ _ _ _ _ _ hr => (pe_call (okX_quotients T) (hr.mono (by decide)) (by rfl) T.d_quotients.m T.d_quotients.F.kp T.d_quotients.b .nil (passes_call (takes_of rfl rfl rfl rfl) (fun _ _ _ _ z => z)) (pa_cons (pv 0) (pa_cons (pv 1) (pa_cons (pv 2) pa_nil)))))) (pa_cons (pe_outc (T := tl T) (TT := TTout T) (k := 8) (by rfl) T.d_law_outcome.m T.d_law_outcome.F.kp T.d_law_outcome.F rfl T.d_law_outcome.b sc_law_outcome rfl (by first | exact .inl rfl | exact .inr (.inl rfl)) (gives_out T rfl rfl) (fun pins σ H s Q I hT h => lam_dflt I (B.tb_law_right) hcode (hm_law_right T) (hu_law_right T) hT rfl rfl (LamD.has (lamD_by (N := ["b", "n", "cut", "size", "due", "heard", "pairs", "many", "often"]) (sc := defScope s_law_right) (by decide +kernel)) I.ok) (fun _ _ _ _ _ _ _ _ => ⟨_, rfl, rfl⟩) rfl (fun _ _ z => z) h) (hr.mono (by decide)) (lamD_by (N := ["b", "n", "cut", "size", "due", "heard", "pairs", "many", "often"]) (sc := defScope s_law_right) (by decide +kernel)) (fun _ _ _ _ _ _ _ hr => (pe_call (okX_quotients T) (hr.mono (by decide)) (by rfl) T.d_quotients.m T.d_quotients.F.kp T.d_quotients.b .nil (passes_call (takes_of rfl rfl rfl rfl) (fun _ _ _ _ z => z)) (pa_cons (pv 0) (pa_cons (pv 1) (pa_cons (pv 2) pa_nil)))))) pa_nil))))
      (pss_cons (ps_if (pt_cmpR op_ne (pe_callB (r := rRepr K) (call_repr hgd (gu_of hr)) (by rfl) T.b_repr (by decide +kernel) (pa_cons (pv 5) pa_nil)) (pe_callB (r := rRepr K) (call_repr hgd (gu_of hr)) (by rfl) T.b_repr (by decide +kernel) (pa_cons (pe_lst (pa_cons (pv 4) (pa_cons (pv 4) pa_nil))) pa_nil)) (nomark _)) (pss_one (ps_ret pe_bl)) pss_nil)
      (pss_cons (ps_if (pt_not (pt_val (pe_callB (r := rIs K) call_is (by rfl) T.b_isinstance (by decide +kernel) (pa_cons (pv 4) (pa_cons (pe_bltn (v := .ty "list") (by rfl) T.b_list (by decide +kernel) rfl) pa_nil))))) (pss_one (ps_ret pe_bl)) pss_nil)
      (pss_cons (ps_set (i := 6) sc_law_right.nd rfl (by first | exact .inl rfl | exact .inr rfl) (pe_callTy (r := rLsO K) call_lsO (by rfl) T.b_list (by decide +kernel) (pa_cons (pe_ix (r := rIxL K) ix_list (pv 4) pe_int (fun _ _ => rfl)) pa_nil)))
      (pss_cons (ps_if (PW.pt (pw_or (pt_cmpR (r := rNeD K) (op_neD hr.units) (pe_lc (own := [("many", 7), ("often", 8)]) (g := gTup K 2 (gCons (gName 7) (gCons (gName 8) gNil))) (tt := tYes) rfl sc_law_right.nd (pi_list (pe_revL (r := rRvL K) (pv 6) (pe_un un_neg pe_int))) (blkOk_by (own := [("many", 7), ("often", 8)]) (N := ["b", "n", "cut", "size", "due", "heard", "pairs", "many", "often"]) (sc := defScope s_law_right) (by decide +kernel)) (fun _ _ _ _ _ => (pg_tup (by rfl) (pgs_cons (pg_name (i := 7) sc_law_right.nd rfl (by first | exact .inl rfl | exact .inr rfl)) (pgs_cons (pg_name (i := 8) sc_law_right.nd rfl (by first | exact .inl rfl | exact .inr rfl)) pgs_nil)))) (fun _ _ _ _ _ => pts_nil) (fun _ _ _ _ _ => (pe_tup (pa_cons (pe_op op_sub (pv 2) (pv 7)) (pa_cons (pv 8) pa_nil))))) (pv 6) (nomark _)) (pw_or1 (PW.pt (pw_and (pt_cmpR op_eq (pv 2) pe_int (nomark _)) (pw_and1 (pt_cmpR op_ne (pe_callB (r := rLn K) call_ln (by rfl) T.b_len PySem.boot_len (pa_cons (pv 6) pa_nil)) pe_int (nomark _)))))))) (pss_one (ps_ret pe_bl)) pss_nil)
      (pss_one (ps_ret (pe_cmpR op_eq (pe_callB (r := rSum K) (cr_sum rfl) (by rfl) T.b_sum (by decide +kernel) (pa_cons (pe_lc (own := [("many", 7), ("often", 8)]) (g := gTup K 2 (gCons (gName 7) (gCons (gName 8) gNil))) (tt := tYes) rfl sc_law_right.nd (pi_list (pv 6)) (blkOk_by (own := [("many", 7), ("often", 8)]) (N := ["b", "n", "cut", "size", "due", "heard", "pairs", "many", "often"]) (sc := defScope s_law_right) (by decide +kernel)) (fun _ _ _ _ _ => (pg_tup (by rfl) (pgs_cons (pg_name (i := 7) sc_law_right.nd rfl (by first | exact .inl rfl | exact .inr rfl)) (pgs_cons (pg_name (i := 8) sc_law_right.nd rfl (by first | exact .inl rfl | exact .inr rfl)) pgs_nil)))) (fun _ _ _ _ _ => pts_nil) (fun _ _ _ _ _ => (pv 8))) pa_nil)) (pe_callB (r := rLn K) call_ln (by rfl) T.b_len PySem.boot_len (pa_cons (pe_call (ok_law_tops T) (hr.mono (by decide)) (by rfl) T.d_law_tops.m T.d_law_tops.F.kp T.d_law_tops.b .nil pass0 (pa_cons (pv 1) pa_nil)) pa_nil)) (nomark _)))))))))), ?_⟩
    obtain ⟨b, n, L, k, c, rfl, hT, hbn, hg, hn, hn8, hC, q⟩ := h
    obtain ⟨hb1, hb2, hn1, hn2⟩ := id hbn
    obtain ⟨hP, hc2, hk1, hL⟩ := id hC
    obtain ⟨cd, ce⟩ := hC.d
    have hLn := per_le hn1 hg hP
    have hcL : c ≤ L := Nat.le_of_dvd hP.1 cd
    refine ⟨_, rfl, _, rfl, _, rfl, _, rfl, b, n, L, k, c, rfl, hbn, hg, hn, hn8, hC, fun hb p H1 g1 hp => ?_, fun hb ks p u H1 g1 hk hp dp => ?_⟩
    · have ed : dueQ b n k c = .tuple [.str "nothing", .int (c : Nat)] := by
        unfold dueQ
        rw [if_neg (by rw [hb]; decide)]
      have hpd : Dp K H1 (.ref p) (dueQ b n k c) := by
        rw [ed]
        exact dp_tup hp (.cons (.str _) (.cons (.int _) .nil))
      have sm : Sm (dueQ b n k c) 600 3 2401 := by
        rw [ed]
        refine Sm.mono (Sm.tup (B := 600) (D := 0) (W := 7) 2 (fun d hd => ?_) (Nat.le_refl _)) (by decide) (by decide)
        simp only [List.mem_cons, List.not_mem_nil, or_false] at hd
        rcases hd with rfl | rfl
        · exact ⟨by decide +kernel, by decide +kernel, by decide +kernel, by decide +kernel, by decide +kernel, by decide +kernel⟩
        · exact Sm.mono (Sm.intW (by rw [Int.natAbs_natCast]; exact Nat.lt_of_lt_of_le (show c < 2 ^ 14 by omega) (Nat.pow_le_pow_right (by decide) (by decide)))) (Nat.le_refl _) (by decide)
      have t1 := tabsGr hT g1
      have su2 : Sm (.list [dueQ b n k c, dueQ b n k c]) 600 4 4804 := by
        refine Sm.lst (W := 2401) 2 (fun u hu => ?_) (Nat.le_refl _)
        simp only [List.mem_cons, List.not_mem_nil, or_false] at hu
        rcases hu with rfl | rfl <;> exact sm
      refine stt_asgL (K := K) t1 (etl_lst (ets_cons (et_quo rfl rfl rfl hbn hg hn hC) (ets_cons (et_quo rfl rfl rfl hbn hg hn hC) ets_nil))) fun l1 xs1 H4 g4 t4 e4 a4 => ?_
      have hp4 := Dp.kp (kpExt g4) hpd
      refine ⟨_, rfl, _, _, rfl, dp_lst e4 a4, su2.fitsB, ?_⟩
      refine ⟨_, rfl, _, rfl, by show 2 ≤ sizeLine; decide, fun l2 nl2 => ?_⟩
      have g5 : Gr [] H4 (upd H4 l2 (.lst [.ref p, .ref p])) := Gr.new nl2
      have hp5 := Dp.kp (Kp.of g5) hp4
      refine ⟨_, _, rfl, dp_lst upd_same (.cons hp5 (.cons hp5 .nil)), su2.fitsB, rfl, _, rfl, ?_⟩
      rw [ne_self]
      refine iteF ?_
      have t5 := tabsGr t4 g5
      have E5 : ExtN H (upd H4 l2 (.lst [.ref p, .ref p])) := (ExtN.of fun u o e => g1 u o (by simp) e).trans (g4.trans (ExtN.of fun u o e => g5 u o (by simp) e))
      generalize upd H4 l2 (.lst [.ref p, .ref p]) = H5 at g5 hp5 t5 E5 ⊢
    
      have hq := ExtN.tup g4 hp
      refine ⟨_, rfl, _, "list", rfl, "tuple", ⟨ty_tup (g5 p _ (by simp) hq), by decide, by decide⟩, false, rfl, iteT ?_⟩
      exact q H5 E5 t5
    have ed : dueQ b n k c = .list [prD (cQ b n k c) ks] := by
      unfold dueQ
      rw [if_pos hb, hk.is]
    have hpd : Dp K H1 (.ref p) (dueQ b n k c) := by
      rw [ed]
      exact dp_lst hp (.cons dp .nil)
    have kl := keys_len hk
    have psm : Sm (prD (cQ b n k c) ks) 600 2 2400 := prD_sm (fun q hq => by
      have h1 := cQ_range hn hg (by omega) hb ((hk.2 q).mp hq)
      have h2 := cQ_le b n k c q
      omega) (by omega)
    have sm : Sm (dueQ b n k c) 600 3 2401 := by
      rw [ed]
      exact Sm.lst (W := 2400) 1 (fun u hu => by rw [List.mem_singleton.mp hu]; exact psm) (Nat.le_refl _)
    have t1 := tabsGr hT g1
    have su2 : Sm (.list [dueQ b n k c, dueQ b n k c]) 600 4 4804 := by
      refine Sm.lst (W := 2401) 2 (fun u hu => ?_) (Nat.le_refl _)
      simp only [List.mem_cons, List.not_mem_nil, or_false] at hu
      rcases hu with rfl | rfl <;> exact sm
    refine stt_asgL (K := K) t1 (etl_lst (ets_cons (et_quo rfl rfl rfl hbn hg hn hC) (ets_cons (et_quo rfl rfl rfl hbn hg hn hC) ets_nil))) fun l1 xs1 H4 g4 t4 e4 a4 => ?_
    have hp4 := Dp.kp (kpExt g4) hpd
    refine ⟨_, rfl, _, _, rfl, dp_lst e4 a4, su2.fitsB, ?_⟩
    refine ⟨_, rfl, _, rfl, by show 2 ≤ sizeLine; decide, fun l2 nl2 => ?_⟩
    have g5 : Gr [] H4 (upd H4 l2 (.lst [.ref p, .ref p])) := Gr.new nl2
    have hp5 := Dp.kp (Kp.of g5) hp4
    refine ⟨_, _, rfl, dp_lst upd_same (.cons hp5 (.cons hp5 .nil)), su2.fitsB, rfl, _, rfl, ?_⟩
    rw [ne_self]
    refine iteF ?_
    have t5 := tabsGr t4 g5
    have E5 : ExtN H (upd H4 l2 (.lst [.ref p, .ref p])) := (ExtN.of fun u o e => g1 u o (by simp) e).trans (g4.trans (ExtN.of fun u o e => g5 u o (by simp) e))
    generalize upd H4 l2 (.lst [.ref p, .ref p]) = H5 at g5 hp5 t5 E5 ⊢
    
    have hq := g5 p _ (by simp) (ExtN.lst g4 hp)
    refine ⟨_, rfl, _, "list", rfl, "list", ⟨.base (.lst hq), by decide, by decide⟩, true, rfl, iteF ?_⟩
    have dp5 := Dp.kp (Kp.of g5) (Dp.kp (kpExt g4) dp)
    unfold prD at dp5
    cases dp5 with
    | @tup u xs _ su tu =>
    obtain ⟨xl, xg⟩ := prs_inv tu
    have kn : ks.length ≤ 800 := by omega
    refine ⟨_, rfl, p, _, _, .ref u, rfl, rfl, sq_lst hq, atI_nat (j := 0) rfl, u, xs, rfl, .inr su, fun P nP => ?_⟩
    have g6 : Gr [] H5 (upd H5 P (.lst xs)) := Gr.new nP
    have hP6 : (upd H5 P (.lst xs)) P = some (.lst xs) := upd_same
    have E6 := E5.trans (ExtN.of fun u o e => g6 u o (by simp) e)
    have t6 := tabsGr t5 g6
    have tu6 := DpAll.kp (Kp.of g6) tu
    generalize upd H5 P (.lst xs) = H6 at g6 hP6 E6 t6 tu6 ⊢
    obtain ⟨kr, ksy⟩ := keys_rev hn hg (by omega) hb hk
    refine ⟨_, rfl, _, rfl, P, xs, rfl, rfl, sq_lst hP6, fun R nR => ?_⟩
    have g7 : Gr [] H6 (upd H6 R (.lst xs.reverse)) := Gr.new nR
    have hR7 : (upd H6 R (.lst xs.reverse)) R = some (.lst xs.reverse) := upd_same
    have E7 := E6.trans (ExtN.of fun u o e => g7 u o (by simp) e)
    have t7 := tabsGr t6 g7
    have tu7 := DpAll.kp (Kp.of g7) tu6
    have hP7 := g7 P _ (by simp) hP6
    generalize upd H6 R (.lst xs.reverse) = H7 at g7 hR7 E7 t7 tu7 hP7 ⊢
    refine ⟨R, rfl, ⟨_, sq_lst hR7⟩, fun D nD => ?_⟩
    refine lc_list (K := K) (a := R) (xs := xs.reverse) (fun i H' => Gr [] H7 H' ∧ ∃ zs : List V, H' D = some (.lst zs) ∧ zs.length = i ∧ TP H' zs ((ks.reverse.take i).map fun q => (c - q, cQ b n k c q))) ⟨Gr.new nD, [], upd_same, rfl, .nil⟩ (fun i H' _ z => sq_lst (z.1 R _ (by simp) hR7)) ?_ ?_
    · rintro i y H' hy ⟨G, zs, hD, zl, dz⟩
      have hi : i < xs.length := by
        have := (List.getElem?_eq_some_iff.mp hy).1
        rwa [List.length_reverse] at this
      rw [List.getElem?_reverse hi] at hy
      obtain ⟨hj, a, rfl, sa⟩ := xg _ _ hy
      have hir : i < ks.reverse.length := by rw [List.length_reverse]; omega
      have eq : ks.reverse[i] = ks[xs.length - 1 - i] := by
        rw [List.getElem_reverse]
        simp only [xl]
      have tk := List.take_succ_eq_append_getElem hir
      rw [eq] at tk
      have hq := List.getElem_mem hj
      generalize ks[xs.length - 1 - i] = q0 at sa tk hq ⊢
      have hqr := cQ_range hn hg (by omega) hb ((hk.2 q0).mp hq)
      have sa' := (Kp.of ((g6.trans g7).trans G)).sqT sa
      refine ⟨a, _, rfl, sa', rfl, _, _, rfl, _, _, rfl, ⟨rfl, ?_⟩⟩
      refine ⟨rfl, ?_⟩
      dsimp only [tYes]
      refine iteT ⟨_, rfl, _, rfl, _, _, rfl, rfl, ?_⟩
      dsimp only
      have esub : ((c : Int) - (q0 : Int)) = ((c - q0 : Nat) : Int) := by omega
      rw [esub]
      refine ⟨_, rfl, by show 2 ≤ sizeLine; decide, fun p9 np9 => ?_⟩
      have g9 := Gr.new (W := []) (o := .tup [.int ((c - q0 : Nat) : Int), .int (cQ b n k c q0 : Nat)]) np9
      have d9 : (upd H' p9 (.tup [.int ((c - q0 : Nat) : Int), .int (cQ b n k c q0 : Nat)])) p9 = some (.tup [.int ((c - q0 : Nat) : Int), .int (cQ b n k c q0 : Nat)]) := upd_same
      generalize upd H' p9 (.tup [.int ((c - q0 : Nat) : Int), .int (cQ b n k c q0 : Nat)]) = H9 at g9 d9 ⊢
      have hD9 := g9 D _ (by simp) hD
      refine ⟨zs, hD9, by rw [zl]; exact small5 (by omega), fun u o _ e => ?_, zs ++ [.ref p9], upd_same, by rw [List.length_append, zl]; rfl, ?_⟩
      · rw [upd_ne (ne_of_none e nD)]
        exact g9 u o (by simp) (G u o (by simp) e)
      · rw [tk, List.map_append]
        exact ((dz.gr g9).app (.cons (p := (c - q0, cQ b n k c q0)) d9 .nil)).upd hD9
    rintro H8 ⟨g8, zs, hD, zl, dz⟩
    rw [List.take_of_length_le (by rw [List.length_reverse, List.length_reverse]; omega)] at dz
    have dz := dz.dp (K := K)
    rw [List.map_map] at dz
    have ed2 : (ks.reverse.map fun q => PyData.tuple [.int ((c - q : Nat) : Int), .int (cQ b n k c q : Nat)]) = ks.map fun q => PyData.tuple [.int (q : Nat), .int (cQ b n k c q : Nat)] := by
      conv => rhs; rw [← kr]
      rw [List.map_map]
      refine List.map_congr_left fun q hq => ?_
      show _ = PyData.tuple [.int ((c - q : Nat) : Int), .int (cQ b n k c (c - q) : Nat)]
      rw [ksy q (List.mem_reverse.mp hq)]
    have dz : DpAll K H8 zs (ks.reverse.map fun q => PyData.tuple [.int ((c - q : Nat) : Int), .int (cQ b n k c q : Nat)]) := dz
    rw [ed2] at dz
    have qb : ∀ q ∈ ks, q ≤ 5000 ∧ cQ b n k c q ≤ 5000 := fun q hq => by
      have h1 := cQ_range hn hg (by omega) hb ((hk.2 q).mp hq)
      have h2 := cQ_le b n k c q
      omega
    have hP8 := g8 P _ (by simp) hP7
    have tu8 := DpAll.kp (Kp.of g8) tu7
    refine ⟨_, rfl, _, _, dp_lst hD dz, dp_lst hP8 tu8, (prL_sm qb (by omega)).shaped, (prL_sm qb (by omega)).shaped, _, rfl, ?_⟩
    rw [eqv_prs]
    refine iteF ?_
    have t8 := tabsGr t7 g8
    have E8 := E7.trans (ExtN.of fun u o e => g8 u o (by simp) e)
    have last : tRet (tOp rEq (tCB (rSum K) (tCons (tLc (iList K (tVar 6)) (gTup K 2 (gCons (gName 7) (gCons (gName 8) gNil))) tYes (tVar 8) [7, 8]) tNil)) (tCB (rLn K) (tCons (tCall sp_law_tops [] E0 (tCons (tVar 1) tNil)) tNil))) { nx := fun x H' => Q V.non H', rt := Q } [some (.int b), some (.int n), some (.int c), some (.int L), some (.ref p), some (.ref l1), some (.ref P), none, none] H8 := by
      refine ⟨_, rfl, P, rfl, ⟨_, sq_lst hP8⟩, fun D nD => ?_⟩
      refine lc_list (K := K) (a := P) (xs := xs) (fun i H' => Gr [] H8 H' ∧ H' D = some (.lst (vn ((ks.take i).map (cQ b n k c))))) ⟨Gr.new nD, upd_same⟩ (fun i H' _ z => sq_lst (z.1 P _ (by simp) hP8)) ?_ ?_
      · rintro i y H' hy ⟨G, hD⟩
        obtain ⟨hj, a, rfl, sa⟩ := xg _ _ hy
        have tk := List.take_succ_eq_append_getElem hj
        generalize ks[i] = q0 at sa tk ⊢
        have sa' := (Kp.of (((g6.trans g7).trans g8).trans G)).sqT sa
        refine ⟨a, _, rfl, sa', rfl, _, _, rfl, _, _, rfl, ⟨rfl, ?_⟩⟩
        refine ⟨rfl, ?_⟩
        dsimp only [tYes]
        refine iteT ⟨_, rfl, _, hD, ?_, fun u o _ e => ?_, ?_⟩
        · rw [vn_len, List.length_map, List.length_take]
          exact small5 (by omega)
        · rw [upd_ne (ne_of_none e nD)]
          exact G u o (by simp) e
        · rw [upd_same, vn_snoc, tk, List.map_append]
          rfl
      rintro H9 ⟨g9, hD⟩
      rw [xl, List.take_length] at hD
      refine ⟨D, ni (ks.map (cQ b n k c)), rfl, by rw [← vn_ni]; exact sq_lst hD, ?_⟩
      rw [ni_sum, keys_sum hk]
      refine ⟨_, rfl, n, rfl, ⟨hn, hn2⟩, fun l H10 g10 hl => ⟨l, _, rfl, .inl (sq_lst hl), rfl, ?_⟩⟩
      rw [vn_len, decide_eq_true rfl]
      exact q H10 ((E8.trans (ExtN.of fun u o e => g9 u o (by simp) e)).trans (ExtN.of fun u o e => g10 u o (by simp) e)) (tabsGr (tabsGr t8 g9) g10)
    refine ⟨_, rfl, rfl, _, rfl, ?_⟩
    by_cases c2 : c = 2
    · refine iteTb (decide_eq_true (by rw [c2]; rfl)) ?_
      refine ⟨_, rfl, P, _, rfl, .inl (sq_lst hP8), rfl, _, rfl, ?_⟩
      rw [xl]
      have k1 : ks.length = 1 := by
        subst c2
        exact keys_two hn hg hb hk
      refine iteFb (by rw [k1]; rfl) ?_
      exact last
    · refine iteFb (decide_eq_false (fun z => c2 (by have := V.int.inj z; omega))) ?_
      exact last

end
end Wn
namespace Wn
open PySem PySem.Spec PyProof.Rows L2
open LamX (Tabs ExtN tLam)
local macro_rules | `(tactic| walk_at "vc") => `(tactic| simp only [cxK, cxK2, start1, start2, start3, tRet, tRetN, tSeq, tNext, tIfS, tAsg, gName, tDrop, tVar, tC, tOp, tUn, tTest, tB, tNot, tAnd, tOr, tAndV, tOrV, tNotV, tIf, tCons, tNil, tCB, tCall, tChain, tAug, ipI, rI, rI0, rU, rIs, rGcd, rEq, rNe, scal,
  List.getElem?_cons_zero, List.getElem?_cons_succ, List.set_cons_zero, List.set_cons_succ, Option.some.injEq, List.cons.injEq, V.int.injEq, V.bl.injEq, V.ref.injEq, V.str.injEq, and_true, true_and, exists_eq_left, exists_eq_left', exists_and_left, exists_and_right, List.append_nil, List.nil_append, List.cons_append, exists_eq_right, exists_eq_right', and_assoc, exists_const, V.ty.injEq, ↓reduceIte, Bool.false_eq_true, Bool.not_true, Bool.not_false, decide_eq_true_eq])

section
variable {P : Program} {w : World} {K : PySem.W.Frag} {mg : Str → Option Value} {base : Heap}
def perB (b p d : Nat) : Bool := decide (1 ≤ d) && b ^ d % p == 1 % p && (List.range d).all fun j => j == 0 || b ^ j % p != 1 % p
theorem per_of {b p d : Nat} (h : perB b p d = true) : IsPer b p d := by
  unfold perB at h
  rw [Bool.and_eq_true, Bool.and_eq_true, decide_eq_true_eq, beq_iff_eq, List.all_eq_true] at h
  obtain ⟨⟨h1, h2⟩, h3⟩ := h
  refine ⟨h1, h2, fun j j1 jd => ?_⟩
  have := h3 j (List.mem_range.mpr jd)
  rw [Bool.or_eq_true, beq_iff_eq, bne_iff_ne] at this
  rcases this with z | z
  · omega
  · exact z
def headB (b q h : Nat) : Bool := b ^ h % q == 0 && (List.range h).all fun j => b ^ j % q != 0
theorem head_of {b q h : Nat} (e : headB b q h = true) : IsHead b q h := by
  unfold headB at e
  rw [Bool.and_eq_true, beq_iff_eq, List.all_eq_true] at e
  refine ⟨e.1, fun j jd => ?_⟩
  have := e.2 j (List.mem_range.mpr jd)
  rw [bne_iff_ne] at this
  exact this
def parB (b n p q h L : Nat) : Bool := Nat.gcd b p == 1 && n == p * q && b ^ h % q == 0 && headB b q h && perB b p L
theorem par_of {b n p q h L : Nat} (e : parB b n p q h L = true) : Par b n p q h L := by
  unfold parB at e
  rw [Bool.and_eq_true, Bool.and_eq_true, Bool.and_eq_true, Bool.and_eq_true, beq_iff_eq, beq_iff_eq, beq_iff_eq] at e
  obtain ⟨⟨⟨⟨h1, h2⟩, h3⟩, h4⟩, h5⟩ := e
  exact ⟨⟨h1, q, h, h2, Nat.dvd_of_mod_eq_zero h3⟩, h2, head_of h4, per_of h5⟩
theorem cut6 (xs : List Nat) (i : Int) : ∃ ys : List Nat, cutV (vn xs) none (some i) = vn ys ∧ (∀ y ∈ ys, y ∈ xs) := by
  refine ⟨(xs.drop (HT.sIx (vn xs).length 0 none)).take (HT.sIx (vn xs).length (vn xs).length (some i) - HT.sIx (vn xs).length 0 none), ?_, fun y hy => List.mem_of_mem_drop (List.mem_of_mem_take hy)⟩
  unfold cutV vn
  rw [← List.map_drop, ← List.map_take]
structure Rw4 where
  b : Nat
  n : Nat
  c : Nat
  k : Nat
def Rw4.d (r : Rw4) : PyData := .tuple [.int (r.b : Nat), .int (r.n : Nat), .int (r.c : Nat)]
def Rw4.ok (r : Rw4) : Prop := BN r.b r.n ∧ Nat.gcd r.b r.n = 1 ∧ 2 ≤ r.n ∧ CT r.b r.n (r.k * r.c) r.k r.c

theorem MOk.ext {H H' : Hp} {d : Addr} {n : Nat} (h : MOk H d n) (g : ExtN H H') : MOk H' d n := by
  obtain ⟨c, xs, l, s, h1, h2, h3⟩ := h
  exact ⟨c, xs, l, s, ExtN.dK g h1, ExtN.lst g h2, h3⟩
theorem md {H : Hp} {d : Addr} {k : Nat} : MOk H d k → ∃ kvs, H d = some (.dK kvs) := fun ⟨_, _, _, _, z, _⟩ => ⟨_, z⟩
theorem cop73 : ∀ b, b < 42 → 2 ≤ b → Nat.gcd b 73 = 1 := by decide
def pD (ps : List (Nat × Nat)) : PyData := .tuple (ps.map fun p => .tuple [.int (p.1 : Nat), .int (p.2 : Nat)])
def quoB (b n k c : Nat) (ps : List (Nat × Nat)) : Bool := bal b n k c && decide ((ps.map Prod.fst).Pairwise (· < ·)) && ((topsL n).all fun x => decide (restSum b n x k c / n ∈ ps.map Prod.fst)) && ps.all fun p => decide (cQ b n k c p.1 = p.2) && decide (1 ≤ p.2)
theorem quo_of {b n k c : Nat} {ps : List (Nat × Nat)} (h : quoB b n k c ps = true) : bal b n k c = true ∧ IsKeys (cQ b n k c) (ps.map Prod.fst) ∧ prD (cQ b n k c) (ps.map Prod.fst) = pD ps := by
  unfold quoB at h
  simp only [Bool.and_eq_true, decide_eq_true_eq, List.all_eq_true] at h
  obtain ⟨⟨⟨h1, h2⟩, h3⟩, h4⟩ := h
  refine ⟨h1, ⟨h2, fun q => ⟨fun hq => ?_, fun hq => ?_⟩⟩, ?_⟩
  · obtain ⟨p, hp, rfl⟩ := List.mem_map.mp hq
    have := h4 p hp
    omega
  · obtain ⟨x, hx, rfl⟩ := cQ_key hq
    exact h3 x hx
  · unfold prD pD
    rw [List.map_map]
    refine congrArg PyData.tuple (List.map_congr_left fun p hp => ?_)
    show PyData.tuple [.int (p.1 : Nat), .int (cQ b n k c p.1 : Nat)] = _
    rw [(h4 p hp).1]
theorem ev_quoC {T : Txt K mg} {σ : L2.St} {H : Hp} {b n L k c : Nat} {ps : List (Nat × Nat)} (hbn : BN b n) (hg : Nat.gcd b n = 1) (hn : 2 ≤ n) (hC : CT b n L k c) (h : quoB b n k c ps = true) :
    EvD K (tCall (sp_quotientsX T) [] (fun _ _ _ => False) (tCons (tC (.int (b : Nat))) (tCons (tC (.int (n : Nat))) (tCons (tC (.int (c : Nat))) tNil)))) σ H (pD ps) := fun H1 g Q q => by
  obtain ⟨hb, hk, e⟩ := quo_of h
  refine ⟨b, n, L, k, c, rfl, hbn, hg, hn, hC, fun _ ks t H2 g2 hk2 dp => ?_, fun z => absurd (hb.symm.trans z) (by decide)⟩
  rw [hk2.uniq hk, e] at dp
  exact q _ H2 g2 dp
theorem ev_quoX {T : Txt K mg} {σ : L2.St} {E : XK} {Q : VK} {H1 : Hp} {b n L k c : Nat} (hbn : BN b n) (hg : Nat.gcd b n = 1) (hn : 2 ≤ n) (hC : CT b n L k c) (h : bal b n k c = false) (ke : ∀ (dd : Addr) (v : V) H2, Gr [] H1 H2 → H2 dd = some (.xd [("value", v)]) → Dp K H2 v (.int (c : Nat)) → E (.ref T.C_Nothing) (some dd) H2) :
    tCall (sp_quotientsX T) [] E (tCons (tC (.int (b : Nat))) (tCons (tC (.int (n : Nat))) (tCons (tC (.int (c : Nat))) tNil))) σ H1 Q :=
  ⟨b, n, L, k, c, rfl, hbn, hg, hn, hC, fun z => absurd (h.symm.trans z) (by decide), fun _ H2 d g2 nd => ke d _ _ (g2.trans (Gr.new nd)) upd_same (.int _)⟩

def sp_law (T : Txt K mg) : Sp := fun vs H Q _ => ∃ (a : Addr) (ns : List Int), vs = [.ref a] ∧ Tabs (tl T) H ∧ SqL K H a (ns.map V.int) ∧ ns.length ≤ 63 ∧ ∀ H', Q (.bl true) H'
theorem okG_law (T : Txt K mg) (B : Tbs T base) : FnG P w K mg base CX0 12 T.d_law.f T.d_law.fd ["script"] (sp_law T) := by
  refine fnGc0 T.d_law.F sc_law (fun vs H Q E h => ?_) (fun cdv A outer s H vs Q E hcc hgd hr h => ?_)
  · obtain ⟨a, ns, rfl, _⟩ := h; rfl
  · have hu := hu_of hr
    have hcode : cdv = .ref T.k_law := hcc.symm.trans T.e_law
    refine ⟨_, (pss_cons (ps_set (i := 1) sc_law.nd rfl (by first | exact .inl rfl | exact .inr rfl) (pe_call (ok_law_begun T) (hr.mono (by decide)) (by rfl) T.d_law_begun.m T.d_law_begun.F.kp T.d_law_begun.b .nil pass0 (pa_cons (pv 0) pa_nil)))
      (pss_cons (ps_for PassesOwn.never rfl (pi_range1 (by rfl) T.b_range (pa_cons (pe_op op_add pe_int (pe_callB (call_min2 rfl) (by rfl) T.b_min (by decide +kernel) (pa_cons (pe_callB (r := rLn K) call_ln (by rfl) T.b_len PySem.boot_len (pa_cons (pv 0) pa_nil)) (pa_cons pe_int pa_nil)))) pa_nil)) (pg_name (i := 2) sc_law.nd rfl (by first | exact .inl rfl | exact .inr rfl)) (pss_cons (ps_set (i := 3) sc_law.nd rfl (by first | exact .inl rfl | exact .inr rfl) (pe_call (ok_law_of T) (hr.mono (by decide)) (by rfl) T.d_law_of.m T.d_law_of.F.kp T.d_law_of.b .nil pass0 (pa_cons (pv 1) (pa_cons (pe_lst (pa_cons pe_int (pa_cons pe_int (pa_cons pe_int (pa_cons pe_int (pa_cons pe_int (pa_cons pe_int (pa_cons (pe_op op_add pe_int (pe_call (ok_law_draw T) (hr.mono (by decide)) (by rfl) T.d_law_draw.m T.d_law_draw.F.kp T.d_law_draw.b .nil pass0 (pa_cons (pv 1) (pa_cons pe_int pa_nil)))) pa_nil)))))))) pa_nil))))
      (pss_cons (ps_set (i := 4) sc_law.nd rfl (by first | exact .inl rfl | exact .inr rfl) (pe_call (ok_law_pure T) (hr.mono (by decide)) (by rfl) T.d_law_pure.m T.d_law_pure.F.kp T.d_law_pure.b .nil pass0 (pa_cons (pv 1) (pa_cons (pv 3) (pa_cons (pe_call (ok_law_of T) (hr.mono (by decide)) (by rfl) T.d_law_of.m T.d_law_of.F.kp T.d_law_of.b .nil pass0 (pa_cons (pv 1) (pa_cons (pe_lst (pa_cons pe_int (pa_cons pe_int (pa_cons pe_int (pa_cons pe_int pa_nil))))) pa_nil))) pa_nil)))))
      (pss_cons (ps_asg (pe_call (ok_law_splits T) (hr.mono (by decide)) (by rfl) T.d_law_splits.m T.d_law_splits.F.kp T.d_law_splits.b .nil pass0 (pa_cons (pv 3) (pa_cons (pv 4) pa_nil))) (pg_tup (by rfl) (pgs_cons (pg_name (i := 5) sc_law.nd rfl (by first | exact .inl rfl | exact .inr rfl)) (pgs_cons (pg_name (i := 6) sc_law.nd rfl (by first | exact .inl rfl | exact .inr rfl)) pgs_nil))))
      (pss_one (ps_if (pt_cmpR (r := rNeD K) (op_neD hr.units) (pe_lc (own := [("cut", 7)]) (g := gName 7) (tt := _) rfl sc_law.nd (pi_list (pe_slice (r := rSlL K) sl_list (pv 6) po_none (po_some pe_int))) (blkOk_by (own := [("cut", 7)]) (N := ["script", "m", "lap", "b", "n", "size", "some", "cut", "heard", "due"]) (sc := defScope s_law) (by decide +kernel)) (fun _ _ _ _ _ => (pg_name (i := 7) sc_law.nd rfl (by first | exact .inl rfl | exact .inr rfl))) (fun _ _ _ _ _ => (pts_one (pt_not (pt_val (pe_callG hgd (okG_law_right T B) (hr.mono (by decide)) (by rfl) T.d_law_right.m T.d_law_right.F.kp T.d_law_right.b .nil pass0 (pa_cons (pv 3) (pa_cons (pv 4) (pa_cons (pv 7) (pa_cons (pv 5) pa_nil))))))))) (fun _ _ _ _ _ => (pv 7))) (pe_lst pa_nil) (nomark _)) (pss_one (ps_ret pe_bl)) pss_nil))))))
      (pss_cons (ps_set (i := 8) sc_law.nd rfl (by first | exact .inl rfl | exact .inr rfl) (pe_lst (pa_cons (pe_call (okX_quotients T) (hr.mono (by decide)) (by rfl) T.d_quotients.m T.d_quotients.F.kp T.d_quotients.b .nil (passes_call takes0 (fun _ _ _ _ z => z)) (pa_cons pe_int (pa_cons pe_int (pa_cons pe_int pa_nil)))) (pa_cons (pe_call (okX_quotients T) (hr.mono (by decide)) (by rfl) T.d_quotients.m T.d_quotients.F.kp T.d_quotients.b .nil (passes_call takes0 (fun _ _ _ _ z => z)) (pa_cons pe_int (pa_cons pe_int (pa_cons pe_int pa_nil)))) (pa_cons (pe_call (okX_quotients T) (hr.mono (by decide)) (by rfl) T.d_quotients.m T.d_quotients.F.kp T.d_quotients.b .nil (passes_call takes0 (fun _ _ _ _ z => z)) (pa_cons pe_int (pa_cons pe_int (pa_cons pe_int pa_nil)))) (pa_cons (pe_call (okX_quotients T) (hr.mono (by decide)) (by rfl) T.d_quotients.m T.d_quotients.F.kp T.d_quotients.b .nil (passes_call takes0 (fun _ _ _ _ z => z)) (pa_cons pe_int (pa_cons pe_int (pa_cons pe_int pa_nil)))) (pa_cons (pe_call (okX_quotients T) (hr.mono (by decide)) (by rfl) T.d_quotients.m T.d_quotients.F.kp T.d_quotients.b .nil (passes_call takes0 (fun _ _ _ _ z => z)) (pa_cons pe_int (pa_cons pe_int (pa_cons pe_int pa_nil)))) pa_nil)))))))
      (pss_cons (ps_set (i := 9) sc_law.nd rfl (by first | exact .inl rfl | exact .inr rfl) (pe_lst (pa_cons (pe_tup (pa_cons (pe_tup (pa_cons pe_int (pa_cons pe_int pa_nil))) pa_nil)) (pa_cons (pe_tup (pa_cons (pe_tup (pa_cons pe_int (pa_cons pe_int pa_nil))) (pa_cons (pe_tup (pa_cons pe_int (pa_cons pe_int pa_nil))) pa_nil))) (pa_cons (pe_tup (pa_cons (pe_tup (pa_cons pe_int (pa_cons pe_int pa_nil))) pa_nil)) (pa_cons (pe_tup (pa_cons (pe_tup (pa_cons pe_int (pa_cons pe_int pa_nil))) (pa_cons (pe_tup (pa_cons pe_int (pa_cons pe_int pa_nil))) pa_nil))) (pa_cons (pe_tup (pa_cons (pe_tup (pa_cons pe_int (pa_cons pe_int pa_nil))) pa_nil)) pa_nil)))))))
      (pss_cons (ps_if (PW.pt (pw_or (pt_cmpR (r := rNeD K) (op_neD hr.units) (pv 8) (pv 9) (nomark _)) (pw_or (pt_cmpR (r := rNeD K) (op_neD hr.units) (pe_call (okX_quotients T) (hr.mono (by decide)) (by rfl) T.d_quotients.m T.d_quotients.F.kp T.d_quotients.b .nil (passes_call takes0 (fun _ _ _ _ z => z)) (pa_cons pe_int (pa_cons pe_int (pa_cons pe_int pa_nil)))) (pe_tup (pa_cons (pe_tup (pa_cons pe_int (pa_cons pe_int pa_nil))) pa_nil)) (nomark _)) (pw_or1 (pt_cmpR (r := rNeD K) (op_neD hr.units) (pe_call (okX_quotients T) (hr.mono (by decide)) (by rfl) T.d_quotients.m T.d_quotients.F.kp T.d_quotients.b .nil (passes_call takes0 (fun _ _ _ _ z => z)) (pa_cons pe_int (pa_cons pe_int (pa_cons pe_int pa_nil)))) (pe_tup (pa_cons (pe_tup (pa_cons pe_int (pa_cons pe_int pa_nil))) (pa_cons (pe_tup (pa_cons pe_int (pa_cons pe_int pa_nil))) pa_nil))) (nomark _)))))) (pss_one (ps_ret pe_bl)) pss_nil)
      (pss_cons (ps_if (pt_cmpR (r := rNeD K) (op_neD hr.units) (pe_call (okX_quotients T) (hr.mono (by decide)) (by rfl) T.d_quotients.m T.d_quotients.F.kp T.d_quotients.b .nil (passes_call takes0 (fun _ _ _ _ z => z)) (pa_cons pe_int (pa_cons pe_int (pa_cons pe_int pa_nil)))) (pe_tup (pa_cons (pe_tup (pa_cons pe_int (pa_cons pe_int pa_nil))) pa_nil)) (nomark _)) (pss_one (ps_ret pe_bl)) pss_nil)
      (pss_one (ps_ret (pe_and (pe_cmpR (r := rEqD K) (op_eqD hr.units) (pe_outc (T := tl T) (TT := TTout T) (k := 8) (by rfl) T.d_law_outcome.m T.d_law_outcome.F.kp T.d_law_outcome.F rfl T.d_law_outcome.b sc_law_outcome rfl (by first | exact .inl rfl | exact .inr (.inl rfl)) (gives_out T rfl rfl) (fun pins σ H s Q I hT h => lam_plain I (B.tb_law) hcode (hm_law T) (hu_law T) hT rfl (LamD.has (lamD_by (N := ["script", "m", "lap", "b", "n", "size", "some", "cut", "heard", "due"]) (sc := defScope s_law) (by decide +kernel)) I.ok) (fun _ _ _ _ _ _ => rfl) h) (hr.mono (by decide)) (lamD_by (N := ["script", "m", "lap", "b", "n", "size", "some", "cut", "heard", "due"]) (sc := defScope s_law) (by decide +kernel)) (fun _ _ _ _ _ _ _ hr => (pe_call (okX_quotients T) (hr.mono (by decide)) (by rfl) T.d_quotients.m T.d_quotients.F.kp T.d_quotients.b .nil (passes_call (takes_of rfl rfl rfl rfl) (fun _ _ _ _ z => z)) (pa_cons pe_int (pa_cons pe_int (pa_cons pe_int pa_nil)))))) (pe_tup (pa_cons pe_str (pa_cons pe_int pa_nil))) (nomark _)) (pe_one (pe_cmpR (r := rEqD K) (op_eqD hr.units) (pe_call (okX_quotients T) (hr.mono (by decide)) (by rfl) T.d_quotients.m T.d_quotients.F.kp T.d_quotients.b .nil (passes_call takes0 (fun _ _ _ _ z => z)) (pa_cons pe_int (pa_cons pe_int (pa_cons pe_int pa_nil)))) (pe_tup (pa_cons (pe_tup (pa_cons pe_int (pa_cons pe_int pa_nil))) pa_nil)) (nomark _)))))))))))), ?_⟩
    obtain ⟨a, ns, rfl, hT, hS, hn, q⟩ := h
    refine ⟨_, rfl, a, ns, rfl, hS, hn, fun d H1 g1 M1 => ?_⟩
    have t1 := tabsGr hT g1
    refine ⟨_, rfl, a, _, rfl, .inl ((Kp.of g1).sqL hS), _, _, rfl, ?_⟩
    rw [List.length_map]
    obtain ⟨N, eN, hN⟩ : ∃ N : Nat, (3 : Int) + (if (5 : Int) < (ns.length : Int) then (5 : Int) else (ns.length : Int)) = (N : Int) ∧ N ≤ 24 := by
      split
      · exact ⟨8, rfl, by decide⟩
      · exact ⟨3 + ns.length, by omega, by omega⟩
    refine ⟨_, _, rfl, rfl, ?_⟩
    refine ⟨(N : Int), congrArg (fun z => [V.int z]) eN, by omega, by omega, ?_⟩
    refine for_range (lo := 0) (n := ((N : Int)).toNat) (fun i σ H' => MOk H' d (5 * i) ∧ Tabs (tl T) H' ∧ ∃ v2 v3 v4 v5 v6, σ = [some (.ref a), some (.ref d), v2, v3, v4, v5, v6, none, none, none]) ⟨M1, t1, none, none, none, none, none, ?_⟩ ?_ ?_
    · rfl
    · rintro i σ H2 hi ⟨M2, t2, v2, v3, v4, v5, v6, rfl⟩
      have hi24 : i < 24 := by
        rw [Int.toNat_natCast] at hi
        omega
      refine ⟨_, rfl, _, rfl, d, 40, _, rfl, M2, ⟨by decide, by decide, by omega⟩, fun r0 H3 hr0 g3 M3 => ?_⟩
      have t3 := tabsGrM t2 g3 (md M2)
      refine ⟨_, _, rfl, rfl, by show 7 ≤ sizeLine; decide, fun p np => ?_⟩
      have t3' := tabsGr t3 (Gr.new (W := []) (o := .lst [.int 2, .int 3, .int 7, .int 10, .int 10, .int 12, .int ((2 : Int) + (r0 : Nat))]) np)
      refine ⟨d, p, _, _, rfl, M3.gr (Gr.new np), upd_same, ⟨by simp, by show 7 ≤ 100000; decide, by omega⟩, fun v H4 hv g4 M4 => ?_⟩
      have t4 := tabsGrM t3' g4 (md (M3.gr (Gr.new np)))
      obtain ⟨b, rfl, hb1, hb2⟩ : ∃ b : Nat, v = .int b ∧ 2 ≤ b ∧ b ≤ 41 := by
        simp only [List.mem_cons, List.not_mem_nil, or_false] at hv
        rcases hv with e | e | e | e | e | e | e
        · exact ⟨2, e, by decide, by decide⟩
        · exact ⟨3, e, by decide, by decide⟩
        · exact ⟨7, e, by decide, by decide⟩
        · exact ⟨10, e, by decide, by decide⟩
        · exact ⟨10, e, by decide, by decide⟩
        · exact ⟨12, e, by decide, by decide⟩
        · exact ⟨2 + r0, e, by omega, by omega⟩
      refine ⟨_, rfl, _, rfl, _, rfl, by show 4 ≤ sizeLine; decide, fun p5 np5 => ?_⟩
      have t4' := tabsGr t4 (Gr.new (W := []) (o := .lst [.int 9, .int 27, .int 40, .int 70]) np5)
      refine ⟨d, p5, _, _, rfl, M4.gr (Gr.new np5), upd_same, ⟨by simp, by show 4 ≤ 100000; decide, by omega⟩, fun v H5 hv g5 M5 => ?_⟩
      have t5 := tabsGrM t4' g5 (md (M4.gr (Gr.new np5)))
      obtain ⟨most, rfl, hm1, hm2⟩ : ∃ m : Nat, v = .int m ∧ 1 ≤ m ∧ m ≤ 70 := by
        simp only [List.mem_cons, List.not_mem_nil, or_false] at hv
        rcases hv with e | e | e | e
        · exact ⟨9, e, by decide, by decide⟩
        · exact ⟨27, e, by decide, by decide⟩
        · exact ⟨40, e, by decide, by decide⟩
        · exact ⟨70, e, by decide, by decide⟩
      refine ⟨d, b, most, _, rfl, M5, ⟨hb1, by omega, hm1, by omega, by omega⟩, fun r n H6 hr1 hn1 hmin hg g6 M6 => ?_⟩
      have t6 := tabsGrM t5 g6 (md M5)
      have hn73 : n ≤ 73 := hmin 73 (by omega) (cop73 b (by omega) hb1)
      obtain ⟨L, hLn, hL⟩ := per_exists (show 1 ≤ n by omega) hg
      refine ⟨_, rfl, _, rfl, b, n, L, rfl, ⟨by omega, by omega, by omega, hg, hL⟩, fun t S H7 g7 ht hS7 => ?_⟩
      refine ⟨t, _, rfl, sq_tup ht, rfl, _, _, rfl, _, _, rfl, rfl, ?_⟩
      have M7 := M6.gr g7
      have t7 := tabsGr t6 g7
      refine ⟨_, rfl, ?_⟩
      dsimp only [tNoPart]
      refine ⟨_, rfl, S, _, rfl, sq_lst hS7, fun p8 np8 => ?_⟩
      obtain ⟨ys, hys, hsub⟩ := cut6 (splitsL L) 6
      rw [hys]
      have g8 : Gr [] H7 (upd H7 p8 (.lst (vn ys))) := Gr.new np8
      have e8 : (upd H7 p8 (.lst (vn ys))) p8 = some (.lst (vn ys)) := upd_same
      generalize upd H7 p8 (.lst (vn ys)) = H8 at g8 e8 ⊢
      have M8 := M7.gr g8
      have t8 := tabsGr t7 g8
      refine ⟨p8, rfl, ⟨_, sq_lst e8⟩, fun E nE => ?_⟩
      have gE : Gr [] H8 (upd H8 E (.lst [])) := Gr.new nE
      refine lc_list (K := K) (a := p8) (xs := vn ys) (fun j H2 => ExtN H8 H2 ∧ Tabs (tl T) H2 ∧ H2 E = some (.lst [])) ⟨ExtN.of fun u o e => gE u o (by simp) e, tabsGr t8 gE, upd_same⟩ (fun i H2 _ z => sq_lst (ExtN.lst z.1 e8)) ?_ ?_
      · rintro j y H9 hy2 ⟨G9, t9, hE⟩
        obtain ⟨hj, rfl⟩ := vn_get hy2
        have hkx := (mem_splits hL.1).mp (hsub _ (List.getElem_mem hj))
        generalize hk : ys[j] = c at hkx ⊢
        refine ⟨rfl, ?_⟩
        refine ⟨_, rfl, _, rfl, _, rfl, _, rfl, b, n, L, L / c, c, rfl, t9, ⟨hb1, by omega, by omega, by omega⟩, hg, by omega, by omega, ⟨hL, hkx.1, Nat.div_pos (Nat.le_of_dvd hL.1 hkx.2) (by omega), (Nat.div_mul_cancel hkx.2).symm⟩, fun H10 g10 t10 => ?_⟩
        exact ⟨true, rfl, iteF ⟨G9.trans g10, t10, ExtN.lst g10 hE⟩⟩
      rintro H9 ⟨G9, t9, hE⟩
      refine ⟨Nat.zero_le _, fun u nu => ?_⟩
      have gu : Gr [] H9 (upd H9 u (.lst [])) := Gr.new nu
      have hE3 := gu E _ (by simp) hE
      refine ⟨.list [], .list [], dp_lst hE3 .nil, dp_lst upd_same .nil, rfl, rfl, _, rfl, ?_⟩
      exact iteF ⟨((M8.ext G9).gr gu).mono (by omega), tabsGr t9 gu, _, _, _, _, _, rfl⟩
    rintro σ H2 ⟨M2, t2, v2, v3, v4, v5, v6, rfl⟩
    have bn : ∀ {b n : Nat}, (decide (2 ≤ b) && decide (b ≤ 1000) && decide (1 ≤ n) && decide (n ≤ 5000)) = true → BN b n := fun h => by
      simp only [Bool.and_eq_true, decide_eq_true_eq] at h
      exact ⟨h.1.1.1, h.1.1.2, h.1.2, h.2⟩
    have ct : ∀ {b n L k c : Nat}, Par b n n 1 0 L → (decide (2 ≤ c) && decide (1 ≤ k) && decide (L = k * c)) = true → CT b n L k c := fun P h => by
      simp only [Bool.and_eq_true, decide_eq_true_eq] at h
      exact ⟨P.hL, h.1.1, h.1.2, h.2⟩
    have p_10_13 : Par 10 13 13 1 0 6 := par_of (by decide +kernel)
    have p_2_7 : Par 2 7 7 1 0 3 := par_of (by decide +kernel)
    have p_10_499 : Par 10 499 499 1 0 498 := par_of (by decide +kernel)
    have p_7_8 : Par 7 8 8 1 0 2 := par_of (by decide +kernel)
    have p_10_21 : Par 10 21 21 1 0 6 := par_of (by decide +kernel)
    have p_10_7 : Par 10 7 7 1 0 6 := par_of (by decide +kernel)
    have p_2_3 : Par 2 3 3 1 0 2 := par_of (by decide +kernel)
    refine stt_asgL (K := K) t2 (el_of fun _ => el_lst (es_cons (ev_quoC (T := T) (b := 10) (n := 7) (L := 6) (k := 3) (c := 2) (ps := [(1, 6)]) (bn rfl) (by decide) (by decide) (ct p_10_7 rfl) (by decide +kernel)) (es_cons (ev_quoC (T := T) (b := 10) (n := 7) (L := 6) (k := 2) (c := 3) (ps := [(1, 3), (2, 3)]) (bn rfl) (by decide) (by decide) (ct p_10_7 rfl) (by decide +kernel)) (es_cons (ev_quoC (T := T) (b := 10) (n := 7) (L := 6) (k := 1) (c := 6) (ps := [(3, 6)]) (bn rfl) (by decide) (by decide) (ct p_10_7 rfl) (by decide +kernel)) (es_cons (ev_quoC (T := T) (b := 10) (n := 13) (L := 6) (k := 2) (c := 3) (ps := [(1, 6), (2, 6)]) (bn rfl) (by decide) (by decide) (ct p_10_13 rfl) (by decide +kernel)) (es_cons (ev_quoC (T := T) (b := 2) (n := 3) (L := 2) (k := 1) (c := 2) (ps := [(1, 2)]) (bn rfl) (by decide) (by decide) (ct p_2_3 rfl) (by decide +kernel)) es_nil)))))) fun l1 xs1 H3 g3 t3 e3 a3 => ?_
    refine stt_asgL (K := K) t3 (el_of fun _ => el_lst (es_cons (ev_tup (es_cons (ev_tup (es_cons ev_int (es_cons ev_int es_nil))) es_nil)) (es_cons (ev_tup (es_cons (ev_tup (es_cons ev_int (es_cons ev_int es_nil))) (es_cons (ev_tup (es_cons ev_int (es_cons ev_int es_nil))) es_nil))) (es_cons (ev_tup (es_cons (ev_tup (es_cons ev_int (es_cons ev_int es_nil))) es_nil)) (es_cons (ev_tup (es_cons (ev_tup (es_cons ev_int (es_cons ev_int es_nil))) (es_cons (ev_tup (es_cons ev_int (es_cons ev_int es_nil))) es_nil))) (es_cons (ev_tup (es_cons (ev_tup (es_cons ev_int (es_cons ev_int es_nil))) es_nil)) es_nil)))))) fun l2 xs2 H4 g4 t4 e4 a4 => ?_
    refine ttt_orL (K := K) t4 (et_ne (et_var rfl (Dp.kp (kpExt g4) (dp_lst e3 a3))) (et_var rfl (dp_lst e4 a4)) (by decide +kernel) (by decide +kernel)) (by decide +kernel) fun H5 g5 t5 => ?_
    refine ttt_orL (K := K) t5 (et_ne (et_of fun _ => (ev_quoC (T := T) (b := 10) (n := 13) (L := 6) (k := 1) (c := 6) (ps := [(3, 12)]) (bn rfl) (by decide) (by decide) (ct p_10_13 rfl) (by decide +kernel))) (et_of fun _ => (ev_tup (es_cons (ev_tup (es_cons ev_int (es_cons ev_int es_nil))) es_nil))) (by decide +kernel) (by decide +kernel)) (by decide +kernel) fun H6 g6 t6 => ?_
    refine ttt_of (K := K) t6 (et_ne (et_of fun _ => (ev_quoC (T := T) (b := 2) (n := 7) (L := 3) (k := 1) (c := 3) (ps := [(1, 3), (2, 3)]) (bn rfl) (by decide) (by decide) (ct p_2_7 rfl) (by decide +kernel))) (et_of fun _ => (ev_tup (es_cons (ev_tup (es_cons ev_int (es_cons ev_int es_nil))) (es_cons (ev_tup (es_cons ev_int (es_cons ev_int es_nil))) es_nil)))) (by decide +kernel) (by decide +kernel)) (ExtN.refl _) fun H7 g7 t7 => ?_
    refine iteFb (by decide +kernel) ?_
    refine ttt_of (K := K) t7 (et_ne (et_of fun _ => (ev_quoC (T := T) (b := 10) (n := 499) (L := 498) (k := 249) (c := 2) (ps := [(1, 498)]) (bn rfl) (by decide) (by decide) (ct p_10_499 rfl) (by decide +kernel))) (et_of fun _ => (ev_tup (es_cons (ev_tup (es_cons ev_int (es_cons ev_int es_nil))) es_nil))) (by decide +kernel) (by decide +kernel)) (ExtN.refl _) fun H8 g8 t8 => ?_
    refine iteFb (by decide +kernel) ?_
    refine stt_retB (K := K) t8 (et_andV (et_eq (et_outE (f := "value") (w := "nothing") (C := T.C_Nothing) (by unfold errs; simp) fun E H1 Q ke => ev_quoX (T := T) (b := 10) (n := 21) (L := 6) (k := 3) (c := 2) (bn rfl) (by decide) (by decide) (ct p_10_21 rfl) (by decide +kernel) ke) (et_of fun _ => ev_tup (es_cons ev_str (es_cons ev_int es_nil))) (by decide +kernel) (by decide +kernel)) (et_eq (et_of fun _ => (ev_quoC (T := T) (b := 7) (n := 8) (L := 2) (k := 1) (c := 2) (ps := [(1, 4)]) (bn rfl) (by decide) (by decide) (ct p_7_8 rfl) (by decide +kernel))) (et_of fun _ => (ev_tup (es_cons (ev_tup (es_cons ev_int (es_cons ev_int es_nil))) es_nil))) (by decide +kernel) (by decide +kernel))) fun H10 g10 t10 => ?_
    refine cast (congrArg (fun z => Q (V.bl z) H10) (show true = _ by decide +kernel)) (q H10)

end
end Wn
namespace Wn
open PySem PySem.Spec PyProof.Rows L2
open LamX (Tabs ExtN tLam)
theorem all_mk {l : PySem.W.OpenLaw} {w : World} {K : PySem.W.Frag} {h : Heap} {mg : Str → Option Value} {fa : Addr} (X : K.In h) (G : h.Ns mainGlobals mg) (hfa : mg "law" = some (.ref fa))
    {f_is_integer : Addr} {oc_is_integer kV_is_integer dc_is_integer pm_is_integer cd_is_integer ct_is_integer : Value} {od_is_integer an_is_integer : Option Addr} {sl_is_integer : Array (Option Value)}
    {f_is_within : Addr} {oc_is_within kV_is_within dc_is_within pm_is_within cd_is_within ct_is_within : Value} {od_is_within an_is_within : Option Addr} {sl_is_within : Array (Option Value)}
    {f_need_base : Addr} {oc_need_base kV_need_base dc_need_base pm_need_base cd_need_base ct_need_base : Value} {od_need_base an_need_base : Option Addr} {sl_need_base : Array (Option Value)}
    {f_need_denominator : Addr} {oc_need_denominator kV_need_denominator dc_need_denominator pm_need_denominator cd_need_denominator ct_need_denominator : Value} {od_need_denominator an_need_denominator : Option Addr} {sl_need_denominator : Array (Option Value)}
    {f_need_pure : Addr} {oc_need_pure kV_need_pure dc_need_pure pm_need_pure cd_need_pure ct_need_pure : Value} {od_need_pure an_need_pure : Option Addr} {sl_need_pure : Array (Option Value)}
    {f_pure_part : Addr} {oc_pure_part kV_pure_part dc_pure_part pm_pure_part cd_pure_part ct_pure_part : Value} {od_pure_part an_pure_part : Option Addr} {sl_pure_part : Array (Option Value)}
    {f_period : Addr} {oc_period kV_period dc_period pm_period cd_period ct_period : Value} {od_period an_period : Option Addr} {sl_period : Array (Option Value)}
    {f_power_rest : Addr} {oc_power_rest kV_power_rest dc_power_rest pm_power_rest cd_power_rest ct_power_rest : Value} {od_power_rest an_power_rest : Option Addr} {sl_power_rest : Array (Option Value)}
    {f_piece_size : Addr} {oc_piece_size kV_piece_size dc_piece_size pm_piece_size cd_piece_size ct_piece_size : Value} {od_piece_size an_piece_size : Option Addr} {sl_piece_size : Array (Option Value)}
    {f_spaced : Addr} {oc_spaced kV_spaced dc_spaced pm_spaced cd_spaced ct_spaced : Value} {od_spaced an_spaced : Option Addr} {sl_spaced : Array (Option Value)}
    {f_is_balanced_with : Addr} {oc_is_balanced_with kV_is_balanced_with dc_is_balanced_with pm_is_balanced_with cd_is_balanced_with ct_is_balanced_with : Value} {od_is_balanced_with an_is_balanced_with : Option Addr} {sl_is_balanced_with : Array (Option Value)}
    {f_is_balanced : Addr} {oc_is_balanced kV_is_balanced dc_is_balanced pm_is_balanced cd_is_balanced ct_is_balanced : Value} {od_is_balanced an_is_balanced : Option Addr} {sl_is_balanced : Array (Option Value)}
    {f_quotients : Addr} {oc_quotients kV_quotients dc_quotients pm_quotients cd_quotients ct_quotients : Value} {od_quotients an_quotients : Option Addr} {sl_quotients : Array (Option Value)}
    {f_law_begun : Addr} {oc_law_begun kV_law_begun dc_law_begun pm_law_begun cd_law_begun ct_law_begun : Value} {od_law_begun an_law_begun : Option Addr} {sl_law_begun : Array (Option Value)}
    {f_law_draw : Addr} {oc_law_draw kV_law_draw dc_law_draw pm_law_draw cd_law_draw ct_law_draw : Value} {od_law_draw an_law_draw : Option Addr} {sl_law_draw : Array (Option Value)}
    {f_law_of : Addr} {oc_law_of kV_law_of dc_law_of pm_law_of cd_law_of ct_law_of : Value} {od_law_of an_law_of : Option Addr} {sl_law_of : Array (Option Value)}
    {f_law_divisor : Addr} {oc_law_divisor kV_law_divisor dc_law_divisor pm_law_divisor cd_law_divisor ct_law_divisor : Value} {od_law_divisor an_law_divisor : Option Addr} {sl_law_divisor : Array (Option Value)}
    {f_law_pure : Addr} {oc_law_pure kV_law_pure dc_law_pure pm_law_pure cd_law_pure ct_law_pure : Value} {od_law_pure an_law_pure : Option Addr} {sl_law_pure : Array (Option Value)}
    {f_law_ring : Addr} {oc_law_ring kV_law_ring dc_law_ring pm_law_ring cd_law_ring ct_law_ring : Value} {od_law_ring an_law_ring : Option Addr} {sl_law_ring : Array (Option Value)}
    {f_law_spread : Addr} {oc_law_spread kV_law_spread dc_law_spread pm_law_spread cd_law_spread ct_law_spread : Value} {od_law_spread an_law_spread : Option Addr} {sl_law_spread : Array (Option Value)}
    {f_law_worth : Addr} {oc_law_worth kV_law_worth dc_law_worth pm_law_worth cd_law_worth ct_law_worth : Value} {od_law_worth an_law_worth : Option Addr} {sl_law_worth : Array (Option Value)}
    {f_law_power : Addr} {oc_law_power kV_law_power dc_law_power pm_law_power cd_law_power ct_law_power : Value} {od_law_power an_law_power : Option Addr} {sl_law_power : Array (Option Value)}
    {f_law_splits : Addr} {oc_law_splits kV_law_splits dc_law_splits pm_law_splits cd_law_splits ct_law_splits : Value} {od_law_splits an_law_splits : Option Addr} {sl_law_splits : Array (Option Value)}
    {f_law_sliced : Addr} {oc_law_sliced kV_law_sliced dc_law_sliced pm_law_sliced cd_law_sliced ct_law_sliced : Value} {od_law_sliced an_law_sliced : Option Addr} {sl_law_sliced : Array (Option Value)}
    {f_law_tops : Addr} {oc_law_tops kV_law_tops dc_law_tops pm_law_tops cd_law_tops ct_law_tops : Value} {od_law_tops an_law_tops : Option Addr} {sl_law_tops : Array (Option Value)}
    {f_law_word : Addr} {oc_law_word kV_law_word dc_law_word pm_law_word cd_law_word ct_law_word : Value} {od_law_word an_law_word : Option Addr} {sl_law_word : Array (Option Value)}
    {f_law_outcome : Addr} {oc_law_outcome kV_law_outcome dc_law_outcome pm_law_outcome cd_law_outcome ct_law_outcome : Value} {od_law_outcome an_law_outcome : Option Addr} {sl_law_outcome : Array (Option Value)}
    {f_law_own : Addr} {oc_law_own kV_law_own dc_law_own pm_law_own cd_law_own ct_law_own : Value} {od_law_own an_law_own : Option Addr} {sl_law_own : Array (Option Value)}
    {f_law_right : Addr} {oc_law_right kV_law_right dc_law_right pm_law_right cd_law_right ct_law_right : Value} {od_law_right an_law_right : Option Addr} {sl_law_right : Array (Option Value)}
    {f_law : Addr} {oc_law kV_law dc_law pm_law cd_law ct_law : Value} {od_law an_law : Option Addr} {sl_law : Array (Option Value)}
    {C_WheelError : Addr}
    {C_BadBase : Addr}
    {C_BadDenominator : Addr}
    {C_BadFraction : Addr}
    {C_BadDigits : Addr}
    {C_BadNumber : Addr}
    {C_BadPaper : Addr}
    {C_BadText : Addr}
    {C_TooGreat : Addr}
    {C_Nothing : Addr}
    {I_Nothing : Addr} {ioc_Nothing ikV_Nothing idc_Nothing ipm_Nothing icd_Nothing ict_Nothing : Value} {iod_Nothing ian_Nothing : Option Addr} {isl_Nothing : Array (Option Value)}
    {kk_law_right pp_law_right : Addr}
    {c1_law_right : Value} {d1_law_right : Option Addr} {vs_law_right : Array Value} {s1_law_right : Array (Option Value)}
    {kk_law pp_law : Addr}
    {c1_law : Value} {d1_law : Option Addr} {vs_law : Array Value} {s1_law : Array (Option Value)}
    {t_MOST_BASE : Tok}
    {t_MOST_DENOMINATOR : Tok}
    (a_is_integer : PySem.W.nsIn K mainGlobals "is_integer" = some (some (.ref f_is_integer)))
    (l_is_integer : K.lookup f_is_integer = some ⟨oc_is_integer, od_is_integer, .func (PySem.W.fnOf "is_integer" "is_integer" (defArgs s_is_integer) (defBody s_is_integer) (defScope s_is_integer) .none kV_is_integer dc_is_integer pm_is_integer an_is_integer cd_is_integer ct_is_integer), sl_is_integer⟩)
    (c_is_integer : PySem.W.codeIn K cd_is_integer "is_integer" = true)
    (k_is_integer : PySem.W.keepIn K (.ref f_is_integer) = true)
    (a_is_within : PySem.W.nsIn K mainGlobals "is_within" = some (some (.ref f_is_within)))
    (l_is_within : K.lookup f_is_within = some ⟨oc_is_within, od_is_within, .func (PySem.W.fnOf "is_within" "is_within" (defArgs s_is_within) (defBody s_is_within) (defScope s_is_within) .none kV_is_within dc_is_within pm_is_within an_is_within cd_is_within ct_is_within), sl_is_within⟩)
    (c_is_within : PySem.W.codeIn K cd_is_within "is_within" = true)
    (k_is_within : PySem.W.keepIn K (.ref f_is_within) = true)
    (a_need_base : PySem.W.nsIn K mainGlobals "need_base" = some (some (.ref f_need_base)))
    (l_need_base : K.lookup f_need_base = some ⟨oc_need_base, od_need_base, .func (PySem.W.fnOf "need_base" "need_base" (defArgs s_need_base) (defBody s_need_base) (defScope s_need_base) .none kV_need_base dc_need_base pm_need_base an_need_base cd_need_base ct_need_base), sl_need_base⟩)
    (c_need_base : PySem.W.codeIn K cd_need_base "need_base" = true)
    (k_need_base : PySem.W.keepIn K (.ref f_need_base) = true)
    (a_need_denominator : PySem.W.nsIn K mainGlobals "need_denominator" = some (some (.ref f_need_denominator)))
    (l_need_denominator : K.lookup f_need_denominator = some ⟨oc_need_denominator, od_need_denominator, .func (PySem.W.fnOf "need_denominator" "need_denominator" (defArgs s_need_denominator) (defBody s_need_denominator) (defScope s_need_denominator) .none kV_need_denominator dc_need_denominator pm_need_denominator an_need_denominator cd_need_denominator ct_need_denominator), sl_need_denominator⟩)
    (c_need_denominator : PySem.W.codeIn K cd_need_denominator "need_denominator" = true)
    (k_need_denominator : PySem.W.keepIn K (.ref f_need_denominator) = true)
    (a_need_pure : PySem.W.nsIn K mainGlobals "need_pure" = some (some (.ref f_need_pure)))
    (l_need_pure : K.lookup f_need_pure = some ⟨oc_need_pure, od_need_pure, .func (PySem.W.fnOf "need_pure" "need_pure" (defArgs s_need_pure) (defBody s_need_pure) (defScope s_need_pure) .none kV_need_pure dc_need_pure pm_need_pure an_need_pure cd_need_pure ct_need_pure), sl_need_pure⟩)
    (c_need_pure : PySem.W.codeIn K cd_need_pure "need_pure" = true)
    (k_need_pure : PySem.W.keepIn K (.ref f_need_pure) = true)
    (a_pure_part : PySem.W.nsIn K mainGlobals "pure_part" = some (some (.ref f_pure_part)))
    (l_pure_part : K.lookup f_pure_part = some ⟨oc_pure_part, od_pure_part, .func (PySem.W.fnOf "pure_part" "pure_part" (defArgs s_pure_part) (defBody s_pure_part) (defScope s_pure_part) .none kV_pure_part dc_pure_part pm_pure_part an_pure_part cd_pure_part ct_pure_part), sl_pure_part⟩)
    (c_pure_part : PySem.W.codeIn K cd_pure_part "pure_part" = true)
    (k_pure_part : PySem.W.keepIn K (.ref f_pure_part) = true)
    (a_period : PySem.W.nsIn K mainGlobals "period" = some (some (.ref f_period)))
    (l_period : K.lookup f_period = some ⟨oc_period, od_period, .func (PySem.W.fnOf "period" "period" (defArgs s_period) (defBody s_period) (defScope s_period) .none kV_period dc_period pm_period an_period cd_period ct_period), sl_period⟩)
    (c_period : PySem.W.codeIn K cd_period "period" = true)
    (k_period : PySem.W.keepIn K (.ref f_period) = true)
    (a_power_rest : PySem.W.nsIn K mainGlobals "power_rest" = some (some (.ref f_power_rest)))
    (l_power_rest : K.lookup f_power_rest = some ⟨oc_power_rest, od_power_rest, .func (PySem.W.fnOf "power_rest" "power_rest" (defArgs s_power_rest) (defBody s_power_rest) (defScope s_power_rest) .none kV_power_rest dc_power_rest pm_power_rest an_power_rest cd_power_rest ct_power_rest), sl_power_rest⟩)
    (c_power_rest : PySem.W.codeIn K cd_power_rest "power_rest" = true)
    (k_power_rest : PySem.W.keepIn K (.ref f_power_rest) = true)
    (a_piece_size : PySem.W.nsIn K mainGlobals "piece_size" = some (some (.ref f_piece_size)))
    (l_piece_size : K.lookup f_piece_size = some ⟨oc_piece_size, od_piece_size, .func (PySem.W.fnOf "piece_size" "piece_size" (defArgs s_piece_size) (defBody s_piece_size) (defScope s_piece_size) .none kV_piece_size dc_piece_size pm_piece_size an_piece_size cd_piece_size ct_piece_size), sl_piece_size⟩)
    (c_piece_size : PySem.W.codeIn K cd_piece_size "piece_size" = true)
    (k_piece_size : PySem.W.keepIn K (.ref f_piece_size) = true)
    (a_spaced : PySem.W.nsIn K mainGlobals "spaced" = some (some (.ref f_spaced)))
    (l_spaced : K.lookup f_spaced = some ⟨oc_spaced, od_spaced, .func (PySem.W.fnOf "spaced" "spaced" (defArgs s_spaced) (defBody s_spaced) (defScope s_spaced) .none kV_spaced dc_spaced pm_spaced an_spaced cd_spaced ct_spaced), sl_spaced⟩)
    (c_spaced : PySem.W.codeIn K cd_spaced "spaced" = true)
    (k_spaced : PySem.W.keepIn K (.ref f_spaced) = true)
    (a_is_balanced_with : PySem.W.nsIn K mainGlobals "is_balanced_with" = some (some (.ref f_is_balanced_with)))
    (l_is_balanced_with : K.lookup f_is_balanced_with = some ⟨oc_is_balanced_with, od_is_balanced_with, .func (PySem.W.fnOf "is_balanced_with" "is_balanced_with" (defArgs s_is_balanced_with) (defBody s_is_balanced_with) (defScope s_is_balanced_with) .none kV_is_balanced_with dc_is_balanced_with pm_is_balanced_with an_is_balanced_with cd_is_balanced_with ct_is_balanced_with), sl_is_balanced_with⟩)
    (c_is_balanced_with : PySem.W.codeIn K cd_is_balanced_with "is_balanced_with" = true)
    (k_is_balanced_with : PySem.W.keepIn K (.ref f_is_balanced_with) = true)
    (a_is_balanced : PySem.W.nsIn K mainGlobals "is_balanced" = some (some (.ref f_is_balanced)))
    (l_is_balanced : K.lookup f_is_balanced = some ⟨oc_is_balanced, od_is_balanced, .func (PySem.W.fnOf "is_balanced" "is_balanced" (defArgs s_is_balanced) (defBody s_is_balanced) (defScope s_is_balanced) .none kV_is_balanced dc_is_balanced pm_is_balanced an_is_balanced cd_is_balanced ct_is_balanced), sl_is_balanced⟩)
    (c_is_balanced : PySem.W.codeIn K cd_is_balanced "is_balanced" = true)
    (k_is_balanced : PySem.W.keepIn K (.ref f_is_balanced) = true)
    (a_quotients : PySem.W.nsIn K mainGlobals "quotients" = some (some (.ref f_quotients)))
    (l_quotients : K.lookup f_quotients = some ⟨oc_quotients, od_quotients, .func (PySem.W.fnOf "quotients" "quotients" (defArgs s_quotients) (defBody s_quotients) (defScope s_quotients) .none kV_quotients dc_quotients pm_quotients an_quotients cd_quotients ct_quotients), sl_quotients⟩)
    (c_quotients : PySem.W.codeIn K cd_quotients "quotients" = true)
    (k_quotients : PySem.W.keepIn K (.ref f_quotients) = true)
    (a_law_begun : PySem.W.nsIn K mainGlobals "_law_begun" = some (some (.ref f_law_begun)))
    (l_law_begun : K.lookup f_law_begun = some ⟨oc_law_begun, od_law_begun, .func (PySem.W.fnOf "_law_begun" "_law_begun" (defArgs s_law_begun) (defBody s_law_begun) (defScope s_law_begun) .none kV_law_begun dc_law_begun pm_law_begun an_law_begun cd_law_begun ct_law_begun), sl_law_begun⟩)
    (c_law_begun : PySem.W.codeIn K cd_law_begun "_law_begun" = true)
    (k_law_begun : PySem.W.keepIn K (.ref f_law_begun) = true)
    (a_law_draw : PySem.W.nsIn K mainGlobals "_law_draw" = some (some (.ref f_law_draw)))
    (l_law_draw : K.lookup f_law_draw = some ⟨oc_law_draw, od_law_draw, .func (PySem.W.fnOf "_law_draw" "_law_draw" (defArgs s_law_draw) (defBody s_law_draw) (defScope s_law_draw) .none kV_law_draw dc_law_draw pm_law_draw an_law_draw cd_law_draw ct_law_draw), sl_law_draw⟩)
    (c_law_draw : PySem.W.codeIn K cd_law_draw "_law_draw" = true)
    (k_law_draw : PySem.W.keepIn K (.ref f_law_draw) = true)
    (a_law_of : PySem.W.nsIn K mainGlobals "_law_of" = some (some (.ref f_law_of)))
    (l_law_of : K.lookup f_law_of = some ⟨oc_law_of, od_law_of, .func (PySem.W.fnOf "_law_of" "_law_of" (defArgs s_law_of) (defBody s_law_of) (defScope s_law_of) .none kV_law_of dc_law_of pm_law_of an_law_of cd_law_of ct_law_of), sl_law_of⟩)
    (c_law_of : PySem.W.codeIn K cd_law_of "_law_of" = true)
    (k_law_of : PySem.W.keepIn K (.ref f_law_of) = true)
    (a_law_divisor : PySem.W.nsIn K mainGlobals "_law_divisor" = some (some (.ref f_law_divisor)))
    (l_law_divisor : K.lookup f_law_divisor = some ⟨oc_law_divisor, od_law_divisor, .func (PySem.W.fnOf "_law_divisor" "_law_divisor" (defArgs s_law_divisor) (defBody s_law_divisor) (defScope s_law_divisor) .none kV_law_divisor dc_law_divisor pm_law_divisor an_law_divisor cd_law_divisor ct_law_divisor), sl_law_divisor⟩)
    (c_law_divisor : PySem.W.codeIn K cd_law_divisor "_law_divisor" = true)
    (k_law_divisor : PySem.W.keepIn K (.ref f_law_divisor) = true)
    (a_law_pure : PySem.W.nsIn K mainGlobals "_law_pure" = some (some (.ref f_law_pure)))
    (l_law_pure : K.lookup f_law_pure = some ⟨oc_law_pure, od_law_pure, .func (PySem.W.fnOf "_law_pure" "_law_pure" (defArgs s_law_pure) (defBody s_law_pure) (defScope s_law_pure) .none kV_law_pure dc_law_pure pm_law_pure an_law_pure cd_law_pure ct_law_pure), sl_law_pure⟩)
    (c_law_pure : PySem.W.codeIn K cd_law_pure "_law_pure" = true)
    (k_law_pure : PySem.W.keepIn K (.ref f_law_pure) = true)
    (a_law_ring : PySem.W.nsIn K mainGlobals "_law_ring" = some (some (.ref f_law_ring)))
    (l_law_ring : K.lookup f_law_ring = some ⟨oc_law_ring, od_law_ring, .func (PySem.W.fnOf "_law_ring" "_law_ring" (defArgs s_law_ring) (defBody s_law_ring) (defScope s_law_ring) .none kV_law_ring dc_law_ring pm_law_ring an_law_ring cd_law_ring ct_law_ring), sl_law_ring⟩)
    (c_law_ring : PySem.W.codeIn K cd_law_ring "_law_ring" = true)
    (k_law_ring : PySem.W.keepIn K (.ref f_law_ring) = true)
    (a_law_spread : PySem.W.nsIn K mainGlobals "_law_spread" = some (some (.ref f_law_spread)))
    (l_law_spread : K.lookup f_law_spread = some ⟨oc_law_spread, od_law_spread, .func (PySem.W.fnOf "_law_spread" "_law_spread" (defArgs s_law_spread) (defBody s_law_spread) (defScope s_law_spread) .none kV_law_spread dc_law_spread pm_law_spread an_law_spread cd_law_spread ct_law_spread), sl_law_spread⟩)
    (c_law_spread : PySem.W.codeIn K cd_law_spread "_law_spread" = true)
    (k_law_spread : PySem.W.keepIn K (.ref f_law_spread) = true)
    (a_law_worth : PySem.W.nsIn K mainGlobals "_law_worth" = some (some (.ref f_law_worth)))
    (l_law_worth : K.lookup f_law_worth = some ⟨oc_law_worth, od_law_worth, .func (PySem.W.fnOf "_law_worth" "_law_worth" (defArgs s_law_worth) (defBody s_law_worth) (defScope s_law_worth) .none kV_law_worth dc_law_worth pm_law_worth an_law_worth cd_law_worth ct_law_worth), sl_law_worth⟩)
    (c_law_worth : PySem.W.codeIn K cd_law_worth "_law_worth" = true)
    (k_law_worth : PySem.W.keepIn K (.ref f_law_worth) = true)
    (a_law_power : PySem.W.nsIn K mainGlobals "_law_power" = some (some (.ref f_law_power)))
    (l_law_power : K.lookup f_law_power = some ⟨oc_law_power, od_law_power, .func (PySem.W.fnOf "_law_power" "_law_power" (defArgs s_law_power) (defBody s_law_power) (defScope s_law_power) .none kV_law_power dc_law_power pm_law_power an_law_power cd_law_power ct_law_power), sl_law_power⟩)
    (c_law_power : PySem.W.codeIn K cd_law_power "_law_power" = true)
    (k_law_power : PySem.W.keepIn K (.ref f_law_power) = true)
    (a_law_splits : PySem.W.nsIn K mainGlobals "_law_splits" = some (some (.ref f_law_splits)))
    (l_law_splits : K.lookup f_law_splits = some ⟨oc_law_splits, od_law_splits, .func (PySem.W.fnOf "_law_splits" "_law_splits" (defArgs s_law_splits) (defBody s_law_splits) (defScope s_law_splits) .none kV_law_splits dc_law_splits pm_law_splits an_law_splits cd_law_splits ct_law_splits), sl_law_splits⟩)
    (c_law_splits : PySem.W.codeIn K cd_law_splits "_law_splits" = true)
    (k_law_splits : PySem.W.keepIn K (.ref f_law_splits) = true)
    (a_law_sliced : PySem.W.nsIn K mainGlobals "_law_sliced" = some (some (.ref f_law_sliced)))
    (l_law_sliced : K.lookup f_law_sliced = some ⟨oc_law_sliced, od_law_sliced, .func (PySem.W.fnOf "_law_sliced" "_law_sliced" (defArgs s_law_sliced) (defBody s_law_sliced) (defScope s_law_sliced) .none kV_law_sliced dc_law_sliced pm_law_sliced an_law_sliced cd_law_sliced ct_law_sliced), sl_law_sliced⟩)
    (c_law_sliced : PySem.W.codeIn K cd_law_sliced "_law_sliced" = true)
    (k_law_sliced : PySem.W.keepIn K (.ref f_law_sliced) = true)
    (a_law_tops : PySem.W.nsIn K mainGlobals "_law_tops" = some (some (.ref f_law_tops)))
    (l_law_tops : K.lookup f_law_tops = some ⟨oc_law_tops, od_law_tops, .func (PySem.W.fnOf "_law_tops" "_law_tops" (defArgs s_law_tops) (defBody s_law_tops) (defScope s_law_tops) .none kV_law_tops dc_law_tops pm_law_tops an_law_tops cd_law_tops ct_law_tops), sl_law_tops⟩)
    (c_law_tops : PySem.W.codeIn K cd_law_tops "_law_tops" = true)
    (k_law_tops : PySem.W.keepIn K (.ref f_law_tops) = true)
    (a_law_word : PySem.W.nsIn K mainGlobals "_law_word" = some (some (.ref f_law_word)))
    (l_law_word : K.lookup f_law_word = some ⟨oc_law_word, od_law_word, .func (PySem.W.fnOf "_law_word" "_law_word" (defArgs s_law_word) (defBody s_law_word) (defScope s_law_word) .none kV_law_word dc_law_word pm_law_word an_law_word cd_law_word ct_law_word), sl_law_word⟩)
    (c_law_word : PySem.W.codeIn K cd_law_word "_law_word" = true)
    (k_law_word : PySem.W.keepIn K (.ref f_law_word) = true)
    (a_law_outcome : PySem.W.nsIn K mainGlobals "_law_outcome" = some (some (.ref f_law_outcome)))
    (l_law_outcome : K.lookup f_law_outcome = some ⟨oc_law_outcome, od_law_outcome, .func (PySem.W.fnOf "_law_outcome" "_law_outcome" (defArgs s_law_outcome) (defBody s_law_outcome) (defScope s_law_outcome) .none kV_law_outcome dc_law_outcome pm_law_outcome an_law_outcome cd_law_outcome ct_law_outcome), sl_law_outcome⟩)
    (c_law_outcome : PySem.W.codeIn K cd_law_outcome "_law_outcome" = true)
    (k_law_outcome : PySem.W.keepIn K (.ref f_law_outcome) = true)
    (a_law_own : PySem.W.nsIn K mainGlobals "_law_own" = some (some (.ref f_law_own)))
    (l_law_own : K.lookup f_law_own = some ⟨oc_law_own, od_law_own, .func (PySem.W.fnOf "_law_own" "_law_own" (defArgs s_law_own) (defBody s_law_own) (defScope s_law_own) .none kV_law_own dc_law_own pm_law_own an_law_own cd_law_own ct_law_own), sl_law_own⟩)
    (c_law_own : PySem.W.codeIn K cd_law_own "_law_own" = true)
    (k_law_own : PySem.W.keepIn K (.ref f_law_own) = true)
    (a_law_right : PySem.W.nsIn K mainGlobals "_law_right" = some (some (.ref f_law_right)))
    (l_law_right : K.lookup f_law_right = some ⟨oc_law_right, od_law_right, .func (PySem.W.fnOf "_law_right" "_law_right" (defArgs s_law_right) (defBody s_law_right) (defScope s_law_right) .none kV_law_right dc_law_right pm_law_right an_law_right cd_law_right ct_law_right), sl_law_right⟩)
    (c_law_right : PySem.W.codeIn K cd_law_right "_law_right" = true)
    (k_law_right : PySem.W.keepIn K (.ref f_law_right) = true)
    (a_law : PySem.W.nsIn K mainGlobals "law" = some (some (.ref f_law)))
    (l_law : K.lookup f_law = some ⟨oc_law, od_law, .func (PySem.W.fnOf "law" "law" (defArgs s_law) (defBody s_law) (defScope s_law) .none kV_law dc_law pm_law an_law cd_law ct_law), sl_law⟩)
    (c_law : PySem.W.codeIn K cd_law "law" = true)
    (k_law : PySem.W.keepIn K (.ref f_law) = true)
    (zb_isinstance : PySem.W.nsIn K mainGlobals "isinstance" = some none)
    (zb_int : PySem.W.nsIn K mainGlobals "int" = some none)
    (zb_bool : PySem.W.nsIn K mainGlobals "bool" = some none)
    (zb_len : PySem.W.nsIn K mainGlobals "len" = some none)
    (zb_range : PySem.W.nsIn K mainGlobals "range" = some none)
    (zb_tuple : PySem.W.nsIn K mainGlobals "tuple" = some none)
    (zb_list : PySem.W.nsIn K mainGlobals "list" = some none)
    (zb_sum : PySem.W.nsIn K mainGlobals "sum" = some none)
    (zb_min : PySem.W.nsIn K mainGlobals "min" = some none)
    (zb_repr : PySem.W.nsIn K mainGlobals "repr" = some none)
    (zb_sorted : PySem.W.nsIn K mainGlobals "sorted" = some none)
    (zb_OverflowError : PySem.W.nsIn K mainGlobals "OverflowError" = some none)
    (zb_LookupError : PySem.W.nsIn K mainGlobals "LookupError" = some none)
    (zb_gcd : PySem.W.nsIn K mainGlobals "gcd" = some (some (.builtin "math.gcd")))
    (gc_WheelError : PySem.W.nsIn K mainGlobals "WheelError" = some (some (.ref C_WheelError)))
    (rd_WheelError : PySem.W.readsIn K C_WheelError (.type "type") = true)
    (rg_WheelError : PySem.W.specialIn K (.ref C_WheelError) "__getattribute__" = some (some (.builtin "type.__getattribute__")))
    (ri_WheelError : PySem.W.findCls K (.ref C_WheelError) (.type "type") "__init__" = some (.val (.builtin "ValueError.__init__")))
    (gc_BadBase : PySem.W.nsIn K mainGlobals "BadBase" = some (some (.ref C_BadBase)))
    (gc_BadDenominator : PySem.W.nsIn K mainGlobals "BadDenominator" = some (some (.ref C_BadDenominator)))
    (gc_BadFraction : PySem.W.nsIn K mainGlobals "BadFraction" = some (some (.ref C_BadFraction)))
    (gc_BadDigits : PySem.W.nsIn K mainGlobals "BadDigits" = some (some (.ref C_BadDigits)))
    (gc_BadNumber : PySem.W.nsIn K mainGlobals "BadNumber" = some (some (.ref C_BadNumber)))
    (gc_BadPaper : PySem.W.nsIn K mainGlobals "BadPaper" = some (some (.ref C_BadPaper)))
    (gc_BadText : PySem.W.nsIn K mainGlobals "BadText" = some (some (.ref C_BadText)))
    (gc_TooGreat : PySem.W.nsIn K mainGlobals "TooGreat" = some (some (.ref C_TooGreat)))
    (gc_Nothing : PySem.W.nsIn K mainGlobals "Nothing" = some (some (.ref C_Nothing)))
    (iC_Nothing : PySem.W.findIn K (.ref C_Nothing) "__init__" = some (some (.ref I_Nothing)))
    (ini_Nothing : PySem.W.excInitIn K C_Nothing [.type "LookupError", .type "Exception", .type "BaseException", .type "object"] "LookupError.__new__" = true)
    (ov_Nothing : PySem.W.excOver K C_Nothing [.type "LookupError", .type "Exception", .type "BaseException", .type "object"] = true)
    (hd_Nothing : PySem.W.hasDictIn K C_Nothing = true)
    (sa_Nothing : PySem.W.findIn K (.ref C_Nothing) "__setattr__" = some (some (.builtin "object.__setattr__")))
    (ex_Nothing : PySem.W.subIn K (.ref C_Nothing) (.type "BaseException") = some true)
    (ty_Nothing : PySem.W.typeIn K (.ref C_Nothing) = some (.type "type"))
    (kp_Nothing : PySem.W.keepIn K (.ref C_Nothing) = true)
    (tk_Nothing : PySem.W.takerIn K C_Nothing "value" = some none)
    (no_Nothing : PySem.W.findIn K (.ref C_Nothing) "value" = some none)
    (tI_Nothing : PySem.W.typeIn K (.ref I_Nothing) = some (.type "function"))
    (ga_Nothing : PySem.W.findIn K (.ref C_Nothing) "__getattribute__" = some (some (.builtin "BaseException.__getattribute__")))
    (gg_Nothing : PySem.W.findIn K (.ref C_Nothing) "__getattr__" = some none)
    (ha_Nothing : PySem.W.findIn K (.ref C_Nothing) "__class__" = some (some (.builtin "object.__class__")))
    (mr_Nothing : PySem.W.mroIn K C_Nothing (.type "object") = some true)
    (il_Nothing : K.lookup I_Nothing = some ⟨ioc_Nothing, iod_Nothing, .func (PySem.W.fnOf "__init__" "Nothing.__init__" (defArgs s_Nothing_init) (defBody s_Nothing_init) (defScope s_Nothing_init) .none ikV_Nothing idc_Nothing ipm_Nothing ian_Nothing icd_Nothing ict_Nothing), isl_Nothing⟩)
    (ic_Nothing : PySem.W.codeIn K icd_Nothing "Nothing.__init__" = true)
    (ik_Nothing : PySem.W.keepIn K (.ref I_Nothing) = true)
    (cl_Nothing : PySem.W.isClsIn K C_Nothing = true)
    (hn_Nothing : PySem.W.specialIn K (.builtin "object.__class__") "__get__" = some (some (.builtin "getset_descriptor.__get__")))
    (ht_Nothing : PySem.W.takesIn K (.builtin "object.__class__") = some true)
    (kit_Nothing_BadBase : PySem.W.kitOne K (.ref C_Nothing) (.ref C_BadBase) = some false)
    (kit_Nothing_BadDenominator : PySem.W.kitOne K (.ref C_Nothing) (.ref C_BadDenominator) = some false)
    (kit_Nothing_BadFraction : PySem.W.kitOne K (.ref C_Nothing) (.ref C_BadFraction) = some false)
    (kit_Nothing_BadDigits : PySem.W.kitOne K (.ref C_Nothing) (.ref C_BadDigits) = some false)
    (kit_Nothing_BadNumber : PySem.W.kitOne K (.ref C_Nothing) (.ref C_BadNumber) = some false)
    (kit_Nothing_BadPaper : PySem.W.kitOne K (.ref C_Nothing) (.ref C_BadPaper) = some false)
    (kit_Nothing_BadText : PySem.W.kitOne K (.ref C_Nothing) (.ref C_BadText) = some false)
    (kit_Nothing_TooGreat : PySem.W.kitOne K (.ref C_Nothing) (.ref C_TooGreat) = some false)
    (kit_Nothing_Nothing : PySem.W.kitOne K (.ref C_Nothing) (.ref C_Nothing) = some true)
    (exm_Nothing : PySem.W.exmAny K (.ref C_Nothing) [.ref C_WheelError, .ref C_Nothing, .ref C_TooGreat] = some true)
    (ir_LookupError : PySem.W.findCls K (.type "LookupError") (.type "type") "__init__" = some (.val (.builtin "LookupError.__init__")))
    (e_law_right : cd_law_right = .ref kk_law_right)
    (lk_law_right : K.lookup kk_law_right = some ⟨c1_law_right, d1_law_right, .fields vs_law_right, s1_law_right⟩)
    (tv_law_right : vs_law_right[11]? = some (.ref pp_law_right))
    (np_law_right : K.lookup pp_law_right = none)
    (e_law : cd_law = .ref kk_law)
    (lk_law : K.lookup kk_law = some ⟨c1_law, d1_law, .fields vs_law, s1_law⟩)
    (tv_law : vs_law[11]? = some (.ref pp_law))
    (np_law : K.lookup pp_law = none)
    (ne_law_right_law : pp_law_right ≠ pp_law)
    (zc_MOST_BASE : PySem.W.nsIn K mainGlobals "MOST_BASE" = some (some (.int 1000 t_MOST_BASE)))
    (zc_MOST_DENOMINATOR : PySem.W.nsIn K mainGlobals "MOST_DENOMINATOR" = some (some (.int 5000 t_MOST_DENOMINATOR)))
    : ∃ (fd : FuncData) (cs : List (Addr × Addr)) (sp : Sp), (∀ p ∈ cs, (∃ y ∈ (["_law_right", "law"] : List Str), PySem.W.tabIn K y = some p) ∧ K.lookup p.2 = none) ∧ (∀ (s : Shared) (v : Value), BindsTo s fd ⟨[v], []⟩ [("script", v)]) ∧
      (∀ (H : Hp) (a : Addr) (ns : List Int), ns.length ≤ 63 → (∀ p ∈ cs, H p.2 = some (.tbl #[])) → SqL K H a (ns.map V.int) → sp [.ref a] H (fun v _ => v = .bl true) fun _ _ _ => False) ∧
      ∀ base : Heap, K.In base → base.Ns mainGlobals mg → (∀ p ∈ cs, LamX.TabB base mg p.1 p.2) → FnG l.prog w K mg base CX0 12 fa fd ["script"] sp := by
  obtain ⟨T, hTT⟩ : ∃ T : Txt K mg, T = {
    d_is_integer := Dn.of X G (fun us hl => match us, hl with | [_], _ => rfl) a_is_integer l_is_integer c_is_integer k_is_integer
    d_is_within := Dn.of X G (fun us hl => match us, hl with | [_, _, _], _ => rfl) a_is_within l_is_within c_is_within k_is_within
    d_need_base := Dn.of X G (fun us hl => match us, hl with | [_], _ => rfl) a_need_base l_need_base c_need_base k_need_base
    d_need_denominator := Dn.of X G (fun us hl => match us, hl with | [_], _ => rfl) a_need_denominator l_need_denominator c_need_denominator k_need_denominator
    d_need_pure := Dn.of X G (fun us hl => match us, hl with | [_, _], _ => rfl) a_need_pure l_need_pure c_need_pure k_need_pure
    d_pure_part := Dn.of X G (fun us hl => match us, hl with | [_, _], _ => rfl) a_pure_part l_pure_part c_pure_part k_pure_part
    d_period := Dn.of X G (fun us hl => match us, hl with | [_, _], _ => rfl) a_period l_period c_period k_period
    d_power_rest := Dn.of X G (fun us hl => match us, hl with | [_, _, _], _ => rfl) a_power_rest l_power_rest c_power_rest k_power_rest
    d_piece_size := Dn.of X G (fun us hl => match us, hl with | [_, _, _], _ => rfl) a_piece_size l_piece_size c_piece_size k_piece_size
    d_spaced := Dn.of X G (fun us hl => match us, hl with | [_, _, _, _], _ => rfl) a_spaced l_spaced c_spaced k_spaced
    d_is_balanced_with := Dn.of X G (fun us hl => match us, hl with | [_, _, _, _], _ => rfl) a_is_balanced_with l_is_balanced_with c_is_balanced_with k_is_balanced_with
    d_is_balanced := Dn.of X G (fun us hl => match us, hl with | [_, _, _], _ => rfl) a_is_balanced l_is_balanced c_is_balanced k_is_balanced
    d_quotients := Dn.of X G (fun us hl => match us, hl with | [_, _, _], _ => rfl) a_quotients l_quotients c_quotients k_quotients
    d_law_begun := Dn.of X G (fun us hl => match us, hl with | [_], _ => rfl) a_law_begun l_law_begun c_law_begun k_law_begun
    d_law_draw := Dn.of X G (fun us hl => match us, hl with | [_, _], _ => rfl) a_law_draw l_law_draw c_law_draw k_law_draw
    d_law_of := Dn.of X G (fun us hl => match us, hl with | [_, _], _ => rfl) a_law_of l_law_of c_law_of k_law_of
    d_law_divisor := Dn.of X G (fun us hl => match us, hl with | [_, _], _ => rfl) a_law_divisor l_law_divisor c_law_divisor k_law_divisor
    d_law_pure := Dn.of X G (fun us hl => match us, hl with | [_, _, _], _ => rfl) a_law_pure l_law_pure c_law_pure k_law_pure
    d_law_ring := Dn.of X G (fun us hl => match us, hl with | [_, _], _ => rfl) a_law_ring l_law_ring c_law_ring k_law_ring
    d_law_spread := Dn.of X G (fun us hl => match us, hl with | [_, _], _ => rfl) a_law_spread l_law_spread c_law_spread k_law_spread
    d_law_worth := Dn.of X G (fun us hl => match us, hl with | [_, _], _ => rfl) a_law_worth l_law_worth c_law_worth k_law_worth
    d_law_power := Dn.of X G (fun us hl => match us, hl with | [_, _], _ => rfl) a_law_power l_law_power c_law_power k_law_power
    d_law_splits := Dn.of X G (fun us hl => match us, hl with | [_, _], _ => rfl) a_law_splits l_law_splits c_law_splits k_law_splits
    d_law_sliced := Dn.of X G (fun us hl => match us, hl with | [_, _, _], _ => rfl) a_law_sliced l_law_sliced c_law_sliced k_law_sliced
    d_law_tops := Dn.of X G (fun us hl => match us, hl with | [_], _ => rfl) a_law_tops l_law_tops c_law_tops k_law_tops
    d_law_word := Dn.of X G (fun us hl => match us, hl with | [_], _ => rfl) a_law_word l_law_word c_law_word k_law_word
    d_law_outcome := Dn.of X G (fun us hl => match us, hl with | [_], _ => rfl) a_law_outcome l_law_outcome c_law_outcome k_law_outcome
    d_law_own := Dn.of X G (fun us hl => match us, hl with | [_, _, _, _], _ => rfl) a_law_own l_law_own c_law_own k_law_own
    d_law_right := Dn.of X G (fun us hl => match us, hl with | [_, _, _, _], _ => rfl) a_law_right l_law_right c_law_right k_law_right
    d_law := Dn.of X G (fun us hl => match us, hl with | [_], _ => rfl) a_law l_law c_law k_law
    b_isinstance := PySem.W.mg_none_of X G zb_isinstance
    b_int := PySem.W.mg_none_of X G zb_int
    b_bool := PySem.W.mg_none_of X G zb_bool
    b_len := PySem.W.mg_none_of X G zb_len
    b_range := PySem.W.mg_none_of X G zb_range
    b_tuple := PySem.W.mg_none_of X G zb_tuple
    b_list := PySem.W.mg_none_of X G zb_list
    b_sum := PySem.W.mg_none_of X G zb_sum
    b_min := PySem.W.mg_none_of X G zb_min
    b_repr := PySem.W.mg_none_of X G zb_repr
    b_sorted := PySem.W.mg_none_of X G zb_sorted
    b_OverflowError := PySem.W.mg_none_of X G zb_OverflowError
    b_LookupError := PySem.W.mg_none_of X G zb_LookupError
    b_gcd := PySem.W.mg_of X G zb_gcd
    C_WheelError := C_WheelError
    g_WheelError := PySem.W.mg_of X G gc_WheelError
    r_WheelError := ⟨rd_WheelError, rg_WheelError⟩
    i_WheelError := ri_WheelError
    C_BadBase := C_BadBase
    g_BadBase := PySem.W.mg_of X G gc_BadBase
    C_BadDenominator := C_BadDenominator
    g_BadDenominator := PySem.W.mg_of X G gc_BadDenominator
    C_BadFraction := C_BadFraction
    g_BadFraction := PySem.W.mg_of X G gc_BadFraction
    C_BadDigits := C_BadDigits
    g_BadDigits := PySem.W.mg_of X G gc_BadDigits
    C_BadNumber := C_BadNumber
    g_BadNumber := PySem.W.mg_of X G gc_BadNumber
    C_BadPaper := C_BadPaper
    g_BadPaper := PySem.W.mg_of X G gc_BadPaper
    C_BadText := C_BadText
    g_BadText := PySem.W.mg_of X G gc_BadText
    C_TooGreat := C_TooGreat
    g_TooGreat := PySem.W.mg_of X G gc_TooGreat
    C_Nothing := C_Nothing
    g_Nothing := PySem.W.mg_of X G gc_Nothing
    I_Nothing := I_Nothing
    T_Nothing := ⟨PySem.F.excBase_LookupError, PySem.F.store_LookupError, ini_Nothing, ov_Nothing, hd_Nothing, sa_Nothing, ex_Nothing, ty_Nothing, kp_Nothing, tk_Nothing, no_Nothing, iC_Nothing, tI_Nothing, ga_Nothing, gg_Nothing, ha_Nothing, mr_Nothing⟩
    fd_Nothing := _
    F_Nothing := fun_mk il_Nothing ic_Nothing ik_Nothing
    b_Nothing := .all (fun us hl => match us, hl with | [_, _], _ => rfl)
    is_Nothing := ⟨cl_Nothing, ga_Nothing, gg_Nothing, ex_Nothing, ha_Nothing, hn_Nothing, ht_Nothing, mr_Nothing⟩
    kit_Nothing_BadBase := kit_Nothing_BadBase
    kit_Nothing_BadDenominator := kit_Nothing_BadDenominator
    kit_Nothing_BadFraction := kit_Nothing_BadFraction
    kit_Nothing_BadDigits := kit_Nothing_BadDigits
    kit_Nothing_BadNumber := kit_Nothing_BadNumber
    kit_Nothing_BadPaper := kit_Nothing_BadPaper
    kit_Nothing_BadText := kit_Nothing_BadText
    kit_Nothing_TooGreat := kit_Nothing_TooGreat
    kit_Nothing_Nothing := kit_Nothing_Nothing
    exm_Nothing := exm_Nothing
    i_LookupError := ir_LookupError
    k_law_right := kk_law_right
    p_law_right := pp_law_right
    e_law_right := e_law_right
    k_law := kk_law
    p_law := pp_law
    e_law := e_law
    ne_law_right_law := ne_law_right_law
    t_MOST_BASE := t_MOST_BASE
    c_MOST_BASE := PySem.W.mg_of X G zc_MOST_BASE
    t_MOST_DENOMINATOR := t_MOST_DENOMINATOR
    c_MOST_DENOMINATOR := PySem.W.mg_of X G zc_MOST_DENOMINATOR
  } := ⟨_, rfl⟩
  have e := hfa.symm.trans T.d_law.m
  cases e
  refine ⟨T.d_law.fd, [(T.k_law_right, T.p_law_right), (T.k_law, T.p_law)], (sp_law T), ?_, fun s v => .of_eq (T.d_law.e [v] rfl), ?_, fun base _ _ hB => okG_law T ⟨hB (T.k_law_right, T.p_law_right) (by simp), hB (T.k_law, T.p_law) (by simp)⟩⟩
  · intro p hp
    simp only [List.mem_cons, List.not_mem_nil, or_false] at hp
    subst hTT
    rcases hp with rfl | rfl
    · exact ⟨⟨"_law_right", by simp, tab_mk a_law_right l_law_right e_law_right lk_law_right tv_law_right⟩, np_law_right⟩
    · exact ⟨⟨"law", by simp, tab_mk a_law l_law e_law lk_law tv_law⟩, np_law⟩
  · intro H a ns hl hT hS
    refine ⟨a, ns, rfl, tabs0 fun p hp => ?_, hS, hl, fun _ => rfl⟩
    unfold tl at hp
    simp only [List.mem_cons, List.not_mem_nil, or_false] at hp
    rcases hp with rfl | rfl
    · exact hT (T.k_law_right, T.p_law_right) (by simp)
    · exact hT (T.k_law, T.p_law) (by simp)
end Wn
open PySem PySem.W PyProof.Rows
set_option maxRecDepth 100000 in
set_option maxHeartbeats 0 in
theorem PySem.Challenge.cw_wheelnines_k10_whole_quotients_holds : PySem.Challenge.rw_wheelnines_k10_whole_quotients.Holds := by
  w_on; o_law; k_head; (case hw => w_witness2)
  k_fill
  refine Wn.walkGT (l := PySem.Challenge.rw_wheelnines_k10_whole_quotients) (n := 63) (k := 12) (x := "script") (xs := ["_law_right", "law"]) rfl (by decide) rfl ⟨rfl, by decide, by decide⟩ (by decide +kernel) (fun w h Y => by first | exact PySem.W.km_in_of Y | exact PySem.W.kIn_of Y) ?F
  case F =>
    intro w mg fa h KX G hmg
    refine' Wn.all_mk KX G hmg ?a_is_integer ?l_is_integer ?c_is_integer ?k_is_integer ?a_is_within ?l_is_within ?c_is_within ?k_is_within ?a_need_base ?l_need_base ?c_need_base ?k_need_base ?a_need_denominator ?l_need_denominator ?c_need_denominator ?k_need_denominator ?a_need_pure ?l_need_pure ?c_need_pure ?k_need_pure ?a_pure_part ?l_pure_part ?c_pure_part ?k_pure_part ?a_period ?l_period ?c_period ?k_period ?a_power_rest ?l_power_rest ?c_power_rest ?k_power_rest ?a_piece_size ?l_piece_size ?c_piece_size ?k_piece_size ?a_spaced ?l_spaced ?c_spaced ?k_spaced ?a_is_balanced_with ?l_is_balanced_with ?c_is_balanced_with ?k_is_balanced_with ?a_is_balanced ?l_is_balanced ?c_is_balanced ?k_is_balanced ?a_quotients ?l_quotients ?c_quotients ?k_quotients ?a_law_begun ?l_law_begun ?c_law_begun ?k_law_begun ?a_law_draw ?l_law_draw ?c_law_draw ?k_law_draw ?a_law_of ?l_law_of ?c_law_of ?k_law_of ?a_law_divisor ?l_law_divisor ?c_law_divisor ?k_law_divisor ?a_law_pure ?l_law_pure ?c_law_pure ?k_law_pure ?a_law_ring ?l_law_ring ?c_law_ring ?k_law_ring ?a_law_spread ?l_law_spread ?c_law_spread ?k_law_spread ?a_law_worth ?l_law_worth ?c_law_worth ?k_law_worth ?a_law_power ?l_law_power ?c_law_power ?k_law_power ?a_law_splits ?l_law_splits ?c_law_splits ?k_law_splits ?a_law_sliced ?l_law_sliced ?c_law_sliced ?k_law_sliced ?a_law_tops ?l_law_tops ?c_law_tops ?k_law_tops ?a_law_word ?l_law_word ?c_law_word ?k_law_word ?a_law_outcome ?l_law_outcome ?c_law_outcome ?k_law_outcome ?a_law_own ?l_law_own ?c_law_own ?k_law_own ?a_law_right ?l_law_right ?c_law_right ?k_law_right ?a_law ?l_law ?c_law ?k_law ?zb_isinstance ?zb_int ?zb_bool ?zb_len ?zb_range ?zb_tuple ?zb_list ?zb_sum ?zb_min ?zb_repr ?zb_sorted ?zb_OverflowError ?zb_LookupError ?zb_gcd ?gc_WheelError ?rd_WheelError ?rg_WheelError ?ri_WheelError ?gc_BadBase ?gc_BadDenominator ?gc_BadFraction ?gc_BadDigits ?gc_BadNumber ?gc_BadPaper ?gc_BadText ?gc_TooGreat ?gc_Nothing ?iC_Nothing ?ini_Nothing ?ov_Nothing ?hd_Nothing ?sa_Nothing ?ex_Nothing ?ty_Nothing ?kp_Nothing ?tk_Nothing ?no_Nothing ?tI_Nothing ?ga_Nothing ?gg_Nothing ?ha_Nothing ?mr_Nothing ?il_Nothing ?ic_Nothing ?ik_Nothing ?cl_Nothing ?hn_Nothing ?ht_Nothing ?kit_Nothing_BadBase ?kit_Nothing_BadDenominator ?kit_Nothing_BadFraction ?kit_Nothing_BadDigits ?kit_Nothing_BadNumber ?kit_Nothing_BadPaper ?kit_Nothing_BadText ?kit_Nothing_TooGreat ?kit_Nothing_Nothing ?exm_Nothing ?ir_LookupError ?e_law_right ?lk_law_right ?tv_law_right ?np_law_right ?e_law ?lk_law ?tv_law ?np_law ?ne_law_right_law ?zc_MOST_BASE ?zc_MOST_DENOMINATOR
    (case a_is_integer => k_is)
    (case l_is_integer => k_is)
    (case c_is_integer => k_is)
    (case k_is_integer => k_is)
    (case a_is_within => k_is)
    (case l_is_within => k_is)
    (case c_is_within => k_is)
    (case k_is_within => k_is)
    (case a_need_base => k_is)
    (case l_need_base => k_is)
    (case c_need_base => k_is)
    (case k_need_base => k_is)
    (case a_need_denominator => k_is)
    (case l_need_denominator => k_is)
    (case c_need_denominator => k_is)
    (case k_need_denominator => k_is)
    (case a_need_pure => k_is)
    (case l_need_pure => k_is)
    (case c_need_pure => k_is)
    (case k_need_pure => k_is)
    (case a_pure_part => k_is)
    (case l_pure_part => k_is)
    (case c_pure_part => k_is)
    (case k_pure_part => k_is)
    (case a_period => k_is)
    (case l_period => k_is)
    (case c_period => k_is)
    (case k_period => k_is)
    (case a_power_rest => k_is)
    (case l_power_rest => k_is)
    (case c_power_rest => k_is)
    (case k_power_rest => k_is)
    (case a_piece_size => k_is)
    (case l_piece_size => k_is)
    (case c_piece_size => k_is)
    (case k_piece_size => k_is)
    (case a_spaced => k_is)
    (case l_spaced => k_is)
    (case c_spaced => k_is)
    (case k_spaced => k_is)
    (case a_is_balanced_with => k_is)
    (case l_is_balanced_with => k_is)
    (case c_is_balanced_with => k_is)
    (case k_is_balanced_with => k_is)
    (case a_is_balanced => k_is)
    (case l_is_balanced => k_is)
    (case c_is_balanced => k_is)
    (case k_is_balanced => k_is)
    (case a_quotients => k_is)
    (case l_quotients => k_is)
    (case c_quotients => k_is)
    (case k_quotients => k_is)
    (case a_law_begun => k_is)
    (case l_law_begun => k_is)
    (case c_law_begun => k_is)
    (case k_law_begun => k_is)
    (case a_law_draw => k_is)
    (case l_law_draw => k_is)
    (case c_law_draw => k_is)
    (case k_law_draw => k_is)
    (case a_law_of => k_is)
    (case l_law_of => k_is)
    (case c_law_of => k_is)
    (case k_law_of => k_is)
    (case a_law_divisor => k_is)
    (case l_law_divisor => k_is)
    (case c_law_divisor => k_is)
    (case k_law_divisor => k_is)
    (case a_law_pure => k_is)
    (case l_law_pure => k_is)
    (case c_law_pure => k_is)
    (case k_law_pure => k_is)
    (case a_law_ring => k_is)
    (case l_law_ring => k_is)
    (case c_law_ring => k_is)
    (case k_law_ring => k_is)
    (case a_law_spread => k_is)
    (case l_law_spread => k_is)
    (case c_law_spread => k_is)
    (case k_law_spread => k_is)
    (case a_law_worth => k_is)
    (case l_law_worth => k_is)
    (case c_law_worth => k_is)
    (case k_law_worth => k_is)
    (case a_law_power => k_is)
    (case l_law_power => k_is)
    (case c_law_power => k_is)
    (case k_law_power => k_is)
    (case a_law_splits => k_is)
    (case l_law_splits => k_is)
    (case c_law_splits => k_is)
    (case k_law_splits => k_is)
    (case a_law_sliced => k_is)
    (case l_law_sliced => k_is)
    (case c_law_sliced => k_is)
    (case k_law_sliced => k_is)
    (case a_law_tops => k_is)
    (case l_law_tops => k_is)
    (case c_law_tops => k_is)
    (case k_law_tops => k_is)
    (case a_law_word => k_is)
    (case l_law_word => k_is)
    (case c_law_word => k_is)
    (case k_law_word => k_is)
    (case a_law_outcome => k_is)
    (case l_law_outcome => k_is)
    (case c_law_outcome => k_is)
    (case k_law_outcome => k_is)
    (case a_law_own => k_is)
    (case l_law_own => k_is)
    (case c_law_own => k_is)
    (case k_law_own => k_is)
    (case a_law_right => k_is)
    (case l_law_right => k_is)
    (case c_law_right => k_is)
    (case k_law_right => k_is)
    (case a_law => k_is)
    (case l_law => k_is)
    (case c_law => k_is)
    (case k_law => k_is)
    (case zb_isinstance => k_is)
    (case zb_int => k_is)
    (case zb_bool => k_is)
    (case zb_len => k_is)
    (case zb_range => k_is)
    (case zb_tuple => k_is)
    (case zb_list => k_is)
    (case zb_sum => k_is)
    (case zb_min => k_is)
    (case zb_repr => k_is)
    (case zb_sorted => k_is)
    (case zb_OverflowError => k_is)
    (case zb_LookupError => k_is)
    (case zb_gcd => k_is)
    (case gc_WheelError => k_is)
    (case rd_WheelError => k_is)
    (case rg_WheelError => k_is)
    (case ri_WheelError => k_is)
    (case gc_BadBase => k_is)
    (case gc_BadDenominator => k_is)
    (case gc_BadFraction => k_is)
    (case gc_BadDigits => k_is)
    (case gc_BadNumber => k_is)
    (case gc_BadPaper => k_is)
    (case gc_BadText => k_is)
    (case gc_TooGreat => k_is)
    (case gc_Nothing => k_is)
    (case iC_Nothing => k_is)
    (case ini_Nothing => kx_is)
    (case ov_Nothing => kx_is)
    (case hd_Nothing => k_is)
    (case sa_Nothing => k_is)
    (case ex_Nothing => k_is)
    (case ty_Nothing => k_is)
    (case kp_Nothing => k_is)
    (case tk_Nothing => k_is)
    (case no_Nothing => k_is)
    (case tI_Nothing => k_is)
    (case ga_Nothing => k_is)
    (case gg_Nothing => k_is)
    (case ha_Nothing => k_is)
    (case mr_Nothing => k_is)
    (case il_Nothing => k_is)
    (case ic_Nothing => k_is)
    (case ik_Nothing => k_is)
    (case cl_Nothing => k_is)
    (case hn_Nothing => k_is)
    (case ht_Nothing => k_is)
    (case kit_Nothing_BadBase => kit_is)
    (case kit_Nothing_BadDenominator => kit_is)
    (case kit_Nothing_BadFraction => kit_is)
    (case kit_Nothing_BadDigits => kit_is)
    (case kit_Nothing_BadNumber => kit_is)
    (case kit_Nothing_BadPaper => kit_is)
    (case kit_Nothing_BadText => kit_is)
    (case kit_Nothing_TooGreat => kit_is)
    (case kit_Nothing_Nothing => kit_is)
    (case exm_Nothing => kernel_rfl)
    (case ir_LookupError => k_is)
    (case e_law_right => rfl)
    (case lk_law_right => k_is)
    (case tv_law_right => rfl)
    (case np_law_right => kernel_rfl)
    (case e_law => rfl)
    (case lk_law => k_is)
    (case tv_law => rfl)
    (case np_law => kernel_rfl)
    (case ne_law_right_law => first | k_is | decide | (intro z; cases z))
    (case zc_MOST_BASE => k_is)
    (case zc_MOST_DENOMINATOR => k_is)
