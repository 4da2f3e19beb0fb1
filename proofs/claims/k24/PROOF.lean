import PyProof.Rows.All
import Wide.All
import OpenK.AllK
import Wide.FinOn
import HandS.ForMost
import HandS.Wide
import HandS.Gcd
import HandS.IsInst
import HandS.TupAny
import HandS.Style
import PyProof.ReprBulk
import PyProof.ReprRoads
import PyProof.ReprLen
import PyProof.Rows.SumAny
import PyProof.WalksMore
import HandS.SetFor
import HandS.Strs
import HandS.TupMul
import KE.GoesEnum
import PyProof.EnumMake
import PyProof.EnumStmt
import HandS.Conv
import HandS.SortInts
import KE.KExcInit
import HandS.ExcInit
import HandS.ExcValue
import HandS.ExcField
import HandS.ExcIs
import HandS.ClsMeth
import KE.KExcIs
import KE.KTryMore
import HandS.TryMany
import HandS.Lambda
import KE.KDflt
import HandS.EndTab
import KE.KExcLine
import PySem.Challenge.RW_wheelnines_k24_known_fractions
set_option Elab.async false
set_option linter.all false
set_option maxRecDepth 100000
set_option maxHeartbeats 4000000
namespace Wn
open PySem PySem.Spec PyProof.Rows L2
/-! a def of the text as it stands: where, its facts, its name -/
structure Dn (K : PySem.W.Frag) (mg : Str → Option Value) (x : Str) (st : Stmt) (ps : List Str) where
  f : Addr
  fd : FuncData
  F : Fun K x x st f fd
  e : ∀ us : List Value, us.length = ps.length → bindArgs fd ⟨us, []⟩ = pure (ps.zip us)
  m : mg x = some (.ref f)
theorem Dn.b {K : PySem.W.Frag} {mg : Str → Option Value} {x : Str} {st : Stmt} {ps : List Str} (D : Dn K mg x st ps) : Binds K D.fd ps [] := .all D.e
def Dn.of {K : PySem.W.Frag} {h : Heap} {mg : Str → Option Value} {x : Str} {st : Stmt} {ps : List Str} {f : Addr} {oc kV doc pm cdv ct : Value} {od an : Option Addr} {osl : Array (Option Value)} (X : K.In h) (G : h.Ns mainGlobals mg)
    (hb : ∀ us : List Value, us.length = ps.length → bindArgs (PySem.W.fnOf x x (defArgs st) (defBody st) (defScope st) .none kV doc pm an cdv ct) ⟨us, []⟩ = pure (ps.zip us))
    (a : PySem.W.nsIn K mainGlobals x = some (some (.ref f))) (l : K.lookup f = some ⟨oc, od, .func (PySem.W.fnOf x x (defArgs st) (defBody st) (defScope st) .none kV doc pm an cdv ct), osl⟩)
    (c : PySem.W.codeIn K cdv x = true) (k : PySem.W.keepIn K (.ref f) = true) : Dn K mg x st ps := ⟨f, _, fun_mk l c k, hb, PySem.W.mg_of X G a⟩
/-! all that stood stands, but what is at W -/
def Gr (W : List Addr) (H H' : Hp) : Prop := ∀ a o, a ∉ W → H a = some o → H' a = some o
theorem Gr.refl (W : List Addr) (H : Hp) : Gr W H H := fun _ _ _ h => h
theorem Gr.trans {W : List Addr} {H H1 H2 : Hp} (a : Gr W H H1) (b : Gr W H1 H2) : Gr W H H2 := fun x o n h => b x o n (a x o n h)
theorem Gr.new {W : List Addr} {H : Hp} {p : Addr} {o : HO} (h : H p = none) : Gr W H (upd H p o) := fun a u _ e => by
  rw [upd_ne (ne_of_none e h)]
  exact e
theorem Gr.wr {W : List Addr} {H : Hp} {p : Addr} {o : HO} (h : p ∈ W) : Gr W H (upd H p o) := fun a u n e => by
  have z : a ≠ p := fun z => by
    subst z
    exact n h
  rw [upd_ne z]
  exact e
theorem Gr.mono {W W' : List Addr} {H H' : Hp} (h : ∀ a, a ∈ W → a ∈ W') (g : Gr W H H') : Gr W' H H' := fun a o n e => g a o (fun z => n (h a z)) e
end Wn
/-! the mathematics: powers, remainders, pure parts, periods, heads -/
namespace Wn
theorem cop_pow {a b : Nat} (h : Nat.gcd a b = 1) (k : Nat) : Nat.gcd (a ^ k) b = 1 := Nat.Coprime.pow_left k h
theorem mod_iff {p a c : Nat} (h : a ≤ c) : a % p = c % p ↔ p ∣ c - a := by
  constructor
  · intro e
    exact Nat.dvd_of_mod_eq_zero (Nat.sub_mod_eq_zero_of_mod_eq e.symm)
  · rintro ⟨t, e⟩
    have : c = a + p * t := by omega
    rw [this, Nat.add_mul_mod_self_left]
/-! a pigeonhole -/
theorem nodup_le : ∀ (n : Nat) (l : List Nat), l.Nodup → (∀ x ∈ l, x < n) → l.length ≤ n := by
  intro n
  induction n with
  | zero =>
    intro l _ h
    cases l with
    | nil => exact Nat.le_refl _
    | cons x r => exact absurd (h x (List.mem_cons_self ..)) (Nat.not_lt_zero _)
  | succ n ih =>
    intro l nd h
    have h1 := ih (l.erase n) (nd.erase n) (fun x hx => by
      have hm := List.mem_of_mem_erase hx
      have hlt := h x hm
      have hne : x ≠ n := fun e => by
        subst e
        exact (List.Nodup.not_mem_erase nd) hx
      omega)
    by_cases hn : n ∈ l
    · rw [List.length_erase_of_mem hn] at h1
      omega
    · rw [List.erase_of_not_mem hn] at h1
      omega
/-- among n + 1 numbers below n two are the same -/
theorem pigeon (n : Nat) (f : Nat → Nat) (h : ∀ i, i ≤ n → f i < n) : ∃ i j, i < j ∧ j ≤ n ∧ f i = f j := by
  by_cases nd : ((List.range (n + 1)).map f).Nodup
  · have := nodup_le n _ nd (fun x hx => by
      obtain ⟨i, hi, e⟩ := List.mem_map.mp hx
      rw [← e]
      exact h i (by have := List.mem_range.mp hi; omega))
    rw [List.length_map, List.length_range] at this
    omega
  · rw [List.nodup_iff_pairwise_ne, List.pairwise_map] at nd
    apply Classical.byContradiction
    intro hc
    apply nd
    rw [List.pairwise_iff_getElem]
    intro i j hi hj hij e
    rw [List.getElem_range, List.getElem_range] at e
    rw [List.length_range] at hj
    exact hc ⟨i, j, hij, by omega, e⟩
/-! pure parts -/
def IsPure (b n p : Nat) : Prop := Nat.gcd b p = 1 ∧ ∃ q k, n = p * q ∧ q ∣ b ^ k
theorem cop_of_dvd_pow {b p q k : Nat} (h : Nat.gcd b p = 1) (hq : q ∣ b ^ k) : Nat.gcd p q = 1 := by
  have h1 : Nat.gcd (b ^ k) p = 1 := cop_pow h k
  have h2 : Nat.gcd p q ∣ Nat.gcd (b ^ k) p := Nat.dvd_gcd (Nat.dvd_trans (Nat.gcd_dvd_right p q) hq) (Nat.gcd_dvd_left p q)
  rw [h1] at h2
  exact Nat.dvd_one.mp h2
theorem IsPure.dvd {b n p p' : Nat} (h : IsPure b n p) (h' : IsPure b n p') : p ∣ p' := by
  obtain ⟨g, q, k, e, hq⟩ := h
  obtain ⟨g', q', k', e', hq'⟩ := h'
  have c : Nat.Coprime p q' := cop_of_dvd_pow g hq'
  refine c.dvd_of_dvd_mul_right ?_
  rw [← e', e]
  exact Nat.dvd_mul_right p q
theorem IsPure.uniq {b n p p' : Nat} (h : IsPure b n p) (h' : IsPure b n p') : p = p' := Nat.dvd_antisymm (h.dvd h') (h'.dvd h)
theorem IsPure.self {b n : Nat} (h : Nat.gcd b n = 1) : IsPure b n n := ⟨h, 1, 0, by simp, by simp⟩
/-! periods -/
def IsPer (b p d : Nat) : Prop := 1 ≤ d ∧ b ^ d % p = 1 % p ∧ ∀ j, 1 ≤ j → j < d → b ^ j % p ≠ 1 % p
theorem IsPer.uniq {b p d d' : Nat} (h : IsPer b p d) (h' : IsPer b p d') : d = d' := by
  obtain ⟨h1, h2, h3⟩ := h
  obtain ⟨g1, g2, g3⟩ := h'
  apply Nat.le_antisymm
  · apply Nat.le_of_not_lt
    intro l
    exact h3 d' g1 l g2
  · apply Nat.le_of_not_lt
    intro l
    exact g3 d h1 l h2
theorem least (P : Nat → Prop) [DecidablePred P] : ∀ n, P n → ∃ m, m ≤ n ∧ P m ∧ ∀ j, j < m → ¬ P j := by
  intro n
  induction n using Nat.strongRecOn with
  | _ n ih =>
    intro hn
    by_cases h : ∃ j, j < n ∧ P j
    · obtain ⟨j, hj, pj⟩ := h
      obtain ⟨m, hm, pm, q⟩ := ih j hj pj
      exact ⟨m, by omega, pm, q⟩
    · exact ⟨n, Nat.le_refl _, hn, fun j hj pj => h ⟨j, hj, pj⟩⟩
/-- a common factor that is pure may go: b ^ i * c ≡ b ^ i * d -/
theorem mod_cancel {p a c d : Nat} (g : Nat.gcd a p = 1) (h : a * c % p = a * d % p) : c % p = d % p := by
  have key : ∀ {c d : Nat}, c ≤ d → a * c % p = a * d % p → c % p = d % p := by
    intro c d hcd h
    have h1 : p ∣ a * (d - c) := by
      rw [Nat.mul_sub]
      exact (mod_iff (Nat.mul_le_mul_left a hcd)).mp h
    have h2 : p ∣ d - c := Nat.Coprime.dvd_of_dvd_mul_left (Nat.Coprime.symm g) h1
    exact (mod_iff hcd).mpr h2
  rcases Nat.le_total c d with l | l
  · exact key l h
  · exact (key l h.symm).symm
theorem per_exists {b p : Nat} (hp : 1 ≤ p) (g : Nat.gcd b p = 1) : ∃ d, d ≤ p ∧ IsPer b p d := by
  obtain ⟨i, j, hij, hj, e⟩ := pigeon p (fun k => b ^ k % p) (fun i _ => Nat.mod_lt _ hp)
  have e1 : b ^ (j - i) % p = 1 % p := by
    have e' : b ^ i * b ^ (j - i) % p = b ^ i * 1 % p := by
      rw [← Nat.pow_add, show i + (j - i) = j by omega, Nat.mul_one]
      exact e.symm
    exact mod_cancel (cop_pow g i) e'
  obtain ⟨m, hm, ⟨pm1, pm⟩, q⟩ := least (fun k => 1 ≤ k ∧ b ^ k % p = 1 % p) (j - i) ⟨by omega, e1⟩
  exact ⟨m, by omega, pm1, pm, fun k k1 kl z => q k kl ⟨k1, z⟩⟩
theorem pow_mod_step (b p k : Nat) : b ^ k % p * b % p = b ^ (k + 1) % p := by
  rw [Nat.mod_mul_mod, Nat.pow_succ]
theorem IsPer.mul {b p d : Nat} (h : IsPer b p d) (k : Nat) : b ^ (d * k) % p = 1 % p := by
  induction k with
  | zero => simp
  | succ k ih =>
    rw [Nat.mul_succ, Nat.pow_add, Nat.mul_mod, ih, h.2.1, ← Nat.mul_mod, Nat.mul_one]
theorem IsPer.iff {b p d : Nat} (h : IsPer b p d) (k : Nat) : b ^ k % p = 1 % p ↔ d ∣ k := by
  have e : b ^ k % p = b ^ (k % d) % p := by
    have := Nat.div_add_mod k d
    rw [show b ^ k = b ^ (d * (k / d) + k % d) by rw [this], Nat.pow_add, Nat.mul_mod, h.mul, ← Nat.mul_mod, Nat.one_mul]
  constructor
  · intro hk
    rw [e] at hk
    apply Nat.dvd_of_mod_eq_zero
    apply Classical.byContradiction
    intro hz
    exact h.2.2 (k % d) (by omega) (Nat.mod_lt _ h.1) hk
  · rintro ⟨m, rfl⟩
    exact h.mul m
/-! heads -/
def IsHead (b q h : Nat) : Prop := b ^ h % q = 0 ∧ ∀ j, j < h → b ^ j % q ≠ 0
theorem IsHead.uniq {b q h h' : Nat} (a : IsHead b q h) (c : IsHead b q h') : h = h' := by
  apply Nat.le_antisymm
  · apply Nat.le_of_not_lt
    intro l
    exact a.2 h' l c.1
  · apply Nat.le_of_not_lt
    intro l
    exact c.2 h l a.1
theorem head_exists {b q k : Nat} (h : q ∣ b ^ k) : ∃ m, m ≤ k ∧ IsHead b q m := by
  obtain ⟨m, hm, pm, r⟩ := least (fun j => b ^ j % q = 0) k (Nat.mod_eq_zero_of_dvd h)
  exact ⟨m, hm, pm, r⟩
theorem IsHead.iff {b q h : Nat} (a : IsHead b q h) (k : Nat) : q ∣ b ^ k ↔ h ≤ k := by
  constructor
  · intro d
    apply Nat.le_of_not_lt
    intro l
    exact a.2 k l (Nat.mod_eq_zero_of_dvd d)
  · intro l
    have d : q ∣ b ^ h := Nat.dvd_of_mod_eq_zero a.1
    rw [show k = h + (k - h) by omega, Nat.pow_add]
    exact Nat.dvd_trans d (Nat.dvd_mul_right _ _)
theorem head_le {b q h : Nat} (hq : 1 ≤ q) (a : IsHead b q h) : h ≤ q := by
  apply Nat.le_of_not_lt
  intro l
  -- among the first q + 1 remainders two are the same: then none is nought behind
  obtain ⟨i, j, hij, hj, e⟩ := pigeon q (fun k => b ^ k % q) (fun i _ => Nat.mod_lt _ hq)
  have key : ∀ k, b ^ (i + k) % q = b ^ (j + k) % q := by
    intro k
    rw [Nat.pow_add, Nat.pow_add, Nat.mul_mod, e, ← Nat.mul_mod]
  have hz : b ^ (j + (h - j)) % q = 0 := by
    rw [show j + (h - j) = h by omega]
    exact a.1
  rw [← key] at hz
  exact a.2 (i + (h - j)) (by omega) hz
/-! remainders -/
def rem (b n x i : Nat) : Nat := x * b ^ i % n
theorem rem_lt {b n x i : Nat} (h : 1 ≤ n) : rem b n x i < n := Nat.mod_lt _ h
theorem rem_succ (b n x i : Nat) : rem b n x i * b % n = rem b n x (i + 1) := by
  unfold rem
  rw [Nat.mod_mul_mod, Nat.pow_succ, Nat.mul_assoc]
theorem rem_zero {b n x : Nat} (h : x < n) : rem b n x 0 = x := by
  unfold rem
  rw [Nat.pow_zero, Nat.mul_one, Nat.mod_eq_of_lt h]
/-- THE RING: when remainders come again -/
theorem rem_eq {b n x p q h L i j : Nat} (gx : Nat.gcd x n = 1) (e : n = p * q) (gp : Nat.gcd b p = 1) (gq : Nat.gcd p q = 1) (hh : IsHead b q h) (hL : IsPer b p L) (hij : i < j) :
    rem b n x i = rem b n x j ↔ h ≤ i ∧ L ∣ j - i := by
  have hle : b ^ i ≤ b ^ j ∨ b = 0 := by
    rcases Nat.eq_zero_or_pos b with z | z
    · exact .inr z
    · exact .inl (Nat.pow_le_pow_right z (Nat.le_of_lt hij))
  have hs : b ^ j = b ^ i * b ^ (j - i) := by rw [← Nat.pow_add, show i + (j - i) = j by omega]
  unfold rem
  constructor
  · intro hr
    have h1 : b ^ i % n = b ^ j % n := mod_cancel gx hr
    have hp : b ^ i % p = b ^ j % p := by
      have := congrArg (· % p) h1
      rw [e, Nat.mod_mul_right_mod, Nat.mod_mul_right_mod] at this
      exact this
    have hq : b ^ i % q = b ^ j % q := by
      have := congrArg (· % q) h1
      rw [e, Nat.mod_mul_left_mod, Nat.mod_mul_left_mod] at this
      exact this
    have dL : L ∣ j - i := by
      rw [← hL.iff]
      refine mod_cancel (cop_pow gp i) ?_
      rw [← hs, Nat.mul_one]
      exact hp.symm
    refine ⟨?_, dL⟩
    rw [← hh.iff]
    -- q divides b ^ i * (b ^ (j - i) - 1), and b ^ (j - i) is a multiple that goes on: take many turns
    have key : ∀ k, b ^ i % q = b ^ (i + (j - i) * k) % q := by
      intro k
      induction k with
      | zero => simp
      | succ k ih =>
        rw [show i + (j - i) * (k + 1) = (j - i) + (i + (j - i) * k) by rw [Nat.mul_succ]; omega, Nat.pow_add, Nat.mul_mod, ← ih, ← Nat.mul_mod, ← Nat.pow_add, show (j - i) + i = j by omega]
        exact hq
    have hz : b ^ (i + (j - i) * h) % q = 0 := by
      apply Nat.mod_eq_zero_of_dvd
      rw [hh.iff]
      have : h ≤ (j - i) * h := Nat.le_mul_of_pos_left h (by omega)
      omega
    exact Nat.dvd_of_mod_eq_zero ((key h).trans hz)
  · rintro ⟨h1, h2⟩
    have hp : b ^ (j - i) % p = 1 % p := (hL.iff _).mpr h2
    have hqd : q ∣ b ^ i := (hh.iff i).mpr h1
    have hpd : b ^ i % p = b ^ j % p := by
      rw [hs, Nat.mul_mod, hp, ← Nat.mul_mod, Nat.mul_one]
    have both : b ^ i % n = b ^ j % n := by
      rcases hle with hle | hb
      · apply (mod_iff hle).mpr
        rw [e]
        refine Nat.Coprime.mul_dvd_of_dvd_of_dvd gq ?_ ?_
        · exact (mod_iff hle).mp hpd
        · rw [hs, ← Nat.mul_sub_one]
          exact Nat.dvd_trans hqd (Nat.dvd_mul_right _ _)
      · subst hb
        have hp1 : p = 1 := by rw [Nat.gcd_zero_left] at gp; exact gp
        subst hp1
        rw [Nat.one_mul] at e
        subst e
        rw [Nat.mod_eq_zero_of_dvd hqd, Nat.mod_eq_zero_of_dvd (by rw [hs]; exact Nat.dvd_trans hqd (Nat.dvd_mul_right _ _))]
    rw [Nat.mul_mod, both, ← Nat.mul_mod]
/-! all of a denominator in a base -/
structure Par (b n p q h L : Nat) : Prop where
  hp : IsPure b n p
  e : n = p * q
  hh : IsHead b q h
  hL : IsPer b p L
theorem pure_exists (b : Nat) : ∀ n, 1 ≤ n → ∃ p, IsPure b n p := by
  intro n
  induction n using Nat.strongRecOn with
  | _ n ih =>
    intro hn
    by_cases g : Nat.gcd b n = 1
    · exact ⟨n, IsPure.self g⟩
    · obtain ⟨c, hc⟩ := Nat.gcd_dvd_right b n
      have hg : 1 ≤ Nat.gcd b n := Nat.gcd_pos_of_pos_right b hn
      have hc1 : 1 ≤ c := by
        rcases Nat.eq_zero_or_pos c with z | z
        · rw [z] at hc
          omega
        · exact z
      have hcn : c < n := by
        have hg2 : 2 ≤ Nat.gcd b n := by omega
        have : 2 * c ≤ Nat.gcd b n * c := Nat.mul_le_mul_right c hg2
        omega
      obtain ⟨p, hp, q, k, e, d⟩ := ih c hcn hc1
      refine ⟨p, hp, Nat.gcd b n * q, k + 1, ?_, ?_⟩
      · conv => lhs; rw [hc, e]
        rw [Nat.mul_left_comm]
      · rw [Nat.pow_succ, Nat.mul_comm (b ^ k) b]
        exact Nat.mul_dvd_mul (Nat.gcd_dvd_left b n) d
theorem par_exists {b n : Nat} (hn : 1 ≤ n) : ∃ p q h L, Par b n p q h L := by
  obtain ⟨p, hp⟩ := pure_exists b n hn
  obtain ⟨g, q, k, e, d⟩ := id hp
  obtain ⟨h, _, hh⟩ := head_exists d
  have hp1 : 1 ≤ p := by
    rcases Nat.eq_zero_or_pos p with z | z
    · rw [z] at e
      omega
    · exact z
  obtain ⟨L, _, hL⟩ := per_exists hp1 g
  exact ⟨p, q, h, L, hp, e, hh, hL⟩
section
variable {b n p q h L : Nat}
theorem Par.p1 (P : Par b n p q h L) (hn : 1 ≤ n) : 1 ≤ p := by
  rcases Nat.eq_zero_or_pos p with z | z
  · have := P.e
    rw [z] at this
    omega
  · exact z
theorem Par.q1 (P : Par b n p q h L) (hn : 1 ≤ n) : 1 ≤ q := by
  rcases Nat.eq_zero_or_pos q with z | z
  · have := P.e
    rw [z] at this
    omega
  · exact z
theorem Par.pn (P : Par b n p q h L) (hn : 1 ≤ n) : p ≤ n := Nat.le_of_dvd hn ⟨q, P.e⟩
theorem Par.qn (P : Par b n p q h L) (hn : 1 ≤ n) : q ≤ n := Nat.le_of_dvd hn ⟨p, by rw [P.e, Nat.mul_comm]⟩
theorem Par.Ln (P : Par b n p q h L) (hn : 1 ≤ n) : L ≤ n := by
  obtain ⟨d, hd, hd'⟩ := per_exists (P.p1 hn) P.hp.1
  have := hd'.uniq P.hL
  have := P.pn hn
  omega
theorem Par.hn (P : Par b n p q h L) (hn : 1 ≤ n) : h ≤ n := Nat.le_trans (head_le (P.q1 hn) P.hh) (P.qn hn)
theorem Par.gq (P : Par b n p q h L) (hn : 1 ≤ n) : Nat.gcd p q = 1 := by
  obtain ⟨g, q', k, e, d⟩ := P.hp
  have : q' = q := by
    have := P.e
    rw [e] at this
    exact Nat.eq_of_mul_eq_mul_left (P.p1 hn) this
  subst this
  exact cop_of_dvd_pow g d
/-- the end of a row of remainders -/
theorem ring_end {x i j : Nat} (P : Par b n p q h L) (hn : 1 ≤ n) (gx : Nat.gcd x n = 1) (hd : ∀ u v, u < v → v < i → rem b n x u ≠ rem b n x v) (hj : j < i) (e : rem b n x j = rem b n x i) : i = h + L ∧ j = h := by
  have F := fun {u v : Nat} (l : u < v) => rem_eq (x := x) gx P.e P.hp.1 (P.gq hn) P.hh P.hL l
  obtain ⟨h1, h2⟩ := (F hj).mp e
  have hL1 := P.hL.1
  have hle := Nat.le_of_dvd (by omega) h2
  have hi : i ≤ h + L := by
    apply Nat.le_of_not_lt
    intro l
    exact hd h (h + L) (by omega) l ((F (by omega)).mpr ⟨Nat.le_refl _, by rw [show h + L - h = L by omega]; exact Nat.dvd_refl _⟩)
  omega
end
end Wn
namespace Wn
open PySem PySem.Spec PyProof.Rows L2
theorem CallR.imp {X : Cx} {f : Value} {r r' : List V → Hp → VK → Prop} (h : CallR X f r) (i : ∀ vs H Q, r' vs H Q → r vs H Q) : CallR X f r' :=
  fun pins s σ H vs us Q I rv x => h pins s σ H vs us Q I rv (i _ _ _ x)
/-! the built-in type of a value -/
def isB (T n : String) : Bool := T == n || (T == "bool" && n == "int")
def tyNames : List String := ["NoneType", "bool", "int", "str", "list", "tuple", "dict"]
def qyNames : List String := ["bool", "int", "str", "list", "tuple", "dict"]
theorem isB_ok : ∀ T ∈ tyNames, ∀ n ∈ qyNames, kitB T n = some (isB T n) := by decide +kernel
def rIs (K : PySem.W.Frag) : List V → Hp → VK → Prop := fun xs H Q => ∃ (x : V) (n : String), xs = [x, .ty n] ∧ ∃ T : String, (TyX K H x (.type T) ∧ T ∈ tyNames ∧ n ∈ qyNames) ∧ Q (.bl (isB T n)) H
theorem call_is {X : Cx} : CallR X (.builtin "isinstance") (rIs X.K) := CallR.imp call_isi fun vs H Q h => by
  obtain ⟨x, n, e, T, ⟨h1, h2, h3⟩, q⟩ := h
  exact ⟨x, .ty n, .type T, .type n, isB T n, e, .ty n, h1, kit_ty (isB_ok T h2 n h3), q⟩
theorem ty_int {K : PySem.W.Frag} {H : Hp} {i : Int} : TyX K H (.int i) (.type "int") := .base (.int i)
theorem ty_tup {K : PySem.W.Frag} {H : Hp} {a : Addr} {xs : List V} (h : H a = some (.tup xs)) : TyX K H (.ref a) (.type "tuple") := .base (.tup h)
theorem cxK {CX : CXT} {P : Program} {w : World} {K : PySem.W.Frag} {mg : Str → Option Value} {base : Heap} {N : List Str} {q : Str} {sc : Scope} {f : Addr} {cdv : Value} {A : Around} {outer : List Env} {s : Shared} {H : Hp} {E : XK} :
    (cxOf CX P w K mg base N q sc f cdv A outer s H E).nox.K = K := rfl
theorem cxK2 {CX : CXT} {P : Program} {w : World} {K : PySem.W.Frag} {mg : Str → Option Value} {base : Heap} {N : List Str} {q : Str} {sc : Scope} {f : Addr} {cdv : Value} {A : Around} {outer : List Env} {s : Shared} {H : Hp} {E : XK} :
    (cxOf CX P w K mg base N q sc f cdv A outer s H E).K = K := rfl
theorem start1 (x : Str) (N : List Str) (v : V) (vs : List V) : L2.start (x :: N) (v :: vs) = some v :: L2.start N vs := by
  unfold L2.start
  simp
theorem start2 (x : Str) (N : List Str) : L2.start (x :: N) [] = none :: L2.start N [] := by
  unfold L2.start
  simp [List.replicate_succ]
theorem start3 : L2.start [] [] = [] := rfl
theorem sq_tup {K : PySem.W.Frag} {H : Hp} {a : Addr} {xs : List V} (h : H a = some (.tup xs)) : SqT K H a xs := .inl (.inl h)
theorem sq_lst {K : PySem.W.Frag} {H : Hp} {a : Addr} {xs : List V} (h : H a = some (.lst xs)) : SqL K H a xs := .inl (.inl h)
theorem slA_of {K : PySem.W.Frag} {H : Hp} {a : Addr} {xs : List V} {lo hi : Option Int} {Q : VK} (h : H a = some (.tup xs)) (q : ∀ p H', Gr [] H H' → H' p = some (.tup (cutV xs lo hi)) → Q (.ref p) H') : rSlA K (.ref a) lo hi H Q := by
  refine ⟨a, xs, rfl, sq_tup h, ?_, ?_⟩
  · intro e
    refine q a H (Gr.refl _ _) ?_
    have z : cutV xs lo hi = xs := by
      unfold cutV
      rw [e.1, e.2, List.drop_zero, Nat.sub_zero, List.take_length]
    rw [z]
    exact h
  · intro _ p np
    exact q p _ (Gr.new np) upd_same
def rLn (K : PySem.W.Frag) : List V → Hp → VK → Prop := fun xs H Q => ∃ p ys, xs = [.ref p] ∧ (SqL K H p ys ∨ SqT K H p ys) ∧ Q (.int ys.length) H
theorem call_ln {X : Cx} : CallR X (.builtin "len") (rLn X.K) := call_len_seq
def rLsO (K : PySem.W.Frag) : List V → Hp → VK → Prop := fun xs H Q => ∃ p ys, xs = [.ref p] ∧ (SqL K H p ys ∨ SqT K H p ys) ∧ ∀ l, H l = none → Q (.ref l) (upd H l (.lst ys))
theorem call_lsO {X : Cx} : CallR X (.type "list") (rLsO X.K) := call_list_of
def rTpO (K : PySem.W.Frag) : List V → Hp → VK → Prop := fun xs H Q => ∃ p ys, xs = [.ref p] ∧ ((SqL K H p ys ∧ ∀ l, H l = none → Q (.ref l) (upd H l (.tup ys))) ∨ (SqT K H p ys ∧ Q (.ref p) H))
theorem call_tpO {X : Cx} : CallR X (.type "tuple") (rTpO X.K) := call_tuple_of
theorem cut_lo {xs : List V} {k : Nat} (h : k ≤ xs.length) : cutV xs none (some (k : Int)) = xs.take k := by
  unfold cutV
  rw [HT.sIx_nat, HT.sIx_none, List.drop_zero, Nat.sub_zero, Nat.min_eq_left h]
theorem cut_hi {xs : List V} {k : Nat} (h : k ≤ xs.length) : cutV xs (some (k : Int)) none = xs.drop k := by
  unfold cutV
  rw [HT.sIx_nat, HT.sIx_none, Nat.min_eq_left h]
  exact List.take_of_length_le (by rw [List.length_drop]; omega)
theorem icm (a b n : Nat) : (a : Int) * (b : Int) % (n : Int) = ((a * b % n : Nat) : Int) := by
  rw [← Int.natCast_mul, ← Int.natCast_emod]
theorem icd (a b n : Nat) : (a : Int) * (b : Int) / (n : Int) = ((a * b / n : Nat) : Int) := by
  rw [← Int.natCast_mul, ← Int.natCast_ediv]
local macro_rules | `(tactic| walk_at "vc") => `(tactic| simp only [cxK, cxK2, start1, start2, start3, tRet, tRetN, tSeq, tNext, tIfS, tAsg, gName, tDrop, tVar, tC, tOp, tUn, tTest, tB, tNot, tAnd, tOr, tAndV, tOrV, tNotV, tIf, tCons, tNil, tCB, tCall, tChain, tAug, ipI, rI, rI0, rU, rIs, rGcd, rEq, rNe, scal,
  List.getElem?_cons_zero, List.getElem?_cons_succ, List.set_cons_zero, List.set_cons_succ, Option.some.injEq, List.cons.injEq, V.int.injEq, V.bl.injEq, V.ref.injEq, V.str.injEq, and_true, true_and, exists_eq_left, exists_eq_left', exists_and_left, exists_and_right, List.append_nil, List.nil_append, List.cons_append, exists_eq_right, exists_eq_right', and_assoc, exists_const, V.ty.injEq, ↓reduceIte, Bool.false_eq_true, Bool.not_true, Bool.not_false, decide_eq_true_eq])
end Wn
/-! contracts where nothing is being shown (no repr runs around): for defs that ask repr of lists, tuples, dicts -/
namespace Wn
open PySem PySem.Spec PyProof.Rows L2
structure FnG (P : Program) (w : World) (K : PySem.W.Frag) (mg : Str → Option Value) (base : Heap) (CX : CXT) (k : Nat) (f : Addr) (fd : FuncData) (ps : List Str) (sp : Sp) : Prop where
  sz : ∀ vs H Q E, sp vs H Q E → vs.length = ps.length
  go : ∀ (A : Around), A.guards = some [] → Room k A → ∀ (outer : List Env) (s : Shared) (H : Hp) (args : Args) (us : List Value) (vs : List V) (Q : VK) (E : XK),
    Env0 P w K mg base A outer s H → BindsTo s fd args (ps.zip us) → Vals vs us → sp vs H Q E → codeAny (model P w) A (.call (.ref f) args) (CR CX outer P w H s Q E) s
section
variable {P : Program} {w : World} {K : PySem.W.Frag} {mg : Str → Option Value} {base : Heap} {CX : CXT} {k : Nat} {f : Addr} {fd : FuncData} {ps : List Str} {sp : Sp}
theorem FnG.of (F : FnOk P w K mg base CX k f fd ps sp) : FnG P w K mg base CX k f fd ps sp :=
  ⟨F.len, fun A _ hr outer s H args us vs Q E e b v h => F.run A outer s H args us vs Q E hr e b v h⟩
theorem FnG.up {j : Nat} (F : FnG P w K mg base CX j f fd ps sp) (h : j ≤ k) : FnG P w K mg base CX k f fd ps sp :=
  ⟨F.sz, fun A hg hr => F.go A hg (hr.mono h)⟩
/-- a def by its body -/
theorem fnG {x qual : Str} {st : Stmt} {N : List Str} (F : Fun K x qual st f fd) (S : FnScope N ps (defScope st)) (sz : ∀ vs H Q E, sp vs H Q E → vs.length = ps.length)
    (body : ∀ (cdv : Value) (A : Around) (outer : List Env) (s : Shared) (H : Hp) (vs : List V) (Q : VK) (E : XK), (A.deeper (envOfC qual (defScope st) s.heap.objs.size f cdv)).guards = some [] →
      Room k (A.deeper (envOfC qual (defScope st) s.heap.objs.size f cdv)) → sp vs H Q E →
      ∃ t, PSs (cxOf CX P w K mg base N qual (defScope st) f cdv A outer s H E) (defBody st) t ∧ t { nx := fun _ H' => Q .non H', rt := Q } (L2.start N vs) H) : FnG P w K mg base CX (k + 1) f fd ps sp := by
  obtain ⟨oc, od, kV, doc, pm, an, cdv, ct, osl, rfl, lk, hcd⟩ := F.ex
  refine ⟨sz, fun A hgd hr outer s H args us vs Q E e0 hb r h => ?_⟩
  have KI : K.In s.heap := e0.mod.kin.keeps fun b o e => (e0.bs b o e).1
  have NL : s.heap.NoLimit := e0.mod.nolimit.keeps fun b o e => (e0.bs b o e).1
  refine codeAny_call_function hr.depth (KI _ _ lk) rfl S.co S.gen rfl (PySem.W.codeRec_of KI hcd) (hb _ _ _ _ ?_)
  refine wpAny_newFunctionEnv_cells S.kind (fun y hy => ?_) fun env he s1 x => ?_
  · obtain ⟨n, v⟩ := y
    rcases S.par n (List.of_mem_zip hy).1 with q | q
    · exact .inl q
    · exact .inr ⟨q, PySem.W.cellsFrom_some _ _ _ (.inl q)⟩
  · subst he
    refine ⟨NL.keeps x.toInCall.keep, codeAny_func ?_⟩
    obtain ⟨t, ht, hq⟩ := body cdv A outer s H vs Q E hgd (hr.deeper _) h
    refine wpAny_mono (ht.run [] s1 _ H _ (inv_start S hr.hd e0 (sz _ _ _ _ h) r x) hq) (fun fl s' z => ?_) fun e s' z => z
    cases fl with
    | ret u =>
      obtain ⟨v, σ', H', J, rv, q⟩ := z
      exact ⟨v, H', J.os, J.bare, J.base, J.hok, rv, q⟩
    | next =>
      obtain ⟨σ', H', J, q⟩ := z
      exact ⟨.non, H', J.os, J.bare, J.base, J.hok, rfl, q⟩
    | brk =>
      obtain ⟨_, _, _, q⟩ := z
      exact q.elim
    | cont =>
      obtain ⟨_, _, _, q⟩ := z
      exact q.elim
/-- no exception leaves it -/
theorem fnG0 {x qual : Str} {st : Stmt} {N : List Str} (F : Fun K x qual st f fd) (S : FnScope N ps (defScope st)) (sz : ∀ vs H Q E, sp vs H Q E → vs.length = ps.length)
    (body : ∀ (cdv : Value) (A : Around) (outer : List Env) (s : Shared) (H : Hp) (vs : List V) (Q : VK) (E : XK), (A.deeper (envOfC qual (defScope st) s.heap.objs.size f cdv)).guards = some [] →
      Room k (A.deeper (envOfC qual (defScope st) s.heap.objs.size f cdv)) → sp vs H Q E →
      ∃ t, PSs (cxOf CX0 P w K mg base N qual (defScope st) f cdv A outer s H E).nox (defBody st) t ∧ t { nx := fun _ H' => Q .non H', rt := Q } (L2.start N vs) H) : FnG P w K mg base CX0 (k + 1) f fd ps sp :=
  fnG F S sz fun cdv A outer s H vs Q E g r h => let ⟨t, ht, q⟩ := body cdv A outer s H vs Q E g r h; ⟨t, ht.nox, q⟩
end
section
variable {X : Cx} {CX : CXT} {k : Nat} {f : Addr} {fd : FuncData} {ps : List Str} {sp : Sp} {dvs : List V} {ds : List Value} {E : XK} {x : Str} {p pos : Pos} {e : Expr} {es : List Expr} {t : TA}
theorem runG {pins : List (Addr × Obj)} {σ : L2.St} {H : Hp} {s : Shared} {Q : VK} {us : List Value} {vs : List V} (F : FnG X.prog X.w X.K X.mg X.base CX k f fd ps sp) (hgd : X.A.guards = some []) (hr : Room k X.A) (hb : Binds X.K fd ps ds) (hd : Vals dvs ds)
    (hx : Passes CX X E) (I : Inv X pins σ H s) (r : Vals vs us) (h : sp (vs ++ dvs) H Q E) : wpAny (model X.prog X.w) X.A (call (.ref f) us) (EP X pins σ Q) X.xe s := by
  have rr := r.append hd
  refine wpAny_call (codeAny_mono (F.go X.A hgd hr X.stack s H ⟨us, []⟩ (us ++ ds) (vs ++ dvs) Q E I.env0 (hb s us I.kIn (rr.length ▸ F.sz _ _ _ _ h)) rr h) fun z s' q => ?_)
  match z, q with
  | .error e, q => exact hx pins σ H s e s' I q
  | .ok (.ret u), q => exact I.after q
  | .ok .next, q => exact q.elim
  | .ok .brk, q => exact q.elim
  | .ok .cont, q => exact q.elim
theorem pe_callG (hgd : X.A.guards = some []) (F : FnG X.prog X.w X.K X.mg X.base CX k f fd ps sp) (hr : Room k X.A) (hg : Gl X x) (hm : X.mg x = some (.ref f)) (hk : PySem.W.keepIn X.K (.ref f) = true) (hb : Binds X.K fd ps ds) (hd : Vals dvs ds) (hx : Passes CX X E)
    (ha : PA X (e :: es) t) (hdb : (x == ("__debug__" : Str)) = false := by decide) (he : starEach (e :: es) X.env = (false, eval e X.env) :: starEach es X.env := by rfl) (hpl : (backTo pos (starEach es X.env)).any (·.1) = false := by rfl) :
    PE X (.Call (.Name x p) (e :: es) [] pos) (tCall sp dvs E t) :=
  ⟨fun pins s σ H Q I h => wpAny_Call_Name_kw (ld_glob I hg hm (PySem.W.callWith_K (h₀ := X.base) I.ok.mod.kin hk (thn (ha.run pos pins s σ H _ I h) fun us s1 ⟨vs, H1, I1, r, q⟩ => ⟨I1.kIn, runG F hgd hr hb hd hx I1 r q⟩) he hpl) hdb)⟩
theorem pe_callG0 (hgd : X.A.guards = some []) (F : FnG X.prog X.w X.K X.mg X.base CX k f fd ps sp) (hr : Room k X.A) (hg : Gl X x) (hm : X.mg x = some (.ref f)) (hk : PySem.W.keepIn X.K (.ref f) = true) (hb : Binds X.K fd ps ds) (hd : Vals dvs ds) (hx : Passes CX X E)
    (hdb : (x == ("__debug__" : Str)) = false := by decide) : PE X (.Call (.Name x p) [] [] pos) (tCall sp dvs E tNil) :=
  ⟨fun pins s σ H Q I h => wpAny_Call_Name_kw (ld_glob I hg hm (PySem.W.callWith_K0 I.kIn hk (runG (us := []) F hgd hr hb hd hx I .nil h)) hdb)⟩
end
/-! the law's own head -/
theorem law_callG {P : Program} {w : World} {K : PySem.W.Frag} {mg mb : Str → Option Value} {CX : CXT} {k : Nat} {fa a : Addr} {fd : FuncData} {x : Str} {sp : Sp} {s1 : Shared} {vs : List Value} {ns : List Int}
    (KX : K.In s1.heap) (hns : s1.heap.Ns mainGlobals mg) (hb : s1.heap.Ns builtinsNs mb) (hbb : ∀ x : Str, x ≠ "__name__" → mb x = bootBuiltins x) (hlim : s1.heap.NoLimit) (hg : s1.gens = #[])
    (ha : s1.heap.get? a = some { cls := .type "list", data := .seq vs.toArray }) (hi : IntsAre vs ns) (hl : ns.length ≤ sizeLine) (hr : Room k callerA)
    (F : ∀ base : Heap, K.In base → base.Ns mainGlobals mg → FnG P w K mg base CX k fa fd [x] sp) (hbind : ∀ (s : Shared) (u : Value), BindsTo s fd ⟨[u], []⟩ [(x, u)])
    (hsp : ∀ H : Hp, Only H → SqL K H a (ns.map V.int) → sp [.ref a] H (fun v _ => v = .bl true) fun _ _ _ => False)
    (hCX : ∀ H e s', CX [] H s1 (fun _ _ _ => False) e s' → False) :
    codeAny (model P w) callerA (.call (.ref fa) ⟨[.ref a], []⟩) (fun r s' => r = .ok (.ret (.bool true)) ∧ OldK s1.heap s'.heap ∧ s'.os = s1.os ∧ AllBare s'.gens) s1 := by
  -- the script is tracked, unless it is one of the text's own objects
  obtain ⟨H, hH⟩ : ∃ H : Hp, H = fun b => if b = a ∧ K.lookup a = none then some (.frz { cls := .type "list", data := .seq vs.toArray } (.lst (ns.map V.int))) else none := ⟨_, rfl⟩
  have at_ : ∀ b u, H b = some u → b = a ∧ K.lookup a = none ∧ u = .frz { cls := .type "list", data := .seq vs.toArray } (.lst (ns.map V.int)) := fun b u z => by
    rw [hH] at z
    dsimp only at z
    split at z
    · rename_i c
      exact ⟨c.1, c.2, (Option.some.inj z).symm⟩
    · cases z
  have off : ∀ b o, s1.heap.get? b = some o → (∀ q, K.lookup b = some q → True) → (∀ n, o.data ≠ .seq vs.toArray n) → H b = none := fun b o e _ d => by
    cases z : H b with
    | none => rfl
    | some u =>
      obtain ⟨rfl, _, _⟩ := at_ b u z
      rw [ha] at e
      cases e
      exact absurd rfl (d _)
  have kb : ∀ b o, K.lookup b = some o → H b = none := fun b o e => by
    cases z : H b with
    | none => rfl
    | some u =>
      obtain ⟨rfl, z2, _⟩ := at_ b u z
      rw [z2] at e
      cases e
  have ok : HOk P w H s1.heap := fun b u z => by
    obtain ⟨rfl, _, rfl⟩ := at_ b u z
    exact ⟨ha, by rw [List.length_map]; exact hl, vs, _, vals_ints hi, ha⟩
  have sq : SqL K H a (ns.map V.int) := by
    cases z : K.lookup a with
    | none =>
      refine .inl (.inr ⟨{ cls := .type "list", data := .seq vs.toArray }, ?_⟩)
      rw [hH]
      exact if_pos ⟨rfl, z⟩
    | some o =>
      have e := KX a o z
      rw [ha] at e
      cases e
      exact .inr ⟨_, vs.toArray, _, z, rfl, rfl, rfl, by rw [List.size_toArray, hi.length]; exact hl, by simpa using vals_ints hi⟩
  have only : Only H := fun b => by
    cases z : H b with
    | none => exact .inl rfl
    | some u =>
      obtain ⟨_, _, rfl⟩ := at_ b u z
      exact .inr ⟨_, _, rfl⟩
  have nsB : ∀ {b : Addr} {m : Str → Option Value}, s1.heap.Ns b m → (hidT s1.heap H).Ns b m := fun {b m} ⟨o, es, ep, e, d, r⟩ => ⟨o, es, ep, hidT_get e (off b o e (fun _ _ => trivial) fun n z => by rw [d] at z; cases z), d, r⟩
  have KB : K.In (hidT s1.heap H) := fun b o e => hidT_get (KX b o e) (kb b o e)
  have M : Mod K mg (hidT s1.heap H) := ⟨KB, nsB hns, ⟨mb, nsB hb, hbb⟩, let ⟨mc, h1, h2⟩ := hlim; ⟨mc, nsB h1, h2⟩⟩
  have E0' : Env0 P w K mg (hidT s1.heap H) callerA [] s1 H := ⟨rfl, M, fun b o e => of_hidT e, Nat.le_of_eq (hidT_size _ _), trivial, fun b z => absurd (show b ∈ ([] : List Addr) from z) (by simp), ok, .of_eq hg⟩
  refine codeAny_mono ((F _ KB (nsB hns)).go callerA rfl hr [] s1 H ⟨[.ref a], []⟩ [.ref a] [.ref a] _ _ E0' (hbind s1 (.ref a)) (.cons rfl .nil) (hsp H only sq)) fun r s' z => ?_
  match r, z with
  | .error e, z => exact (hCX H e s' z).elim
  | .ok .next, z => exact z.elim
  | .ok .brk, z => exact z.elim
  | .ok .cont, z => exact z.elim
  | .ok (.ret u), z =>
    obtain ⟨v, H', os, bare, un, ok', rv, q⟩ := z
    obtain rfl : v = .bl true := q
    obtain rfl : u = Value.bool true := rv
    refine ⟨rfl, OldK.of_keep fun b o e => ?_, os, bare⟩
    cases y : H b with
    | none => exact un.keep b o e y (fun c => absurd (show b ∈ ([] : List Addr) from c) (by simp)) (by simp)
    | some u =>
      obtain ⟨rfl, _, rfl⟩ := at_ b u y
      rw [ha] at e
      cases e
      exact (ok' _ _ (un.frzs _ _ _ y)).1
theorem walkG {l : PySem.W.OpenLaw} {n k : Nat} {q : Program} {loose : List Str} {XP : (Str → Option Value) → Heap → Prop} {YP : World → Heap → Prop} {d : DefRec} {K : Params → PySem.W.Frag} {sp : World → Sp} {x : Str}
    (hn : l.most = some n) (hn2 : n ≤ sizeLine) (hdf : d.params.defaults = []) (hr : Room k callerA) (hY : ∀ (w : World) (h : Heap), YP w h → (K w.params).In h)
    (F : ∀ (w : World) (mg : Str → Option Value) (fa : Addr) (h : Heap), (K w.params).In h → h.Ns mainGlobals mg → mg d.name = some (.ref fa) →
      ∃ fd : FuncData, (∀ (s : Shared) (u : Value), BindsTo s fd ⟨[u], []⟩ [(x, u)]) ∧ ∀ base : Heap, (K w.params).In base → base.Ns mainGlobals mg → FnG l.prog w (K w.params) mg base CX0 k fa fd [x] (sp w))
    (hsp : ∀ (w : World) (H : Hp) (a : Addr) (ns : List Int), ns.length ≤ n → Only H → SqL (K w.params) H a (ns.map V.int) → sp w [.ref a] H (fun v _ => v = .bl true) fun _ _ _ => False) :
    PySem.W.WalkO q loose XP YP l.row.toRowW d [] (fun f vs => PySem.call f vs) :=
  Att.attach_call hn hdf fun w s0 s1 mg mb fa o pm cd doc a vs ns G Y ho hd hcd hmg hobj hints hlen hg => by
    obtain ⟨fd, hb, hF⟩ := F w mg fa _ (hY w _ Y) G.T.g hmg
    exact law_callG (hY w _ Y) G.T.g G.T.b G.T.builtins G.T.nolimit hg hobj hints (Nat.le_trans hlen hn2) hr hF hb (fun H hO hS => hsp w H a ns hlen hO hS) fun H e s' z => z
end Wn
/-! repr of data -/
namespace Wn
open PySem PySem.Spec PyProof.Rows L2
/-- data that repr takes: leaves of at most B signs, weight at most W, depth at most D -/
structure Sm (d : PyData) (B D W : Nat) : Prop where
  show_ : d.showable = true
  leaf : d.leavesShort B = true
  nod : d.hasDict = false
  lay : d.canLay0 = true
  dep : d.depth ≤ D
  wei : d.bulk ≤ W
theorem Sm.all : ∀ {xs : List PyData} {B D W : Nat}, (∀ x ∈ xs, Sm x B D W) → PyData.showableAll xs = true ∧ PyData.leavesShortAll B xs = true ∧ PyData.hasDictAll xs = false ∧ PyData.canLayAll0 xs = true ∧ PyData.depthAll xs ≤ D ∧ PyData.bulkAll xs ≤ xs.length * (W + 1)
  | [], _, _, _, _ => ⟨rfl, rfl, rfl, rfl, Nat.zero_le _, Nat.zero_le _⟩
  | x :: xs, B, D, W, h => by
    obtain ⟨h1, h2, h3, h6, h4, h5⟩ := Sm.all (xs := xs) fun y hy => h y (List.mem_cons_of_mem _ hy)
    have hx := h x (List.mem_cons_self ..)
    refine ⟨?_, ?_, ?_, ?_, ?_, ?_⟩
    · show (x.showable && PyData.showableAll xs) = true
      rw [hx.show_, h1]
      rfl
    · show (x.leavesShort B && PyData.leavesShortAll B xs) = true
      rw [hx.leaf, h2]
      rfl
    · show (x.hasDict || PyData.hasDictAll xs) = false
      rw [hx.nod, h3]
      rfl
    · show (x.canLay0 && PyData.canLayAll0 xs) = true
      rw [hx.lay, h6]
      rfl
    · show max x.depth (PyData.depthAll xs) ≤ D
      exact Nat.max_le.mpr ⟨hx.dep, h4⟩
    · show x.bulk + 1 + PyData.bulkAll xs ≤ (xs.length + 1) * (W + 1)
      rw [Nat.succ_mul]
      have := hx.wei
      omega
theorem Sm.lst {xs : List PyData} {B D W : Nat} (n : Nat) (h : ∀ x ∈ xs, Sm x B D W) (hn : xs.length ≤ n) : Sm (.list xs) B (D + 1) (n * (W + 1)) := by
  obtain ⟨h1, h2, h3, h6, h4, h5⟩ := Sm.all h
  exact ⟨h1, h2, h3, h6, Nat.succ_le_succ h4, Nat.le_trans h5 (Nat.mul_le_mul_right _ hn)⟩
theorem Sm.tup {xs : List PyData} {B D W : Nat} (n : Nat) (h : ∀ x ∈ xs, Sm x B D W) (hn : xs.length ≤ n) : Sm (.tuple xs) B (D + 1) (n * (W + 1)) := by
  obtain ⟨h1, h2, h3, h6, h4, h5⟩ := Sm.all h
  exact ⟨h1, h2, h3, h6, Nat.succ_le_succ h4, Nat.le_trans h5 (Nat.mul_le_mul_right _ hn)⟩
theorem Sm.mono {d : PyData} {B D W D' W' : Nat} (h : Sm d B D W) (h1 : D ≤ D') (h2 : W ≤ W') : Sm d B D' W' := ⟨h.show_, h.leaf, h.nod, h.lay, Nat.le_trans h.dep h1, Nat.le_trans h.wei h2⟩
theorem log2_lt {a k : Nat} (hk : 1 ≤ k) (h : a < 2 ^ k) : a.log2 < k := by
  rcases Nat.eq_zero_or_pos a with z | z
  · rw [z, Nat.log2_zero]
    exact hk
  · exact (Nat.log2_lt (by omega)).mpr h
/-- a whole number below 10 ^ 12 and below 2 ^ k -/
theorem Sm.int {i : Int} {k : Nat} (hk : 1 ≤ k) (h : i.natAbs < 2 ^ k) (hk2 : k ≤ 39) : Sm (.int i) 13 0 k := by
  have hl := log2_lt hk h
  have h12 : i.natAbs < 10 ^ 12 := Nat.lt_of_lt_of_le h (Nat.le_trans (Nat.pow_le_pow_right (by decide) hk2) (by decide))
  refine ⟨?_, ?_, rfl, rfl, Nat.le_refl _, ?_⟩
  · show decide (i.natAbs.log2 < 1920) = true
    exact decide_eq_true (by omega)
  · show decide ((PyData.shown (.int i)).length ≤ 13) = true
    exact decide_eq_true (PyData.shown_int_le h12)
  · show 0 ≤ k
    omega
def Fits (d : PyData) : Prop := ∃ B D W, Sm d B D W ∧ 8 ≤ B ∧ D ≤ 100 ∧ (B + 2) * W + B ≤ 16777216
theorem Fits.len {d : PyData} (h : Fits d) : d.shown.length ≤ sizeLine := by
  obtain ⟨B, D, W, s, h1, h2, h3⟩ := h
  have := PyData.shown_le_bulk B h1 d s.leaf
  rw [sizeLine_eq]
  have : (B + 2) * d.bulk ≤ (B + 2) * W := Nat.mul_le_mul_left _ s.wei
  omega
theorem Fits.shaped {d : PyData} (h : d.canLay0 = true) (h2 : d.depth ≤ 64) : SeqAt.shaped d = true := by
  unfold SeqAt.shaped
  rw [h, decide_eq_true h2]
  rfl
theorem Sm.fits {d : PyData} {D W : Nat} (h : Sm d 13 D W) (h1 : D ≤ 64 := by decide) (h2 : W ≤ 1100000 := by decide) : Fits d := ⟨13, D, W, h, by decide, by omega, by omega⟩
theorem Sm.fitsB {d : PyData} {B D W : Nat} (h : Sm d B D W) (h0 : 8 ≤ B := by decide) (h1 : D ≤ 64 := by decide) (h2 : (B + 2) * W + B ≤ 16777216 := by decide) : Fits d := ⟨B, D, W, h, h0, by omega, h2⟩
theorem Sm.shaped {d : PyData} {B D W : Nat} (h : Sm d B D W) (h1 : D ≤ 64 := by decide) : SeqAt.shaped d = true := Fits.shaped h.lay (Nat.le_trans h.dep h1)
/-! data stands while lists and tuples stand -/
def Kp (H H' : Hp) : Prop := (∀ a xs, H a = some (.lst xs) → H' a = some (.lst xs)) ∧ (∀ a xs, H a = some (.tup xs) → H' a = some (.tup xs)) ∧ ∀ a o u, H a = some (.frz o u) → H' a = some (.frz o u)
theorem Kp.of {H H' : Hp} (g : Gr [] H H') : Kp H H' := ⟨fun a _ e => g a _ (by simp) e, fun a _ e => g a _ (by simp) e, fun a _ _ e => g a _ (by simp) e⟩
theorem Kp.ofM {H H' : Hp} {d : Addr} (g : Gr [d] H H') (h : ∃ kvs, H d = some (.dK kvs)) : Kp H H' := by
  obtain ⟨kvs, h⟩ := h
  have ne : ∀ {a o}, H a = some o → (∀ k, o ≠ .dK k) → a ∉ [d] := fun {a o} e k z => by
    rw [List.mem_singleton] at z
    subst z
    rw [h] at e
    exact k _ (Option.some.inj e).symm
  exact ⟨fun a _ e => g a _ (ne e fun _ z => by cases z) e, fun a _ e => g a _ (ne e fun _ z => by cases z) e, fun a _ _ e => g a _ (ne e fun _ z => by cases z) e⟩
theorem Kp.trans {H H1 H2 : Hp} (a : Kp H H1) (b : Kp H1 H2) : Kp H H2 := ⟨fun x _ e => b.1 x _ (a.1 x _ e), fun x _ e => b.2.1 x _ (a.2.1 x _ e), fun x _ _ e => b.2.2 x _ _ (a.2.2 x _ _ e)⟩
theorem Kp.sqL {K : PySem.W.Frag} {H H' : Hp} {a : Addr} {xs : List V} (k : Kp H H') (h : SqL K H a xs) : SqL K H' a xs := by
  rcases h with (h | ⟨o, h⟩) | h
  · exact .inl (.inl (k.1 _ _ h))
  · exact .inl (.inr ⟨o, k.2.2 _ _ _ h⟩)
  · exact .inr h
theorem Kp.sqT {K : PySem.W.Frag} {H H' : Hp} {a : Addr} {xs : List V} (k : Kp H H') (h : SqT K H a xs) : SqT K H' a xs := by
  rcases h with (h | ⟨o, h⟩) | h
  · exact .inl (.inl (k.2.1 _ _ h))
  · exact .inl (.inr ⟨o, k.2.2 _ _ _ h⟩)
  · exact .inr h
mutual
theorem Dp.kp {K : PySem.W.Frag} {H H' : Hp} (k : Kp H H') : ∀ {v : V} {d : PyData}, Dp K H v d → Dp K H' v d
  | _, _, .non => .non
  | _, _, .bl b => .bl b
  | _, _, .int i => .int i
  | _, _, .str x => .str x
  | _, _, .lst h1 h2 => .lst (k.sqL h1) (DpAll.kp k h2)
  | _, _, .tup h1 h2 => .tup (k.sqT h1) (DpAll.kp k h2)
theorem DpAll.kp {K : PySem.W.Frag} {H H' : Hp} (k : Kp H H') : ∀ {vs : List V} {ds : List PyData}, DpAll K H vs ds → DpAll K H' vs ds
  | _, _, .nil => .nil
  | _, _, .cons h1 h2 => .cons (Dp.kp k h1) (DpAll.kp k h2)
end
theorem dpAll_ints {K : PySem.W.Frag} {H : Hp} : ∀ ns : List Int, DpAll K H (ns.map V.int) (ns.map PyData.int)
  | [] => .nil
  | n :: r => .cons (.int n) (dpAll_ints r)
theorem dp_lst {K : PySem.W.Frag} {H : Hp} {a : Addr} {xs : List V} {ds : List PyData} (h : H a = some (.lst xs)) (h2 : DpAll K H xs ds) : Dp K H (.ref a) (.list ds) := .lst (sq_lst h) h2
theorem dp_tup {K : PySem.W.Frag} {H : Hp} {a : Addr} {xs : List V} {ds : List PyData} (h : H a = some (.tup xs)) (h2 : DpAll K H xs ds) : Dp K H (.ref a) (.tuple ds) := .tup (sq_tup h) h2
def rRepr (K : PySem.W.Frag) : List V → Hp → VK → Prop := fun xs H Q => ∃ (x : V) (d : PyData), xs = [x] ∧ Dp K H x d ∧ Fits d ∧ Q (.str d.shown) H
theorem call_repr {X : Cx} (hg : X.A.guards = some []) (hu : X.A.units + 200 < cLine) : CallR X (.builtin "repr") (rRepr X.K) := by
  intro pins s σ H xs us Q I r h
  obtain ⟨x, d, rfl, hd, hf, q⟩ := h
  obtain ⟨u, rfl, rx⟩ := vals1 r
  have fin : ∀ tk' tk, EP X pins σ Q (.str d.shown tk) { s with toks := tk' } := fun tk' tk => ⟨.str _, H, I.tok _, ⟨_, rfl⟩, q⟩
  have hl := hf.len
  cases hd with
  | non =>
    obtain rfl : u = Value.none := rx
    exact PySem.P.repr_of_none (fin _ _)
  | bl b =>
    obtain rfl : u = Value.bool b := rx
    exact PySem.P.repr_of_bool (fin _ _)
  | int i =>
    obtain ⟨t, rfl⟩ := rx
    obtain ⟨B, D, W, sm, _⟩ := hf
    exact PySem.P.repr_of_int (of_decide_eq_true sm.show_) (fin _ _)
  | str y =>
    obtain ⟨t, rfl⟩ := rx
    exact PySem.P.repr_of_str (fin _ _) hl
  | lst h1 h2 =>
    rename_i a xs ds
    obtain rfl : u = Value.ref a := rx
    obtain ⟨as, rd⟩ := Dp.reads I (.list ds) (.ref a) (.ref a) (.lst h1 h2) rfl
    obtain ⟨B, D, W, sm, _, hD, _⟩ := hf
    have := sm.dep
    refine repr_of_reads' rd sm.show_ (fun z => absurd (sm.nod.symm.trans z) (by decide)) hg (by omega) (fun _ _ e => e) (fun h' u tk k => ⟨.str _, H, I.un (Un.kept k) (I.hok.kept k), ⟨_, rfl⟩, q⟩) hl
  | tup h1 h2 =>
    rename_i a xs ds
    obtain rfl : u = Value.ref a := rx
    obtain ⟨as, rd⟩ := Dp.reads I (.tuple ds) (.ref a) (.ref a) (.tup h1 h2) rfl
    obtain ⟨B, D, W, sm, _, hD, _⟩ := hf
    have := sm.dep
    refine repr_of_reads' rd sm.show_ (fun z => absurd (sm.nod.symm.trans z) (by decide)) hg (by omega) (fun _ _ e => e) (fun h' u tk k => ⟨.str _, H, I.un (Un.kept k) (I.hok.kept k), ⟨_, rfl⟩, q⟩) hl
theorem gu_of {A : Around} {k : Nat} (hr : Room k A) : A.units + 200 < cLine := by
  have := hr.un
  omega
end Wn
/-! expressions that give data and leave all as it was -/
namespace Wn
open PySem PySem.Spec PyProof.Rows L2
section
variable {K : PySem.W.Frag} {σ : L2.St} {H : Hp}
def EvD (K : PySem.W.Frag) (te : TE) (σ : L2.St) (H : Hp) (d : PyData) : Prop := ∀ H1, Gr [] H H1 → ∀ Q : VK, (∀ v H2, Gr [] H1 H2 → Dp K H2 v d → Q v H2) → te σ H1 Q
def EvS (K : PySem.W.Frag) (ta : TA) (σ : L2.St) (H : Hp) (ds : List PyData) : Prop := ∀ H1, Gr [] H H1 → ∀ Q : List V → Hp → Prop, (∀ vs H2, Gr [] H1 H2 → DpAll K H2 vs ds → Q vs H2) → ta σ H1 Q
/-- a list that stands as such -/
def EvL (K : PySem.W.Frag) (te : TE) (σ : L2.St) (H : Hp) (ds : List PyData) : Prop := ∀ H1, Gr [] H H1 → ∀ Q : VK, (∀ p xs H2, Gr [] H1 H2 → H2 p = some (.lst xs) → DpAll K H2 xs ds → Q (.ref p) H2) → te σ H1 Q
theorem EvD.on {te : TE} {d : PyData} {H' : Hp} (h : EvD K te σ H d) (g : Gr [] H H') : EvD K te σ H' d := fun H1 g1 Q q => h H1 (g.trans g1) Q q
theorem EvL.d {te : TE} {ds : List PyData} (h : EvL K te σ H ds) : EvD K te σ H (.list ds) := fun H1 g Q q => h H1 g Q fun p xs H2 g2 e a => q _ H2 g2 (dp_lst e a)
theorem ev_var {i : Nat} {v : V} {d : PyData} (e : σ[i]? = some (some v)) (h : Dp K H v d) : EvD K (tVar i) σ H d := fun H1 g Q q => ⟨v, e, q v H1 (Gr.refl _ _) (Dp.kp (Kp.of g) h)⟩
theorem ev_varL {i : Nat} {p : Addr} {xs : List V} {ds : List PyData} (e : σ[i]? = some (some (.ref p))) (h : H p = some (.lst xs)) (a : DpAll K H xs ds) : EvL K (tVar i) σ H ds :=
  fun H1 g Q q => ⟨_, e, q p xs H1 (Gr.refl _ _) (g _ _ (by simp) h) (DpAll.kp (Kp.of g) a)⟩
theorem ev_int {i : Int} : EvD K (tC (.int i)) σ H (.int i) := fun H1 _ Q q => q _ H1 (Gr.refl _ _) (.int i)
theorem ev_bl {i : Bool} : EvD K (tC (.bl i)) σ H (.bool i) := fun H1 _ Q q => q _ H1 (Gr.refl _ _) (.bl i)
theorem ev_str {i : Str} : EvD K (tC (.str i)) σ H (.str i) := fun H1 _ Q q => q _ H1 (Gr.refl _ _) (.str i)
theorem ev_non : EvD K (tC .non) σ H .none := fun H1 _ Q q => q _ H1 (Gr.refl _ _) .non
theorem es_nil : EvS K tNil σ H [] := fun H1 _ Q q => q _ H1 (Gr.refl _ _) .nil
theorem es_cons {te : TE} {ta : TA} {d : PyData} {ds : List PyData} (h : EvD K te σ H d) (r : EvS K ta σ H ds) : EvS K (tCons te ta) σ H (d :: ds) := fun H1 g Q q =>
  h H1 g _ fun v H2 g2 dv => r H2 (g.trans g2) _ fun vs H3 g3 dvs => q _ H3 (g2.trans g3) (.cons (Dp.kp (Kp.of g3) dv) dvs)
theorem dpAll_len {H : Hp} : ∀ {vs : List V} {ds : List PyData}, DpAll K H vs ds → vs.length = ds.length
  | _, _, .nil => rfl
  | _, _, .cons _ t => congrArg (· + 1) (dpAll_len t)
theorem ev_tup {ta : TA} {ds : List PyData} (h : EvS K ta σ H ds) (hz : ds.length ≤ 1000 := by exact Nat.le_of_ble_eq_true rfl) : EvD K (tTup ta) σ H (.tuple ds) := fun H1 g Q q =>
  h H1 g _ fun vs H2 g2 a => ⟨by rw [dpAll_len a]; exact Nat.le_of_lt (small1000 hz), fun p np => q _ _ (g2.trans (Gr.new np)) (dp_tup upd_same (DpAll.kp (Kp.of (Gr.new np)) a))⟩
theorem el_lst {ta : TA} {ds : List PyData} (h : EvS K ta σ H ds) (hz : ds.length ≤ 1000 := by exact Nat.le_of_ble_eq_true rfl) : EvL K (tLst ta) σ H ds := fun H1 g Q q =>
  h H1 g _ fun vs H2 g2 a => ⟨by rw [dpAll_len a]; exact Nat.le_of_lt (small1000 hz), fun p np => q _ _ _ (g2.trans (Gr.new np)) upd_same (DpAll.kp (Kp.of (Gr.new np)) a)⟩
theorem ev_lst {ta : TA} {ds : List PyData} (h : EvS K ta σ H ds) (hz : ds.length ≤ 1000 := by exact Nat.le_of_ble_eq_true rfl) : EvD K (tLst ta) σ H (.list ds) := (el_lst h hz).d
theorem dpAll_append {H : Hp} : ∀ {vs ws : List V} {ds es : List PyData}, DpAll K H vs ds → DpAll K H ws es → DpAll K H (vs ++ ws) (ds ++ es)
  | _, _, _, _, .nil, b => b
  | _, _, _, _, .cons h t, b => .cons h (dpAll_append t b)
theorem el_cat {ta tb : TE} {ds es : List PyData} (h1 : EvL K ta σ H ds) (h2 : EvL K tb σ H es) (hz : ds.length + es.length ≤ 1000 := by exact Nat.le_of_ble_eq_true rfl) : EvL K (tOp rCat ta tb) σ H (ds ++ es) := fun H1 g Q q =>
  h1 H1 g _ fun p xs H2 g2 e2 a2 => h2 H2 (g.trans g2) _ fun p3 ys H3 g3 e3 a3 => by
    have e2' := g3 _ _ (by simp) e2
    refine ⟨p, p3, xs, ys, rfl, rfl, e2', e3, by rw [dpAll_len a2, dpAll_len a3]; exact Nat.le_of_lt (small1000 hz), fun p4 np => ?_⟩
    exact q p4 _ _ ((g2.trans g3).trans (Gr.new np)) upd_same (dpAll_append (DpAll.kp (Kp.of (g3.trans (Gr.new np))) a2) (DpAll.kp (Kp.of (Gr.new np)) a3))
/-! two data compared -/
theorem ev_eq {ta tb : TE} {d e : PyData} (h1 : EvD K ta σ H d) (h2 : EvD K tb σ H e) (s1 : SeqAt.shaped d = true) (s2 : SeqAt.shaped e = true) : EvD K (tOp (rEqD K) ta tb) σ H (.bool (PyData.eqv d e)) := fun H1 g Q q =>
  h1 H1 g _ fun v H2 g2 a => h2 H2 (g.trans g2) _ fun w H3 g3 b => ⟨d, e, Dp.kp (Kp.of g3) a, b, s1, s2, q _ H3 (g2.trans g3) (.bl _)⟩
theorem ev_ne {ta tb : TE} {d e : PyData} (h1 : EvD K ta σ H d) (h2 : EvD K tb σ H e) (s1 : SeqAt.shaped d = true) (s2 : SeqAt.shaped e = true) : EvD K (tOp (rNeD K) ta tb) σ H (.bool (!PyData.eqv d e)) := fun H1 g Q q =>
  h1 H1 g _ fun v H2 g2 a => h2 H2 (g.trans g2) _ fun w H3 g3 b => ⟨d, e, Dp.kp (Kp.of g3) a, b, s1, s2, q _ H3 (g2.trans g3) (.bl _)⟩
theorem iteFb {b : Bool} {A B : Prop} (h : b = false) (x : B) : if b = true then A else B := by
  rw [h]
  exact iteF x
theorem iteTb {b : Bool} {A B : Prop} (h : b = true) (x : A) : if b = true then A else B := by
  rw [h]
  exact iteT x
/-! statements over them -/
theorem st_asgD {te : TE} {i : Nat} {d : PyData} {D : Ends} (h : EvD K te σ H d) (k : ∀ v H2, Gr [] H H2 → Dp K H2 v d → D.nx (σ.set i (some v)) H2) : tAsg te (gName i) D σ H := h H (Gr.refl _ _) _ k
theorem st_asgL {te : TE} {i : Nat} {ds : List PyData} {D : Ends} (h : EvL K te σ H ds) (k : ∀ p xs H2, Gr [] H H2 → H2 p = some (.lst xs) → DpAll K H2 xs ds → D.nx (σ.set i (some (.ref p))) H2) : tAsg te (gName i) D σ H := h H (Gr.refl _ _) _ k
theorem dp_bool {H : Hp} {v : V} {b : Bool} (h : Dp K H v (.bool b)) : v = .bl b := by cases h; rfl
theorem dp_int {H : Hp} {v : V} {b : Int} (h : Dp K H v (.int b)) : v = .int b := by cases h; rfl
theorem st_retB {te : TE} {b : Bool} {D : Ends} (h : EvD K te σ H (.bool b)) (k : ∀ H2, Gr [] H H2 → D.rt (.bl b) H2) : tRet te D σ H := h H (Gr.refl _ _) _ fun v H2 g e => by rw [dp_bool e]; exact k H2 g
/-- a test that is data -/
theorem tt_of {te : TE} {b : Bool} {H1 : Hp} {Q : Bool → Hp → Prop} (h : EvD K te σ H (.bool b)) (g : Gr [] H H1) (q : ∀ H2, Gr [] H1 H2 → Q b H2) : tTest te σ H1 Q := h H1 g _ fun v H2 g2 e => ⟨b, dp_bool e, q H2 g2⟩
theorem tb_of {te : TE} {b : Bool} {H1 : Hp} {Q : Bool → Hp → Prop} (h : EvD K te σ H (.bool b)) (g : Gr [] H H1) (q : ∀ H2, Gr [] H1 H2 → Q b H2) : tB te σ H1 Q := h H1 g _ fun v H2 g2 e => ⟨b, dp_bool e, q H2 g2⟩
theorem ev_andV {ta tb : TE} {a b : Bool} (h1 : EvD K ta σ H (.bool a)) (h2 : EvD K tb σ H (.bool b)) : EvD K (tAndV ta tb) σ H (.bool (a && b)) := fun H1 g Q q =>
  h1 H1 g _ fun v H2 g2 e => ⟨a, dp_bool e, by
    cases a with
    | true => exact iteT (h2 H2 (g.trans g2) _ fun w H3 g3 e3 => q w H3 (g2.trans g3) e3)
    | false => exact iteF (q _ H2 g2 (.bl false))⟩
end
end Wn
/-! sum of a tuple of whole numbers -/
namespace Wn
open PySem PySem.Spec PyProof.Rows L2
section
variable {prog : Program} {w : World} {A : Around} {E : Value → Shared → Prop} {s : Shared} {l : Addr} {its : List Value} {ns : List Int} {Q : Value → Shared → Prop}
theorem sum_tup0 {xs : Array (Int × Tok)} (hh : A.handled = none) (hl : s.heap.IsTuple l (intItems xs))
    (h : ∀ h' tk t', (∀ b o, s.heap.get? b = some o → h'.get? b = some o) → Q (.int (preSum (numAt xs) xs.size) t') { s with heap := h', toks := tk }) : wpAny (model prog w) A (call (.builtin "sum") [.ref l]) Q E s := by
  refine call_sum_walkG (wpAny_pyIter_tuple hl ?_)
  obtain ⟨o, ho, hc, n, hd⟩ := hl
  have lt : l < s.heap.objs.size := Heap.lt_size ho
  have kp : ∀ b u, s.heap.get? b = some u → (s.heap.push { cls := .type "tuple_iterator", data := .fields #[.ref l, .int 0 0] }).get? b = some u := fun b u e => Heap.get?_push_of_some _ e
  refine ⟨s.heap.objs.size, _, _, _, _, _, numAt xs, rfl, Walks.tuple (A := A.in1) hh s.heap.objs.size l (Nat.ne_of_lt lt) (intItems xs), ⟨⟨_, Heap.get?_push_size _ rfl, rfl, rfl⟩, ⟨o, kp _ _ ho, hc, n, hd⟩⟩, fun b hb => ?_, fun _ _ => intItems_at, fun h' tk t' hk => ?_⟩
  · have hz : (s.heap.push { cls := .type "tuple_iterator", data := .fields #[.ref l, .int 0 0] }).objs.size = s.heap.objs.size + 1 := by simp [Heap.push]
    simp only [List.mem_cons, List.not_mem_nil, or_false] at hb
    show b < (s.heap.push _).objs.size
    rw [hz]
    rcases hb with rfl | rfl
    · exact Nat.lt_succ_self _
    · exact Nat.lt_succ_of_lt lt
  · have := h h' tk t' (fun b u e => hk b u (by
      rw [List.mem_singleton]
      exact Nat.ne_of_lt (Heap.lt_size e)) (kp b u e))
    simpa [intItems] using this
theorem sum_tup (hh : A.handled = none) (hl : s.heap.IsTuple l its.toArray) (hi : IntsAre its ns)
    (h : ∀ h' tk t', (∀ b o, s.heap.get? b = some o → h'.get? b = some o) → Q (.int ns.sum t') { s with heap := h', toks := tk }) : wpAny (model prog w) A (call (.builtin "sum") [.ref l]) Q E s := by
  obtain ⟨xs, e⟩ := hi.allInts.items
  have hn : numsOf (intItems xs).toList = ns := by
    rw [← e]
    exact hi.numsOf
  rw [nums_intItems] at hn
  rw [e] at hl
  refine sum_tup0 hh hl fun h' tk t' hk => ?_
  have := h h' tk t' hk
  rw [preSum_eq, List.take_of_length_le (by simp), hn]
  exact this
end
def rSumT (K : PySem.W.Frag) : List V → Hp → VK → Prop := fun vs H Q => ∃ (a : Addr) (ns : List Int), vs = [V.ref a] ∧ SqT K H a (ns.map V.int) ∧ Q (.int ns.sum) H
theorem cr_sumT {X : Cx} (hc : X.calm = true) : CallR X (.builtin "sum") (rSumT X.K) := by
  intro pins s σ H vs us Q I r h
  obtain ⟨a, ns, rfl, hs, q⟩ := h
  obtain ⟨its, rv, hl, _⟩ := I.tuple hs
  rw [Vals.ref1 r]
  exact sum_tup (I.ok.hd hc) hl rv.ints fun h' tk t' hk => ⟨.int _, H, I.kept hk, ⟨_, rfl⟩, q⟩
end Wn
/-! a list with a step: xs[::k] -/
namespace Wn
open PySem PySem.Spec PyProof.Rows L2
def stepV (xs : List V) (k : Nat) : List V := (List.range ((xs.length + k - 1) / k)).filterMap fun i => xs[k * i]?
theorem vals_picks {xs : List V} {us : List Value} (r : Vals xs us) (f : Nat → Nat) : ∀ js : List Nat, Vals (js.filterMap fun i => xs[f i]?) (js.filterMap fun i => us[f i]?)
  | [] => .nil
  | j :: js => by
    have ih := vals_picks r f js
    cases e : xs[f j]? with
    | none =>
      have e2 := r.none_of e
      rw [List.filterMap_cons, List.filterMap_cons, e, e2]
      exact ih
    | some x =>
      obtain ⟨u, e2, h⟩ := r.get e
      rw [List.filterMap_cons, List.filterMap_cons, e, e2]
      exact .cons h ih
theorem pick_step (us : List Value) {k : Nat} (hk : 1 ≤ k) : slicePick us.toArray none none (some (k : Int)) = ((List.range ((us.length + k - 1) / k)).filterMap fun i => us[k * i]?).toArray := by
  have e : sliceBounds none none (some (k : Int)) us.toArray.size = ((0 : Int), (us.length : Int), (k : Int)) := by
    have h : (k : Int) > 0 := by omega
    simp only [sliceBounds, Option.getD_some, h, if_true, List.size_toArray]
  unfold slicePick
  rw [e]
  show (List.filterMap (fun i => us.toArray[i]?) (sliceRange 0 (us.length : Int) (k : Int))).toArray = _
  congr 1
  have e2 : sliceRange 0 (us.length : Int) (k : Int) = (List.range ((us.length + k - 1) / k)).map fun i => k * i := by
    unfold sliceRange
    have h : (k : Int) > 0 := by omega
    rw [if_pos h]
    have c : (if (0 : Int) < (us.length : Int) then ((us.length : Int) - 0 + k - 1) / k else 0).toNat = (us.length + k - 1) / k := by
      by_cases z : (0 : Int) < (us.length : Int)
      · rw [if_pos z, show ((us.length : Int) - 0 + k - 1) = ((us.length + k - 1 : Nat) : Int) by omega, ← Int.natCast_ediv]
        rfl
      · rw [if_neg z]
        have : us.length = 0 := by omega
        rw [this, Nat.zero_add, Nat.div_eq_of_lt (by omega)]
        rfl
    dsimp only
    rw [c]
    apply List.map_congr_left
    intro i _
    rw [Int.zero_add, ← Int.natCast_mul]
    rfl
  rw [e2, List.filterMap_map]
  congr 1
  funext i
  simp
theorem stepV_len (xs : List V) (k : Nat) (hk : 1 ≤ k) : (stepV xs k).length ≤ xs.length := by
  unfold stepV
  refine Nat.le_trans (List.length_filterMap_le _ _) ?_
  rw [List.length_range]
  rcases Nat.eq_zero_or_pos xs.length with z | z
  · rw [z, Nat.zero_add, Nat.div_eq_of_lt (by omega)]
    exact Nat.le_refl _
  · refine Nat.lt_succ_iff.mp ((Nat.div_lt_iff_lt_mul (by omega)).mpr ?_)
    have : xs.length * 1 ≤ xs.length * k := Nat.mul_le_mul_left _ hk
    rw [Nat.succ_mul]
    omega
def rStL (K : PySem.W.Frag) : V → V → Hp → VK → Prop := fun x y H Q => ∃ (a : Addr) (xs : List V) (k : Nat), x = .ref a ∧ y = .int k ∧ 1 ≤ k ∧ SqL K H a xs ∧ ∀ p, H p = none → Q (.ref p) (upd H p (.lst (stepV xs k)))
def tStL (r : R2) (te ts : TE) : TE := fun σ H Q => te σ H fun x H1 => ts σ H1 fun y H2 => r x y H2 Q
variable {X : Cx} {e st : Expr} {te ts : TE} {pos p2 : Pos}
theorem pe_stepL {r : R2} (he : PE X e te) (hs : PE X st ts) (hr : r = rStL X.K := by rfl) : PE X (.Subscript e (.Slice none none (some st) p2) pos) (tStL r te ts) := by
  subst hr
  refine ⟨fun pins s σ H Q I h => ?_⟩
  refine Subscript_ (thn (he.run pins s σ H _ I h) fun v s1 ⟨x, H1, I1, r1, q1⟩ => ?_)
  refine wpAny_Slice ?_
  rw [evalPart_none]
  refine wpAny_pure (wpAny_pure ?_)
  rw [evalPart_some]
  refine thn (hs.run pins s1 σ H1 _ I1 q1) fun vs s3 ⟨y, H3, I3, ry, q3⟩ => ?_
  obtain ⟨a, xs, k, rfl, rfl, hk, hx, q⟩ := q3
  cases r1
  obtain ⟨t, rfl⟩ := ry
  have I4 : Inv X pins σ H3 { s3 with heap := s3.heap.push { cls := .type "slice", data := .fields #[.none, .none, .int k t] } } := I3.kept (t' := s3.toks) fun b ob q => Heap.get?_push_of_some _ q
  obtain ⟨its, r, ht, hz⟩ := I4.list hx
  have hlen := r.length
  have hg : wpAny (model X.prog X.w) X.A (getItem (.ref a) (.ref s3.heap.objs.size)) (EP X pins σ Q) X.xe { s3 with heap := s3.heap.push { cls := .type "slice", data := .fields #[.none, .none, .int k t] } } := by
    refine wpAny_getItem_list_slice (st := some (k : Int)) ht.isList (Heap.IsSliceOf.new ..) .none .none (.int _ _) (by intro z; have := Option.some.inj z; omega) ?_ (by rw [List.size_toArray] <;> omega)
    rw [pick_step its hk, ← hlen]
    refine ⟨.ref _, _, I4.laid (t' := s3.toks) (o := .lst (stepV xs k)) (fun b ob q => Heap.get?_push_of_some _ q) (Nat.le_refl _) ?_, rfl, q _ (I4.hok.fresh (Nat.le_refl _))⟩
    exact ⟨Nat.le_trans (stepV_len xs k hk) hz, _, 0, vals_picks r _ _, Heap.get?_push_size _ rfl⟩
  show wpAny (model X.prog X.w) X.A (subscriptTail e (.Slice none none (some st) p2) (.ref a) (.ref s3.heap.objs.size)) (EP X pins σ Q) X.xe { s3 with heap := s3.heap.push { cls := .type "slice", data := .fields #[.none, .none, .int k t] } }
  exact tail_any (ops := [.ref a, .ref s3.heap.objs.size]) ht.isList.typeIs slot_list_getitem.lookup hg (by with_unfolding_all rfl)
end Wn
/-! sums of powers, and which cuts balance -/
namespace Wn
open PySem PySem.Spec PyProof.Rows L2
def geo (g : Nat) : Nat → Nat
  | 0 => 0
  | c + 1 => geo g c + g ^ c
theorem geo_add (g a : Nat) : ∀ d, geo g (a + d) = geo g a + g ^ a * geo g d
  | 0 => by simp [geo]
  | d + 1 => by
    rw [← Nat.add_assoc]
    show geo g (a + d) + g ^ (a + d) = geo g a + g ^ a * (geo g d + g ^ d)
    rw [geo_add g a d, Nat.mul_add, Nat.pow_add, Nat.add_assoc]
theorem geo_mul (g m : Nat) : ∀ c, geo g (m * c) = geo g m * geo (g ^ m) c
  | 0 => by simp [geo]
  | c + 1 => by
    show geo g (m * c + m) = geo g m * (geo (g ^ m) c + (g ^ m) ^ c)
    rw [geo_add, geo_mul g m c, Nat.mul_add, ← Nat.pow_mul, Nat.mul_comm (g ^ (m * c))]
theorem geo_tel (g : Nat) : ∀ c, geo g c * g + 1 = geo g c + g ^ c
  | 0 => by simp [geo]
  | c + 1 => by
    show (geo g c + g ^ c) * g + 1 = geo g c + g ^ c + g ^ (c + 1)
    rw [Nat.add_mul, Nat.pow_succ]
    have := geo_tel g c
    omega
def restSum (b n x s c : Nat) : Nat := ((List.range c).map fun i => rem b n x (s * i)).sum
theorem restSum_succ (b n x s c : Nat) : restSum b n x s (c + 1) = restSum b n x s c + rem b n x (s * c) := by
  unfold restSum
  rw [List.range_succ, List.map_append, List.sum_append]
  simp
theorem restSum_mod (b n x s : Nat) : ∀ c, restSum b n x s c % n = x * geo (b ^ s) c % n
  | 0 => by simp [restSum, geo]
  | c + 1 => by
    rw [restSum_succ, Nat.add_mod, restSum_mod b n x s c]
    show (_ + rem b n x (s * c) % n) % n = x * (geo (b ^ s) c + (b ^ s) ^ c) % n
    rw [Nat.mul_add, Nat.add_mod (x * _)]
    unfold rem
    rw [Nat.mod_mod, Nat.pow_mul]
def bal (b n s c : Nat) : Bool := decide (restSum b n 1 s c % n = 0)
theorem bal_iff {b n s c : Nat} : bal b n s c = true ↔ n ∣ geo (b ^ s) c := by
  unfold bal
  rw [decide_eq_true_eq, restSum_mod, Nat.one_mul]
  exact (Nat.dvd_iff_mod_eq_zero ..).symm
theorem bal_mul {b n s c m : Nat} (h : bal b n (m * s) c = true) : bal b n s (m * c) = true := by
  rw [bal_iff] at h ⊢
  rw [geo_mul, ← Nat.pow_mul, Nat.mul_comm s m]
  exact Nat.dvd_trans h (Nat.dvd_mul_left _ _)
theorem bal_prime {b n s c L : Nat} (hb : 1 ≤ b) (hn : 2 ≤ n) (hp : ∀ k, 2 ≤ k → k < n → ¬ n % k = 0) (hL : IsPer b n L) (hc : 2 ≤ c) (hs : 1 ≤ s) (e : L = s * c) : bal b n s c = true := by
  rw [bal_iff]
  have hsL : s < L := by
    rw [e]
    have : s * 2 ≤ s * c := Nat.mul_le_mul_left _ hc
    omega
  have g1 : 1 ≤ b ^ s := Nat.one_le_pow _ _ hb
  have h1 : (b ^ s) ^ c % n = 1 % n := by
    rw [← Nat.pow_mul, ← e]
    exact hL.2.1
  have h2 : ¬ n ∣ b ^ s - 1 := fun z => hL.2.2 s hs hsL ((mod_iff g1).mpr z).symm
  have t := geo_tel (b ^ s) c
  have t2 : geo (b ^ s) c * (b ^ s - 1) = (b ^ s) ^ c - 1 := by
    rw [Nat.mul_sub, Nat.mul_one]
    omega
  have h3 : n ∣ geo (b ^ s) c * (b ^ s - 1) := by
    rw [t2]
    exact (mod_iff (Nat.one_le_pow _ _ g1)).mp h1.symm
  have hd : Nat.gcd n (b ^ s - 1) ∣ n := Nat.gcd_dvd_left _ _
  have hdn := Nat.le_of_dvd (by omega) hd
  have hd0 : 1 ≤ Nat.gcd n (b ^ s - 1) := Nat.gcd_pos_of_pos_left _ (by omega)
  have hd1 : Nat.gcd n (b ^ s - 1) = 1 := by
    rcases Nat.lt_or_eq_of_le hdn with z | z
    · rcases Nat.lt_or_eq_of_le hd0 with y | y
      · exact absurd (Nat.mod_eq_zero_of_dvd hd) (hp _ y z)
      · exact y.symm
    · exact absurd (z ▸ Nat.gcd_dvd_right n (b ^ s - 1)) h2
  exact Nat.Coprime.dvd_of_dvd_mul_right hd1 h3
/-! which cuts -/
def from2 (k : Nat) : List Nat := (List.range k).map (2 + ·)
theorem from2_succ (k : Nat) : from2 (k + 1) = from2 k ++ [2 + k] := by
  unfold from2
  rw [List.range_succ, List.map_append]
  rfl
theorem mem_from2 {k c : Nat} : c ∈ from2 k ↔ 2 ≤ c ∧ c < 2 + k := by
  unfold from2
  rw [List.mem_map]
  constructor
  · rintro ⟨i, hi, rfl⟩
    rw [List.mem_range] at hi
    omega
  · rintro ⟨h1, h2⟩
    exact ⟨c - 2, List.mem_range.mpr (by omega), by omega⟩
def splitsL (L : Nat) : List Nat := (from2 (L - 1)).filter fun c => decide (L % c = 0)
theorem mem_splits {L c : Nat} (hL : 1 ≤ L) : c ∈ splitsL L ↔ 2 ≤ c ∧ c ∣ L := by
  unfold splitsL
  rw [List.mem_filter, mem_from2, decide_eq_true_eq]
  constructor
  · rintro ⟨⟨h1, h2⟩, h3⟩
    exact ⟨h1, Nat.dvd_of_mod_eq_zero h3⟩
  · rintro ⟨h1, h2⟩
    have := Nat.le_of_dvd hL h2
    exact ⟨⟨h1, by omega⟩, Nat.mod_eq_zero_of_dvd h2⟩
def dueL (b n L : Nat) : List Nat := (splitsL L).filter fun c => bal b n (L / c) c
def below (xs : List Nat) (c : Nat) : List Nat := xs.filter fun k => decide (k < c) && decide (c % k = 0)
def isLeast (xs : List Nat) (c : Nat) : Bool := (below xs c).isEmpty
def leastL (xs : List Nat) : List Nat := xs.filter (isLeast xs)
theorem asc_splits (L : Nat) : (splitsL L).Pairwise (· < ·) := by
  unfold splitsL from2
  refine List.Pairwise.filter _ ?_
  rw [List.pairwise_map]
  exact List.Pairwise.imp (fun h => by omega) List.pairwise_lt_range
theorem asc_due (b n L : Nat) : (dueL b n L).Pairwise (· < ·) := (asc_splits L).filter _
theorem isLeast_iff {xs : List Nat} {c : Nat} : isLeast xs c = true ↔ ∀ k ∈ xs, k < c → ¬ c % k = 0 := by
  unfold isLeast below
  rw [List.isEmpty_iff, List.filter_eq_nil_iff]
  constructor
  · intro h k hk hc hm
    exact h k hk (by rw [decide_eq_true hc, decide_eq_true hm]; rfl)
  · intro h k hk hm
    rw [Bool.and_eq_true, decide_eq_true_eq, decide_eq_true_eq] at hm
    exact h k hk hm.1 hm.2
theorem least_under {xs : List Nat} (h2 : ∀ k ∈ xs, 1 ≤ k) : ∀ (m k : Nat), k ≤ m → k ∈ xs → ∃ k0 ∈ xs, k0 ∣ k ∧ isLeast xs k0 = true
  | 0, k, hm, hk => absurd (h2 k hk) (by omega)
  | m + 1, k, hm, hk => by
    by_cases h : isLeast xs k = true
    · exact ⟨k, hk, Nat.dvd_refl k, h⟩
    · rw [isLeast_iff] at h
      have : ∃ j, j ∈ xs ∧ j < k ∧ k % j = 0 := by
        apply Classical.byContradiction
        intro z
        exact h fun j hj hl hm' => z ⟨j, hj, hl, hm'⟩
      obtain ⟨j, hj, hl, hm'⟩ := this
      obtain ⟨k0, h0, hd, hs⟩ := least_under h2 m j (by omega) hj
      exact ⟨k0, h0, Nat.dvd_trans hd (Nat.dvd_of_mod_eq_zero hm'), hs⟩
/-- the look at the least ones found so far -/
theorem least_step {xs : List Nat} (h2 : ∀ k ∈ xs, 1 ≤ k) (asc : xs.Pairwise (· < ·)) {i : Nat} (hi : i < xs.length) :
    (((xs.take i).filter (isLeast xs)).map fun k => !decide (xs[i] % k = 0)).all id = isLeast xs xs[i] := by
  rw [Bool.eq_iff_iff, List.all_map, List.all_eq_true, isLeast_iff]
  have lt : ∀ k ∈ xs.take i, k < xs[i] := fun k hk => by
    obtain ⟨j, hj, rfl⟩ := List.mem_iff_getElem.mp hk
    rw [List.length_take] at hj
    rw [List.getElem_take]
    exact List.pairwise_iff_getElem.mp asc j i (by omega) hi (by omega)
  have back : ∀ k ∈ xs, k < xs[i] → k ∈ xs.take i := fun k hk hl => by
    obtain ⟨j, hj, rfl⟩ := List.mem_iff_getElem.mp hk
    rw [List.mem_iff_getElem]
    have hji : j < i := by
      rcases Nat.lt_trichotomy j i with z | z | z
      · exact z
      · subst z
        omega
      · have := List.pairwise_iff_getElem.mp asc i j hi hj z
        omega
    exact ⟨j, by rw [List.length_take]; omega, by rw [List.getElem_take]⟩
  constructor
  · intro h k hk hl hm
    obtain ⟨k0, h0, hd, hs⟩ := least_under h2 k k (Nat.le_refl _) hk
    have hk0 : k0 < xs[i] := Nat.lt_of_le_of_lt (Nat.le_of_dvd (h2 k hk) hd) hl
    have := h k0 (List.mem_filter.mpr ⟨back k0 h0 hk0, hs⟩)
    rw [Function.comp_apply, id_eq, Bool.not_eq_true', decide_eq_false_iff_not] at this
    exact this (Nat.mod_eq_zero_of_dvd (Nat.dvd_trans hd (Nat.dvd_of_mod_eq_zero hm)))
  · intro h k hk
    obtain ⟨hk1, hk2⟩ := List.mem_filter.mp hk
    rw [Function.comp_apply, id_eq, Bool.not_eq_true', decide_eq_false_iff_not]
    exact h k (List.mem_of_mem_take hk1) (lt k hk1)
theorem due_mul {b n L c k : Nat} (hL : 1 ≤ L) (hc : c ∈ dueL b n L) (hk : k ∈ splitsL L) (hd : k % c = 0) : k ∈ dueL b n L := by
  obtain ⟨hc1, hc2⟩ := List.mem_filter.mp hc
  refine List.mem_filter.mpr ⟨hk, ?_⟩
  obtain ⟨k1, k2⟩ := (mem_splits hL).mp hk
  obtain ⟨c1, c2⟩ := (mem_splits hL).mp hc1
  obtain ⟨m, rfl⟩ := Nat.dvd_of_mod_eq_zero hd
  obtain ⟨s, rfl⟩ := k2
  have hm : 1 ≤ m := by
    rcases Nat.eq_zero_or_pos m with z | z
    · subst z
      omega
    · exact z
  have e1 : c * m * s / c = m * s := by
    rw [Nat.mul_assoc]
    exact Nat.mul_div_cancel_left _ (by omega)
  have e2 : c * m * s / (c * m) = s := Nat.mul_div_cancel_left _ (by omega)
  rw [e1] at hc2
  rw [e2, Nat.mul_comm c m]
  exact bal_mul hc2
theorem due_prime {b n L : Nat} (hb : 1 ≤ b) (hn : 2 ≤ n) (hp : ∀ k, 2 ≤ k → k < n → ¬ n % k = 0) (hL : IsPer b n L) : dueL b n L = splitsL L := by
  unfold dueL
  rw [List.filter_eq_self]
  intro c hc
  obtain ⟨h1, s, e⟩ := (mem_splits hL.1).mp hc
  have hs : 1 ≤ s := by
    rcases Nat.eq_zero_or_pos s with z | z
    · rw [z, Nat.mul_zero] at e
      have := hL.1
      omega
    · exact z
  have : L / c = s := by
    rw [e]
    exact Nat.mul_div_cancel_left _ (by omega)
  rw [this]
  exact bal_prime hb hn hp hL h1 hs (by rw [e, Nat.mul_comm])
/-! lists of whole numbers from 0 on -/
def vn (xs : List Nat) : List V := xs.map fun k => V.int (k : Nat)
def ni (xs : List Nat) : List Int := xs.map fun k => ((k : Nat) : Int)
theorem vn_ni (xs : List Nat) : vn xs = (ni xs).map V.int := by
  unfold vn ni
  rw [List.map_map]
  rfl
theorem vn_len (xs : List Nat) : (vn xs).length = xs.length := by simp [vn]
theorem vn_snoc (xs : List Nat) (k : Nat) : vn xs ++ [V.int (k : Nat)] = vn (xs ++ [k]) := by simp [vn]
theorem vn_get {xs : List Nat} {i : Nat} {y : V} (h : (vn xs)[i]? = some y) : ∃ hi : i < xs.length, y = V.int (xs[i] : Nat) := by
  unfold vn at h
  rw [List.getElem?_map] at h
  cases e : xs[i]? with
  | none =>
    rw [e] at h
    cases h
  | some n =>
    rw [e] at h
    obtain ⟨hi, e2⟩ := List.getElem?_eq_some_iff.mp e
    subst e2
    exact ⟨hi, (Option.some.inj h).symm⟩
theorem ni_sum : ∀ xs : List Nat, (ni xs).sum = ((xs.sum : Nat) : Int)
  | [] => rfl
  | x :: r => by
    show (x : Int) + (ni r).sum = ((x + r.sum : Nat) : Int)
    rw [ni_sum r]
    omega
theorem filt_yes {xs : List Nat} {g : Nat → Bool} {i : Nat} (hi : i < xs.length) (h : g xs[i] = true) : (xs.take (i + 1)).filter g = (xs.take i).filter g ++ [xs[i]] := by
  rw [List.take_succ_eq_append_getElem hi, List.filter_append, List.filter_cons, if_pos h]
  rfl
theorem filt_no {xs : List Nat} {g : Nat → Bool} {i : Nat} (hi : i < xs.length) (h : g xs[i] = false) : (xs.take (i + 1)).filter g = (xs.take i).filter g := by
  rw [List.take_succ_eq_append_getElem hi, List.filter_append, List.filter_cons, if_neg (by rw [h]; decide)]
  simp
theorem from2_len (k : Nat) : (from2 k).length = k := by simp [from2]
theorem from2_get {k i : Nat} (h : i < k) : (from2 k)[i]'(by rw [from2_len]; exact h) = 2 + i := by simp [from2]
theorem eqv_niL (ys : List Nat) : PyData.eqv (.list ((ni ys).map PyData.int)) (.list []) = ys.isEmpty := by
  cases ys with
  | nil => rfl
  | cons y r => rfl
theorem inV_ni (k : Nat) : ∀ xs : List Nat, inV (.int (k : Nat)) (vn xs) = decide (k ∈ xs) := by
  intro xs
  induction xs with
  | nil => rfl
  | cons y r ih =>
    show ((((y : Nat) : Int) == ((k : Nat) : Int)) || inV (.int (k : Nat)) (vn r)) = _
    rw [ih, Bool.eq_iff_iff, Bool.or_eq_true, beq_iff_eq, decide_eq_true_eq, decide_eq_true_eq, List.mem_cons]
    constructor
    · rintro (h | h)
      · exact .inl (by omega)
      · exact .inr h
    · rintro (h | h)
      · exact .inl (by omega)
      · exact .inr h
theorem flat_ni : ∀ xs : List Nat, (vn xs).all flatV = true
  | [] => rfl
  | _ :: r => flat_ni r
theorem blkOk_of {N N0 : List Str} {sc sc0 scope : Scope} {own : List (Str × Nat)} (hN : N = N0) (hs : sc = sc0) (h : blkC N0 sc0 scope own = true) : BlkOk N sc scope own := by
  subst hN hs
  exact blkOk_by h
end Wn
/-! values of digits, and the sum of the pieces -/
namespace Wn
open PySem PySem.Spec PyProof.Rows L2
def wrt (b : Nat) (ds : List Nat) : Nat := ds.foldl (fun f d => f * b + d) 0
theorem wrt_snoc (b : Nat) (ds : List Nat) (d : Nat) : wrt b (ds ++ [d]) = wrt b ds * b + d := by simp [wrt]
def dg (b n x lo c : Nat) : List Nat := (List.range c).map fun i => rem b n x (lo + i) * b / n
theorem dg_len (b n x lo c : Nat) : (dg b n x lo c).length = c := by simp [dg]
theorem dg_succ (b n x lo c : Nat) : dg b n x lo (c + 1) = dg b n x lo c ++ [rem b n x (lo + c) * b / n] := by
  unfold dg
  rw [List.range_succ, List.map_append]
  rfl
theorem wrt_dg (b n x lo : Nat) : ∀ c, n * wrt b (dg b n x lo c) + rem b n x (lo + c) = rem b n x lo * b ^ c
  | 0 => by simp [dg, wrt]
  | c + 1 => by
    have ih := wrt_dg b n x lo c
    have dm := Nat.div_add_mod (rem b n x (lo + c) * b) n
    rw [rem_succ] at dm
    rw [dg_succ, wrt_snoc, Nat.pow_succ, ← Nat.mul_assoc, ← ih, Nat.mul_add, Nat.add_mul, ← Nat.mul_assoc]
    have e : lo + (c + 1) = lo + c + 1 := rfl
    rw [e]
    omega
/-- the value of piece number j of k digits -/
def pce (b n x k j : Nat) : Nat := wrt b (dg b n x (k * j) k)
def pcs (b n x k c : Nat) : List Nat := (List.range c).map (pce b n x k)
theorem pcs_len (b n x k c : Nat) : (pcs b n x k c).length = c := by simp [pcs]
theorem pcs_succ (b n x k c : Nat) : pcs b n x k (c + 1) = pcs b n x k c ++ [pce b n x k c] := by
  unfold pcs
  rw [List.range_succ, List.map_append]
  rfl
theorem pcs_sum (b n x k : Nat) : ∀ c, n * (pcs b n x k c).sum + restSum b n x k c + rem b n x (k * c) = b ^ k * restSum b n x k c + rem b n x 0
  | 0 => by simp [pcs, restSum]
  | c + 1 => by
    have ih := pcs_sum b n x k c
    have w := wrt_dg b n x (k * c) k
    have e : k * (c + 1) = k * c + k := rfl
    rw [e, pcs_succ, List.sum_append, restSum_succ, Nat.mul_add, Nat.mul_add]
    have e2 : ([pce b n x k c] : List Nat).sum = pce b n x k c := by simp
    rw [e2]
    unfold pce
    rw [Nat.mul_comm (b ^ k) (rem b n x (k * c)), ← w]
    omega
theorem pcs_all {b n x k c : Nat} (hb : 1 ≤ b) (h : rem b n x (k * c) = rem b n x 0) : n * (pcs b n x k c).sum = (b ^ k - 1) * restSum b n x k c := by
  have e := pcs_sum b n x k c
  rw [h] at e
  have h1 : 1 ≤ b ^ k := Nat.one_le_pow _ _ hb
  rw [Nat.sub_mul, Nat.one_mul]
  omega
theorem pcs_quot {b n x k c : Nat} (hb : 2 ≤ b) (hk : 1 ≤ k) (hn : 1 ≤ n) (h : rem b n x (k * c) = rem b n x 0) :
    ((pcs b n x k c).sum % (b ^ k - 1) = 0 ↔ restSum b n x k c % n = 0) ∧ (restSum b n x k c % n = 0 → (pcs b n x k c).sum / (b ^ k - 1) = restSum b n x k c / n) := by
  have e := pcs_all (b := b) (n := n) (x := x) (k := k) (c := c) (by omega) h
  have h1 : 2 ≤ b ^ k := Nat.le_trans hb (Nat.le_self_pow (by omega) b)
  generalize (pcs b n x k c).sum = S at e ⊢
  generalize restSum b n x k c = R at e ⊢
  generalize hm : b ^ k - 1 = m at e ⊢
  have m1 : 1 ≤ m := by omega
  refine ⟨⟨fun z => ?_, fun z => ?_⟩, fun z => ?_⟩
  · obtain ⟨q, rfl⟩ := Nat.dvd_of_mod_eq_zero z
    have : m * R = m * (n * q) := by rw [← e, Nat.mul_left_comm]
    rw [Nat.eq_of_mul_eq_mul_left m1 this]
    exact Nat.mul_mod_right _ _
  · obtain ⟨q, rfl⟩ := Nat.dvd_of_mod_eq_zero z
    have : n * S = n * (m * q) := by rw [e, Nat.mul_left_comm]
    rw [Nat.eq_of_mul_eq_mul_left hn this]
    exact Nat.mul_mod_right _ _
  · obtain ⟨q, rfl⟩ := Nat.dvd_of_mod_eq_zero z
    have : n * S = n * (m * q) := by rw [e, Nat.mul_left_comm]
    rw [Nat.eq_of_mul_eq_mul_left hn this, Nat.mul_div_cancel_left _ m1, Nat.mul_div_cancel_left _ hn]
theorem pce_lt {b n x k j : Nat} (hb : 1 ≤ b) (hn : 1 ≤ n) : pce b n x k j < b ^ k := by
  have w := wrt_dg b n x (k * j) k
  have r := rem_lt (b := b) (n := n) (x := x) (i := k * j) hn
  unfold pce
  have h1 : n * wrt b (dg b n x (k * j) k) ≤ rem b n x (k * j) * b ^ k := by omega
  have h2 : rem b n x (k * j) * b ^ k < n * b ^ k := Nat.mul_lt_mul_of_pos_right r (Nat.pow_pos hb)
  exact Nat.lt_of_mul_lt_mul_left (Nat.lt_of_le_of_lt h1 h2)
theorem rem_period {b n x L : Nat} (h : b ^ L % n = 1 % n) : rem b n x L = rem b n x 0 := by
  unfold rem
  rw [Nat.mul_mod, h, ← Nat.mul_mod, Nat.pow_zero]
/-! whole numbers of more signs -/
theorem Sm.intB {i : Int} {k : Nat} (hk : 1 ≤ k) (h : i.natAbs < 2 ^ k) (hk2 : k ≤ 1000) : Sm (.int i) 303 0 k := by
  have hl := log2_lt hk h
  have h12 : i.natAbs < 10 ^ 302 := Nat.lt_of_lt_of_le h (Nat.le_trans (Nat.pow_le_pow_right (by decide) hk2) (by decide +kernel))
  refine ⟨?_, ?_, rfl, rfl, Nat.le_refl _, ?_⟩
  · show decide (i.natAbs.log2 < 1920) = true
    exact decide_eq_true (by omega)
  · show decide ((PyData.shown (.int i)).length ≤ 303) = true
    refine decide_eq_true ?_
    have e := int_text_length_le10 (k := 302) (by decide) h12
    show (Str.ofString (toString i)).length ≤ 303
    rw [PySem.ofString_length]
    exact e
  · show 0 ≤ k
    omega
/-- .. of up to 1900 bits -/
theorem Sm.intW {i : Int} (h : i.natAbs < 2 ^ 1900) : Sm (.int i) 600 0 0 := by
  have hl := log2_lt (k := 1900) (by decide) h
  have h12 : i.natAbs < 10 ^ 599 := Nat.lt_of_lt_of_le h (by decide +kernel)
  refine ⟨?_, ?_, rfl, rfl, Nat.le_refl _, Nat.le_refl _⟩
  · show decide (i.natAbs.log2 < 1920) = true
    exact decide_eq_true (by omega)
  · show decide ((PyData.shown (.int i)).length ≤ 600) = true
    refine decide_eq_true ?_
    have e := int_text_length_le10 (k := 599) (by decide) h12
    show (Str.ofString (toString i)).length ≤ 600
    rw [PySem.ofString_length]
    exact e
theorem Sm.int0 {i : Int} {k : Nat} (hk : 1 ≤ k) (h : i.natAbs < 2 ^ k) (hk2 : k ≤ 39) : Sm (.int i) 13 0 0 := by
  obtain ⟨a, b, c, d, e, _⟩ := Sm.int hk h hk2
  exact ⟨a, b, c, d, e, Nat.le_refl _⟩
end Wn
/-! d.update(e) for dicts of whole numbers and texts; dict(xs) with a name -/
namespace Wn
open PySem PySem.Spec PyProof.Rows L2
def rUpd : V → List V → Hp → VK → Prop := fun x vs H Q => ∃ (a o : Addr) (kvs more : List (Key × V)), x = .ref a ∧ vs = [.ref o] ∧ a ≠ o ∧ H a = some (.dK kvs) ∧ H o = some (.dK more) ∧ kvs.length + more.length ≤ sizeLine ∧ Q .non (upd H a (.dK (mergeK kvs more)))
theorem mt_update {X : Cx} : MtR X "dict.update" rUpd := by
  intro pins s σ H x vs v us Q I rx rv h
  obtain ⟨a, o, kvs, more, rfl, rfl, hne, ha, ho, hz, q⟩ := h
  cases rx
  obtain ⟨u, rfl, ru⟩ := rv.one
  cases ru
  obtain ⟨z1, n1, vs1, rel1, d1⟩ := dk_of I.hok ha
  obtain ⟨z2, n2, vs2, rel2, d2⟩ := dk_of I.hok ho
  have l1 := rel1.length
  have l2 := rel2.length
  refine call_meetsIn PySem.F.slot_dict_update d1.typeIs PySem.F.entry_dict_update (PySem.F.args_dict_update_2 _ _) (meets_dict_update (mixKind X.prog X.w) a o hne n2) ⟨vs1, vs2, d1, d2, by omega, fun h' d1' d2' hs => ?_⟩
  have hlm := length_mergeK more kvs
  have he : ∃ q, h'.get? a = some q := let ⟨q, _, _, hq, _⟩ := d1'; ⟨q, hq⟩
  exact ⟨.non, _, d_write I (by rw [ha]; exact True.intro) hs he (dk_new (by omega) n1 (rel2.merge rel1) d1'), rfl, q⟩
def rDP (K : PySem.W.Frag) : List V → Hp → VK → Prop := fun xs H Q => ∃ (a : Addr) (ps : List Addr) (kvs : List (Key × V)), xs = [.ref a] ∧ SqL K H a (ps.map V.ref) ∧ Paired (fun p kv => SqT K H p [kV kv.1, kv.2]) ps kvs ∧
    ∀ p, H p = none → Q (.ref p) (upd H p (.dK (mergeK [] kvs)))
theorem call_dP {X : Cx} (h : X.calm = true) : CallR X (.type "dict") (rDP X.K) := call_dictP h
theorem valV_merge : ∀ (more kvs : List (Key × V)) (k : Key), (valV (mergeK kvs more) k).isSome = ((valV kvs k).isSome || decide (∃ kv ∈ more, kv.1 = k))
  | [], kvs, k => by simp [mergeK]
  | p :: r, kvs, k => by
    show (valV (mergeK (putK kvs p.1 p.2) r) k).isSome = _
    rw [valV_merge r, valV_put, Bool.eq_iff_iff]
    by_cases e : k = p.1
    · subst e
      simp
    · rw [if_neg e]
      have e' : ¬ p.1 = k := fun z => e z.symm
      simp [e']
end Wn
/-! wheels: rows of remainders -/
namespace Wn
open PySem PySem.Spec PyProof.Rows L2
def topB (b n L x : Nat) : Bool := decide (Nat.gcd x n = 1) && (List.range L).all fun i => decide (x ≤ rem b n x i)
def wl (b n L : Nat) : List Nat := (List.range n).filter (topB b n L)
def InOrb (b n L y r : Nat) : Prop := ∃ i, i < L ∧ rem b n y i = r
theorem top_iff {b n L x : Nat} : topB b n L x = true ↔ Nat.gcd x n = 1 ∧ ∀ i, i < L → x ≤ rem b n x i := by
  unfold topB
  rw [Bool.and_eq_true, decide_eq_true_eq, List.all_eq_true]
  constructor
  · rintro ⟨h1, h2⟩
    refine ⟨h1, fun i hi => ?_⟩
    have := h2 i (List.mem_range.mpr hi)
    rwa [decide_eq_true_eq] at this
  · rintro ⟨h1, h2⟩
    exact ⟨h1, fun i hi => decide_eq_true (h2 i (List.mem_range.mp hi))⟩
theorem rem_rem (b n y i j : Nat) : rem b n (rem b n y i) j = rem b n y (i + j) := by
  unfold rem
  rw [Nat.mod_mul_mod, Nat.mul_assoc, ← Nat.pow_add]
theorem rem_per {b n L y : Nat} (h : IsPer b n L) (hy : y < n) : rem b n y L = y := by
  unfold rem
  rw [Nat.mul_mod, h.2.1, ← Nat.mul_mod, Nat.mul_one, Nat.mod_eq_of_lt hy]
theorem orb_symm {b n L x y : Nat} (h : IsPer b n L) (hy : y < n) (o : InOrb b n L y x) : InOrb b n L x y := by
  obtain ⟨i, hi, e⟩ := o
  subst e
  rcases Nat.eq_zero_or_pos i with z | z
  · subst z
    exact ⟨0, h.1, by rw [rem_rem, rem_zero hy]⟩
  · exact ⟨L - i, by omega, by rw [rem_rem, show i + (L - i) = L by omega, rem_per h hy]⟩
theorem rem_cop {b n x : Nat} (g : Nat.gcd b n = 1) (gx : Nat.gcd x n = 1) (i : Nat) : Nat.gcd (rem b n x i) n = 1 := by
  unfold rem
  rw [← Nat.gcd_rec n (x * b ^ i), Nat.gcd_comm]
  exact Nat.Coprime.mul_left gx (cop_pow g i)
theorem not_top {b n L x : Nat} (g : Nat.gcd b n = 1) (h : IsPer b n L) (hx : x < n) (gx : Nat.gcd x n = 1) : topB b n L x = false ↔ ∃ y, y < x ∧ Nat.gcd y n = 1 ∧ InOrb b n L y x := by
  have hn : 1 ≤ n := by omega
  constructor
  · intro z
    have z' : ¬ topB b n L x = true := by rw [z]; decide
    rw [top_iff] at z'
    have : ∃ i, i < L ∧ rem b n x i < x := by
      apply Classical.byContradiction
      intro c
      exact z' ⟨gx, fun i hi => Nat.le_of_not_lt fun l => c ⟨i, hi, l⟩⟩
    obtain ⟨i, hi, l⟩ := this
    exact ⟨_, l, rem_cop g gx i, orb_symm h hx ⟨i, hi, rfl⟩⟩
  · rintro ⟨y, hy, gy, o⟩
    obtain ⟨j, hj, e⟩ := orb_symm h (by omega) o
    cases c : topB b n L x with
    | false => rfl
    | true =>
      have := (top_iff.mp c).2 j hj
      omega
/-- who has been met before x comes -/
def Met (b n L k r : Nat) : Prop := ∃ y, y < k ∧ Nat.gcd y n = 1 ∧ InOrb b n L y r
theorem met_top {b n L k r : Nat} (g : Nat.gcd b n = 1) (h : IsPer b n L) (hk : k ≤ n) : Met b n L k r ↔ ∃ y, y < k ∧ topB b n L y = true ∧ InOrb b n L y r := by
  constructor
  · rintro ⟨y, hy, gy, i, hi, e⟩
    -- the least of its row
    obtain ⟨m, hm, ⟨j, hj, ej⟩, q⟩ := least (fun z => ∃ j, j < L ∧ rem b n y j = z) y ⟨0, h.1, rem_zero (by omega)⟩
    have hjm : rem b n y j = m := ej
    refine ⟨m, by omega, top_iff.mpr ⟨?_, fun t ht => ?_⟩, ?_⟩
    · rw [← hjm]
      exact rem_cop g gy j
    · apply Nat.le_of_not_lt
      intro l
      refine q _ l ⟨(j + t) % L, Nat.mod_lt _ h.1, ?_⟩
      rw [← hjm, rem_rem]
      have := Nat.div_add_mod (j + t) L
      show rem b n y ((j + t) % L) = rem b n y (j + t)
      conv => rhs; rw [← this]
      rw [← rem_rem]
      congr 1
      unfold rem
      rw [Nat.mul_mod, h.mul, ← Nat.mul_mod, Nat.mul_one, Nat.mod_eq_of_lt (by omega)]
    · refine ⟨(L - j + i) % L, Nat.mod_lt _ h.1, ?_⟩
      have := Nat.div_add_mod (L - j + i) L
      rw [← e, ← hjm, rem_rem]
      have e2 : rem b n y (j + (L - j + i) % L) = rem b n y (j + (L - j + i)) := by
        conv => rhs; rw [← this]
        rw [show j + (L * ((L - j + i) / L) + (L - j + i) % L) = L * ((L - j + i) / L) + (j + (L - j + i) % L) by omega, ← rem_rem (i := L * ((L - j + i) / L))]
        congr 1
        unfold rem
        rw [Nat.mul_mod, h.mul, ← Nat.mul_mod, Nat.mul_one, Nat.mod_eq_of_lt (by omega)]
      rw [e2, show j + (L - j + i) = L + i by omega, ← rem_rem, rem_per h (by omega)]
  · rintro ⟨y, hy, t, o⟩
    exact ⟨y, hy, (top_iff.mp t).1, o⟩
theorem met_succ {b n L k r : Nat} : Met b n L (k + 1) r ↔ Met b n L k r ∨ (Nat.gcd k n = 1 ∧ InOrb b n L k r) := by
  constructor
  · rintro ⟨y, hy, gy, o⟩
    rcases Nat.lt_or_eq_of_le (show y ≤ k by omega) with z | z
    · exact .inl ⟨y, z, gy, o⟩
    · subst z
      exact .inr ⟨gy, o⟩
  · rintro (⟨y, hy, gy, o⟩ | ⟨gk, o⟩)
    · exact ⟨y, by omega, gy, o⟩
    · exact ⟨k, by omega, gk, o⟩
/-- a number whose least one stands before it brings nothing new -/
theorem met_skip {b n L k r : Nat} (g : Nat.gcd b n = 1) (h : IsPer b n L) (hk : k < n) (c : topB b n L k = false) : Met b n L (k + 1) r ↔ Met b n L k r := by
  rw [met_top g h (by omega), met_top g h (by omega)]
  constructor
  · rintro ⟨y, hy, t, o⟩
    rcases Nat.lt_or_eq_of_le (show y ≤ k by omega) with z | z
    · exact ⟨y, z, t, o⟩
    · subst z
      rw [c] at t
      cases t
  · rintro ⟨y, hy, t, o⟩
    exact ⟨y, by omega, t, o⟩
def rl (b n x L : Nat) : List Nat := (List.range L).map fun i => rem b n x i
theorem rl_len (b n x L : Nat) : (rl b n x L).length = L := by simp [rl]
theorem mem_rl {b n x L r : Nat} : r ∈ rl b n x L ↔ InOrb b n L x r := by
  unfold rl
  rw [List.mem_map]
  constructor
  · rintro ⟨i, hi, e⟩
    exact ⟨i, List.mem_range.mp hi, e⟩
  · rintro ⟨i, hi, e⟩
    exact ⟨i, List.mem_range.mpr hi, e⟩
theorem rl_lt {b n x L r : Nat} (hn : 1 ≤ n) (h : r ∈ rl b n x L) : r < n := by
  obtain ⟨i, _, rfl⟩ := mem_rl.mp h
  exact rem_lt hn
def copL (n : Nat) : List Nat := (List.range n).filter fun x => decide (Nat.gcd x n = 1)
theorem wl_take_succ {b n L k : Nat} (hk : k < n) : ((List.range n).take (k + 1)).filter (topB b n L) = ((List.range n).take k).filter (topB b n L) ++ (if topB b n L k = true then [k] else []) := by
  rw [List.take_succ_eq_append_getElem (by simpa using hk), List.filter_append, List.getElem_range, List.filter_cons]
  split <;> simp
end Wn
namespace Wn
open PySem PySem.Spec PyProof.Rows L2
theorem orb_trans {b n L x y r : Nat} (h : IsPer b n L) (hy : y < n) (o : InOrb b n L y x) (o2 : InOrb b n L x r) : InOrb b n L y r := by
  obtain ⟨i, hi, rfl⟩ := o
  obtain ⟨j, hj, rfl⟩ := o2
  refine ⟨(i + j) % L, Nat.mod_lt _ h.1, ?_⟩
  rw [rem_rem]
  have := Nat.div_add_mod (i + j) L
  show rem b n y ((i + j) % L) = rem b n y (i + j)
  conv => rhs; rw [← this]
  rw [← rem_rem]
  congr 1
  unfold rem
  rw [Nat.mul_mod, h.mul, ← Nat.mul_mod, Nat.mul_one, Nat.mod_eq_of_lt hy]
theorem asc_cop (n : Nat) : (copL n).Pairwise (· < ·) := List.Pairwise.filter _ List.pairwise_lt_range
theorem mem_cop {n x : Nat} : x ∈ copL n ↔ x < n ∧ Nat.gcd x n = 1 := by
  unfold copL
  rw [List.mem_filter, List.mem_range, decide_eq_true_eq]
theorem cop_len (n : Nat) : (copL n).length ≤ n := by
  unfold copL
  exact Nat.le_trans (List.length_filter_le _ _) (by simp)
theorem cop_take {n i y : Nat} (hi : i < (copL n).length) : y ∈ (copL n).take i ↔ y < (copL n)[i] ∧ Nat.gcd y n = 1 := by
  have hx := mem_cop.mp (List.getElem_mem hi)
  constructor
  · intro h
    obtain ⟨j, hj, rfl⟩ := List.mem_iff_getElem.mp h
    rw [List.length_take] at hj
    rw [List.getElem_take]
    exact ⟨List.pairwise_iff_getElem.mp (asc_cop n) j i (by omega) hi (by omega), (mem_cop.mp (List.getElem_mem _)).2⟩
  · rintro ⟨hl, hg⟩
    have hm : y ∈ copL n := mem_cop.mpr ⟨by omega, hg⟩
    obtain ⟨j, hj, rfl⟩ := List.mem_iff_getElem.mp hm
    rw [List.mem_iff_getElem]
    have hji : j < i := by
      rcases Nat.lt_trichotomy j i with z | z | z
      · exact z
      · subst z
        omega
      · have := List.pairwise_iff_getElem.mp (asc_cop n) i j hi hj z
        omega
    exact ⟨j, by rw [List.length_take]; omega, by rw [List.getElem_take]⟩
theorem cop_top (b n L : Nat) : (copL n).filter (topB b n L) = wl b n L := by
  unfold copL wl
  rw [List.filter_filter]
  congr 1
  funext x
  cases t : topB b n L x with
  | false => rfl
  | true => rw [decide_eq_true (top_iff.mp t).1]; rfl
theorem valV_mem : ∀ (l : List (Key × V)) (k : Key), (valV l k).isSome = true ↔ ∃ kv ∈ l, kv.1 = k
  | [], k => by simp [valV]
  | p :: r, k => by
    by_cases e : p.1 = k
    · rw [valV_pos e]
      simp [e]
    · rw [valV_neg e, valV_mem r]
      simp [e]
end Wn
/-! set(xs) of a list of whole numbers -/
namespace Wn
open PySem PySem.Spec PyProof.Rows L2
abbrev eSet (w : World) : Obj := { cls := .type "set", dict := none, data := .set #[] 0 (.fresh 0 0 (!w.params.followText "set-order")) }
section
variable {P : Program} {w : World} {A : Around} {E : Value → Shared → Prop} {z : Shared}
theorem set_lst {l : Addr} {us : Array Value} (ks : List Int) {Q : Value → Shared → Prop} (hh : A.handled = none) (hl : z.heap.IsList l us) (hu : IntsAre us.toList ks) (hb : ks.length + 1 < scanBound)
    (go : ∀ (hp : Heap) (tk c : Nat), SetR w hp z.heap.objs.size (fun j => decide (j ∈ ks)) c → (∀ b o, z.heap.get? b = some o → hp.get? b = some o) → Q (.ref z.heap.objs.size) { z with heap := hp, toks := tk }) :
    wpAny (model P w) A (call (.type "set") [.ref l]) Q E z := by
  have hsz : us.size = ks.length := Array.length_toList (xs := us) ▸ IntsAre.length hu
  obtain ⟨c0, t0, mr⟩ := F.called_set.mro
  have p1 := F.called_set.made; have p2 := F.called_set.sub
  refine wpAny_call (codeAny_of_tree (show wpAny _ _ (callAny (.type "set") _) _ _ _ from wpAny_pure ⟨Code.quiet_builtin _ (by decide +kernel), codeAny_builtin F.entry_type_call ?_⟩))
  rw [Around.under_plain (weight_type_call_type "set" [Value.ref l] []) rfl]
  have p3 := F.called_set.notType; have p4 := F.called_set.canCreate; have p5 := F.typeCall_set_1 (.ref l)
  repeat (any_goals (first | assumption | wp_step))
  refine codeAny_mono (code_set_led1 (.ref l) (E := E) (Q₁ := fun v s1 => v = .ref z.heap.objs.size ∧ s1 = { z with heap := z.heap.push (eSet w) }) ⟨rfl, rfl⟩) fun r s1 hr => ?_
  cases r with
  | error e => exact hr
  | ok fl =>
    cases fl with
    | ret v =>
      obtain ⟨rfl, rfl⟩ := hr
      have aS : (z.heap.push (eSet w)).get? z.heap.objs.size = some (eSet w) := Heap.get?_push_size _ rfl
      have tS : Shared.TypeIs { z with heap := z.heap.push (eSet w) } (.ref z.heap.objs.size) "set" := ⟨_, aS, rfl⟩
      have p6 := F.called_set.init.lookup; have p7 := F.called_set.init.bind (.ref z.heap.objs.size)
      repeat (any_goals (first | assumption | wp_step))
      refine codeAny_mono (codeAny_call_builtin (R := wants (fun r s2 => r = .none ∧ ∃ hp tk c, s2 = { z with heap := hp, toks := tk } ∧ SetR w hp z.heap.objs.size (fun j => decide (j ∈ ks)) c ∧ (∀ b o, z.heap.get? b = some o → hp.get? b = some o)) E)
        F.called_set.init.plain F.entry_set_init (check_set_init_1 tS ?_)) fun r2 s2 hr2 => ?_
      · obtain ⟨⟨oc, od, odata, osl⟩, ho, hc, nl, hd⟩ := hl
        simp only at hc hd; subst hc; subst hd
        have ho' : (z.heap.push (eSet w)).get? l = some { cls := .type "list", dict := od, data := .seq us nl, slots := osl } := Heap.get?_push_of_some _ ho
        have q1 := F.sub_list_set; have q2 := F.sub_list_frozenset
        have q3 : (Value.type "list" == Value.type "dict") = false := by decide
        have il : (z.heap.push (eSet w)).IsList l us := ⟨_, ho', rfl, nl, rfl⟩
        unfold Builtin.«set.__init__» noKeywords Builtin.Frozenset.updateFrom
        generalize eI : pyIter = PI; wp_walk; subst eI
        refine wpAny_pyIter_list il (wpAny_bind (wpAny_runValue ?_))
        have lt : l < z.heap.objs.size := Heap.lt_size ho
        have h3 : A.in1.in1.in1.handled = none := by simp [hh]
        have eI : (z.heap.push (eSet w)).objs.size = z.heap.objs.size + 1 := Heap.size_push ..
        have nI : l ≠ (z.heap.push (eSet w)).objs.size := by rw [eI]; exact Nat.ne_of_lt (Nat.lt_succ_of_lt lt)
        have nS : z.heap.objs.size ∉ [(z.heap.push (eSet w)).objs.size, l] := by
          rw [eI]; simp only [List.mem_cons, List.not_mem_nil, or_false]; exact fun h => h.elim (Nat.ne_of_lt (Nat.lt_succ_self _)) (Nat.ne_of_gt lt)
        have items : ∀ (i : Nat) (v : Value), us[i]? = some v → ∃ k t, ks[i]? = some k ∧ v = .int k t := fun i v hv => by
          have hi : i < ks.length := hsz ▸ (Array.getElem?_eq_some_iff.mp hv).1
          obtain ⟨t, e⟩ := PyProof.Rows.IntsAre.int_at hu i v (by simpa using hv)
          exact ⟨ks[i], t, by simp [hi], by rw [e]; simp [hi]⟩
        refine set_update_ints ((Walks.list h3 _ l nI us).toS) z.heap.objs.size nS ks hsz hb items (us.size - 0) 0 _ (by omega) (Nat.zero_le _) ⟨⟨_, Heap.get?_push_size _ rfl, rfl, rfl⟩, il.push _⟩ ⟨0, Nat.le_refl 0, setR_new_at (Heap.get?_push_of_some _ aS)⟩ fun s3 c3 mv hc3 R3 => ?_
        obtain ⟨h3', g3, d3, tk3, os3⟩ := s3
        have e1 : g3 = z.gens := mv.gens; have e2 : d3 = z.drawn := mv.drawn; have e3 : os3 = z.os := mv.os
        subst e1; subst e2; subst e3
        refine wpAny_pure (show wpAny _ _ (ret Value.none) _ _ _ from wpAny_pure ⟨rfl, h3', tk3, c3, rfl, R3, fun b o e => ?_⟩)
        have lb : b < z.heap.objs.size := Heap.lt_size e
        refine mv.heap b o ?_ (Heap.get?_push_of_some _ (Heap.get?_push_of_some _ e))
        simp only [List.mem_cons, List.not_mem_nil, or_false]; rw [eI]; exact fun h => h.elim (Nat.ne_of_lt lb) (Nat.ne_of_lt (Nat.lt_succ_of_lt lb))
      · cases r2 with
        | error e => exact hr2
        | ok fl2 =>
          cases fl2 with
          | ret r =>
            obtain ⟨rfl, hp, tk, c, rfl, R, kp⟩ := hr2
            repeat (any_goals (first | assumption | wp_step))
            exact go _ _ _ R kp
          | _ => exact hr2.elim
    | _ => exact hr.elim
end
theorem ints_vals : ∀ {ns : List Int} {us : List Value}, Vals (ns.map V.int) us → IntsAre us ns
  | [], _, .nil => .nil
  | _ :: _, _, .cons ⟨k, e⟩ t => e ▸ IntsAre.cons _ k (ints_vals t)
def rSetL (K : PySem.W.Frag) (w : World) : List V → Hp → VK → Prop := fun xs H Q => ∃ (l : Addr) (ns : List Int), xs = [V.ref l] ∧ SqL K H l (ns.map V.int) ∧ ns.length ≤ 4000 ∧
  ∀ (a : Addr) (ks : List Int), H a = none → ks.Nodup → (∀ k, k ∈ ks ↔ k ∈ ns) → Q (.ref a) (upd H a (SetO w a (fun j => decide (j ∈ ns)) ks.length))
theorem call_setL {X : Cx} (hc : X.calm = true) : CallR X (.type "set") (rSetL X.K X.w) := by
  intro pins s σ H xs us Q I r h
  obtain ⟨l, ns, rfl, hs, hz, q⟩ := h
  obtain ⟨its, rv, hl, _⟩ := I.list hs
  rw [Vals.ref1 r]
  refine set_lst ns (I.ok.hd hc) hl.isList (by simpa using ints_vals rv) (by unfold scanBound; omega) fun hp tk c R kp => ?_
  have R' := R
  obtain ⟨o, es, ep, t, _, _, _, _, nd, hm, _, _, hn, _⟩ := R
  have e : (es.toList.map keyOf).length = c := by rw [List.length_map, Array.length_toList, hn]
  have free := I.hok.fresh (Nat.le_refl s.heap.objs.size)
  have q' := q s.heap.objs.size (es.toList.map keyOf) free nd (fun k => by rw [← hm]; simp)
  rw [e] at q'
  exact ⟨.ref _, _, I.laid (t' := tk) kp (Nat.le_refl _) (setO_new R'), rfl, q'⟩
/-! ascending lists with the same members are one -/
theorem asc_eq : ∀ {xs ys : List Int}, xs.Pairwise (· < ·) → ys.Pairwise (· < ·) → (∀ k, k ∈ xs ↔ k ∈ ys) → xs = ys
  | [], [], _, _, _ => rfl
  | [], y :: ys, _, _, h => absurd ((h y).mpr List.mem_cons_self) (by simp)
  | x :: xs, [], _, _, h => absurd ((h x).mp List.mem_cons_self) (by simp)
  | x :: xs, y :: ys, hx, hy, h => by
    have hx' := List.pairwise_cons.mp hx
    have hy' := List.pairwise_cons.mp hy
    have e : x = y := by
      rcases List.mem_cons.mp ((h x).mp List.mem_cons_self) with z | z
      · exact z
      · rcases List.mem_cons.mp ((h y).mpr List.mem_cons_self) with z2 | z2
        · exact z2.symm
        · have h1 := hy'.1 x z
          have h2 := hx'.1 y z2
          omega
    subst e
    rw [asc_eq hx'.2 hy'.2 fun k => ?_]
    have hk := h k
    simp only [List.mem_cons] at hk
    constructor
    · intro z
      rcases hk.mp (.inr z) with z2 | z2
      · have := hx'.1 k z
        omega
      · exact z2
    · intro z
      rcases hk.mpr (.inr z) with z2 | z2
      · have := hy'.1 k z
        omega
      · exact z2
end Wn
/-! a tuple times any small number -/
namespace Wn
open PySem PySem.Spec PyProof.Rows L2
theorem tmul_same (l : Addr) (us : Array Value) (n : Nat) (dd : Option Addr) (sl : Array (Option Value)) (k : Int) (u : Tok) (c0 : (decide (k < -(2 ^ 63)) || decide (k ≥ 2 ^ 63)) = false) (c1 : (us.isEmpty || k == 1) = true) :
    Meets (Builtin.«tuple.__mul__» ⟨[.ref l, .int k u], []⟩) (fun _ R s => s.heap.get? l = some { cls := .type "tuple", dict := dd, data := .seq us n, slots := sl } ∧ R (.ok (.ret (Value.ref l))) s) :=
  .of_wp fun prog w A R s ⟨hl, go⟩ => by
    obtain ⟨hp, g, d, tk, os⟩ := s
    have f1 := AutoSeq1.idx_int
    wp_walk using wpAny_loadPart' hl
    repeat (first
      | (refine wpAny_ite_false (decide_eq_false (by rw [c0]; exact Bool.false_ne_true)) ?_; wp_walk using wpAny_loadPart' hl)
      | (refine wpAny_ite_true (decide_eq_true (by rw [c1])) ?_; wp_walk using wpAny_loadPart' hl))
    exact ⟨_, rfl, go⟩
theorem tmul_none (l : Addr) (us : Array Value) (n : Nat) (dd : Option Addr) (sl : Array (Option Value)) (k : Int) (u : Tok) (c0 : (decide (k < -(2 ^ 63)) || decide (k ≥ 2 ^ 63)) = false) (c1 : (us.isEmpty || k == 1) = false) (c2 : (decide (k ≤ 0) || us.isEmpty) = true) :
    Meets (Builtin.«tuple.__mul__» ⟨[.ref l, .int k u], []⟩) (fun _ R s => s.heap.get? l = some { cls := .type "tuple", dict := dd, data := .seq us n, slots := sl } ∧
      R (.ok (.ret (Value.ref s.heap.objs.size))) { s with heap := s.heap.push { cls := Value.type "tuple", data := Data.seq #[] }, toks := s.toks }) :=
  .of_wp fun prog w A R s ⟨hl, go⟩ => by
    obtain ⟨hp, g, d, tk, os⟩ := s
    have f1 := AutoSeq1.idx_int
    wp_walk using wpAny_loadPart' hl
    repeat (first
      | (refine wpAny_ite_false (decide_eq_false (by rw [c0]; exact Bool.false_ne_true)) ?_; wp_walk using wpAny_loadPart' hl)
      | (refine wpAny_ite_false (decide_eq_false (by rw [c1]; exact Bool.false_ne_true)) ?_; wp_walk using wpAny_loadPart' hl)
      | (refine wpAny_ite_true (decide_eq_true (by rw [c2])) ?_; wp_walk using wpAny_loadPart' hl))
    exact ⟨_, rfl, go⟩
def rRepG (K : PySem.W.Frag) : R2 := fun x y H Q => ∃ (l : Addr) (k : Int) (xs : List V), x = .ref l ∧ y = .int k ∧ SqT K H l xs ∧ (-1000 ≤ k ∧ k ≤ 1000 ∧ xs.length ≤ 1000) ∧
  ((k = 1 ∨ xs = []) → Q (.ref l) H) ∧ (k ≠ 1 → xs ≠ [] → ∀ p, H p = none → Q (.ref p) (upd H p (.tup (List.replicate k.toNat xs).flatten)))
theorem op_repG {X : Cx} : OpR X (binaryOp .Mult) (rRepG X.K) := by
  intro pins s σ H x y v u Q I rx ry h
  obtain ⟨l, k, xs, rfl, rfl, hT, ⟨h0, h1, hz⟩, q1, q2⟩ := h
  by_cases hb : 2 ≤ k ∧ xs ≠ []
  · exact op_repT pins s σ H _ _ _ _ _ I rx ry ⟨l, k, xs, rfl, rfl, hT, hb.2, hb.1, h1, hz, q2 (by omega) hb.2⟩
  cases rx
  obtain ⟨t, rfl⟩ := ry
  obtain ⟨its, r, ⟨⟨cls, dd, data, sl⟩, ho, hc, n, hd⟩, hs⟩ := I.tuple hT
  simp only at hc hd
  subst hc hd
  have c0 : (decide (k < -(2 ^ 63)) || decide (k ≥ 2 ^ 63)) = false := by
    rw [decide_eq_false (by omega), decide_eq_false (by omega)] <;> rfl
  have hne : its.toArray.isEmpty = true ↔ xs = [] := by
    cases r with
    | nil => exact ⟨fun _ => rfl, fun _ => rfl⟩
    | cons a b => exact ⟨fun z => by simp at z, fun z => by cases z⟩
  by_cases c1 : (its.toArray.isEmpty || k == 1) = true
  · have hk : k = 1 ∨ xs = [] := by
      rcases Bool.or_eq_true _ _ ▸ c1 with z | z
      · exact .inr (hne.mp z)
      · exact .inl (beq_iff_eq.mp z)
    refine wpAny_binaryOp_repeat_ref (T := "tuple") (U := "int") (by decide) ⟨_, ho, rfl⟩ (fun s' => typeIs_int s' k t) noFill_tuple_mul F.fills_int_mul F.slot_int_rmul repeat_tuple F.slot_int_index.lookup
      (call_meets F.slot_int_rmul (typeIs_int s k t) F.entry_int_rmul (F.args_int_rmul_2 _ _) (int_rmul_tuple k t l its.toArray n dd sl)
        ⟨ho, rfl, ⟨_, ho, rfl⟩, call_meets F.slot_tuple_mul ⟨_, ho, rfl⟩ F.entry_tuple_mul (F.args_tuple_mul_2 _ _) (tmul_same l its.toArray n dd sl k t c0 c1) ⟨ho, .ref l, H, I, rfl, q1 hk⟩⟩)
  · have c1' : (its.toArray.isEmpty || k == 1) = false := by simpa using c1
    rw [Bool.or_eq_false_iff] at c1'
    have hx : xs ≠ [] := fun z => by
      rw [hne.mpr z] at c1'
      cases c1'.1
    have hk1 : k ≠ 1 := fun z => by
      have := c1'.2
      rw [z] at this
      cases this
    have hk0 : k ≤ 0 := by
      rcases Int.lt_or_le 0 k with z | z
      · exact absurd ⟨by omega, hx⟩ hb
      · exact z
    have q3 := q2 hk1 hx s.heap.objs.size (I.hok.fresh (Nat.le_refl _))
    rw [show k.toNat = 0 by omega] at q3
    refine wpAny_binaryOp_repeat_ref (T := "tuple") (U := "int") (by decide) ⟨_, ho, rfl⟩ (fun s' => typeIs_int s' k t) noFill_tuple_mul F.fills_int_mul F.slot_int_rmul repeat_tuple F.slot_int_index.lookup
      (call_meets F.slot_int_rmul (typeIs_int s k t) F.entry_int_rmul (F.args_int_rmul_2 _ _) (int_rmul_tuple k t l its.toArray n dd sl)
        ⟨ho, rfl, ⟨_, ho, rfl⟩, call_meets F.slot_tuple_mul ⟨_, ho, rfl⟩ F.entry_tuple_mul (F.args_tuple_mul_2 _ _) (tmul_none l its.toArray n dd sl k t c0 (by rw [c1'.1, c1'.2]; rfl) (by rw [decide_eq_true hk0]; rfl)) ⟨ho, ?_⟩⟩)
    refine ⟨.ref s.heap.objs.size, _, I.laid (t' := s.toks) (o := .tup (List.replicate 0 xs).flatten) (fun b ob q => Heap.get?_push_of_some _ q) (Nat.le_refl _) ?_, rfl, q3⟩
    exact ⟨Nat.zero_le _, [], .nil, IsTup.new _ _⟩
end Wn
/-! rotations -/
namespace Wn
open PySem PySem.Spec PyProof.Rows L2
def rotL (ds : List Nat) (k : Nat) : List Nat := ds.drop k ++ ds.take k
theorem rotL_len (ds : List Nat) (k : Nat) : (rotL ds k).length = ds.length := by
  unfold rotL
  rw [List.length_append, List.length_drop, List.length_take]
  omega
theorem rotL_zero (ds : List Nat) : rotL ds 0 = ds := by simp [rotL]
theorem rotL_succ {ds : List Nat} {k : Nat} (h : k < ds.length) : (rotL ds k).drop 1 ++ (rotL ds k).take 1 = rotL ds (k + 1) := by
  unfold rotL
  rw [List.drop_eq_getElem_cons h]
  simp only [List.cons_append, List.drop_succ_cons, List.drop_zero, List.take_succ_cons, List.take_zero]
  rw [List.append_assoc, List.take_succ_eq_append_getElem h]
theorem mem_rotL {ds : List Nat} {k x : Nat} (h : x ∈ rotL ds k) : x ∈ ds := by
  unfold rotL at h
  rcases List.mem_append.mp h with z | z
  · exact List.mem_of_mem_drop z
  · exact List.mem_of_mem_take z
/-- the repeating digits -/
def dgl (b n x L : Nat) : List Nat := (List.range L).map fun i => rem b n x i * b / n
theorem dgl_len (b n x L : Nat) : (dgl b n x L).length = L := by simp [dgl]
theorem rem_cyc {b n x L : Nat} (h : IsPer b n L) (i : Nat) : rem b n x (i + L) = rem b n x i := by
  unfold rem
  rw [Nat.pow_add, ← Nat.mul_assoc, Nat.mul_mod, h.2.1, ← Nat.mul_mod, Nat.mul_one]
theorem dgl_rot {b n x L k : Nat} (h : IsPer b n L) (hk : k ≤ L) : rotL (dgl b n x L) k = dgl b n (rem b n x k) L := by
  unfold rotL
  apply List.ext_getElem
  · rw [List.length_append, List.length_drop, List.length_take, dgl_len, dgl_len]
    omega
  · intro i h1 h2
    rw [dgl_len] at h2
    rw [List.getElem_append]
    split
    · rename_i hi
      rw [List.length_drop, dgl_len] at hi
      rw [List.getElem_drop]
      simp only [dgl, List.getElem_map, List.getElem_range]
      rw [rem_rem]
    · rename_i hi
      rw [List.length_drop, dgl_len] at hi
      rw [List.getElem_take]
      simp only [dgl, List.getElem_map, List.getElem_range, List.length_drop, List.length_map, List.length_range]
      rw [rem_rem, show k + i = i - (L - k) + L by omega, rem_cyc h]
theorem dgl_inj {b n x y L : Nat} (hb : 2 ≤ b) (h : IsPer b n L) (hx : x < n) (hy : y < n) (e : dgl b n x L = dgl b n y L) : x = y := by
  have hn : 1 ≤ n := by omega
  have hd : ∀ i, i < L → rem b n x i * b / n = rem b n y i * b / n := fun i hi => by
    have h1 : (dgl b n x L)[i]'(by rw [dgl_len]; exact hi) = (dgl b n y L)[i]'(by rw [dgl_len]; exact hi) := by simp only [e]
    simp only [dgl, List.getElem_map, List.getElem_range] at h1
    exact h1
  have st : ∀ z i, rem b n z i * b = n * (rem b n z i * b / n) + rem b n z (i + 1) := fun z i => by
    rw [← rem_succ]
    exact (Nat.div_add_mod _ _).symm
  -- the difference grows by the base at each step
  have key : ∀ i, i ≤ L → (rem b n x i : Int) - rem b n y i = ((x : Int) - y) * (b : Int) ^ i := by
    intro i
    induction i with
    | zero =>
      intro _
      rw [rem_zero hx, rem_zero hy]
      simp
    | succ i ih =>
      intro hi
      have h1 := ih (by omega)
      have h2 := st x i
      have h3 := st y i
      rw [hd i (by omega)] at h2
      generalize rem b n y i * b / n = q at h2 h3
      have h4 : (rem b n x i : Int) * b = n * q + rem b n x (i + 1) := by exact_mod_cast h2
      have h5 : (rem b n y i : Int) * b = n * q + rem b n y (i + 1) := by exact_mod_cast h3
      rw [Int.pow_succ, ← Int.mul_assoc, ← h1, Int.sub_mul]
      omega
  have k := key L (Nat.le_refl _)
  rw [rem_per h hx, rem_per h hy] at k
  have hL := h.1
  have hp : (2 : Int) ≤ (b : Int) ^ L := by
    have : 2 ≤ b ^ L := Nat.le_trans hb (Nat.le_self_pow (by omega) b)
    exact_mod_cast this
  have : ((x : Int) - y) * ((b : Int) ^ L - 1) = 0 := by
    rw [Int.mul_sub, Int.mul_one]
    omega
  rcases Int.mul_eq_zero.mp this with z | z <;> omega
/-- among the first ones each comes once -/
theorem rem_once {b n x L i j : Nat} (g : Nat.gcd b n = 1) (gx : Nat.gcd x n = 1) (h : IsPer b n L) (hi : i < L) (hj : j < L) (e : rem b n x i = rem b n x j) : i = j := by
  have key : ∀ {i j : Nat}, i < j → j < L → rem b n x i = rem b n x j → False := fun {i j} hij hj e => by
    have e1 : b ^ i % n = b ^ j % n := mod_cancel gx e
    have e2 : b ^ (j - i) % n = 1 % n := by
      refine mod_cancel (cop_pow g i) ?_
      rw [← Nat.pow_add, show i + (j - i) = j by omega, Nat.mul_one]
      exact e1.symm
    exact h.2.2 (j - i) (by omega) (by omega) e2
  rcases Nat.lt_trichotomy i j with z | z | z
  · exact (key z hj e).elim
  · exact z
  · exact (key z hi e.symm).elim
/-- the first place from which y comes; the period where there is none -/
def topI (b n x y L : Nat) : Nat := ((List.range L).find? fun i => decide (rem b n x i = y)).getD L
theorem topI_hit {b n x y L i : Nat} (hi : i < L) (e : rem b n x i = y) (no : ∀ j, j < i → rem b n x j ≠ y) : topI b n x y L = i := by
  unfold topI
  have : (List.range L).find? (fun i => decide (rem b n x i = y)) = some i := by
    rw [List.find?_range_eq_some]
    refine ⟨decide_eq_true e, List.mem_range.mpr hi, fun j hj => ?_⟩
    simp only [Bool.not_eq_true', decide_eq_false_iff_not]
    exact no j hj
  rw [this]
  rfl
theorem topI_miss {b n x y L : Nat} (no : ∀ j, j < L → rem b n x j ≠ y) : topI b n x y L = L := by
  unfold topI
  have : (List.range L).find? (fun i => decide (rem b n x i = y)) = none := by
    rw [List.find?_eq_none]
    intro i hi
    rw [decide_eq_true_eq]
    exact no i (List.mem_range.mp hi)
  rw [this]
  rfl
theorem topI_cases (b n x y L : Nat) : (topI b n x y L < L ∧ rem b n x (topI b n x y L) = y ∧ ∀ j, j < topI b n x y L → rem b n x j ≠ y) ∨ (topI b n x y L = L ∧ ∀ j, j < L → rem b n x j ≠ y) := by
  by_cases h : ∃ i, i < L ∧ rem b n x i = y
  · obtain ⟨i, hi, e⟩ := h
    obtain ⟨m, hm, pm, q⟩ := least (fun i => rem b n x i = y) i e
    have e1 := topI_hit (L := L) (show m < L by omega) pm (fun j hj z => q j hj z)
    rw [e1]
    exact .inl ⟨by omega, pm, fun j hj z => q j hj z⟩
  · have no : ∀ j, j < L → rem b n x j ≠ y := fun j hj z => h ⟨j, hj, z⟩
    exact .inr ⟨topI_miss no, no⟩
end Wn
/-! values of digits and of their rotations; multipliers -/
namespace Wn
open PySem PySem.Spec PyProof.Rows L2
theorem wrt_from (b : Nat) : ∀ (ds : List Nat) (f : Nat), ds.foldl (fun f d => f * b + d) f = f * b ^ ds.length + wrt b ds
  | [], f => by simp [wrt]
  | d :: r, f => by
    have h1 := wrt_from b r (f * b + d)
    have h2 := wrt_from b r (0 * b + d)
    unfold wrt at h1 h2 ⊢
    simp only [List.foldl_cons, List.length_cons]
    rw [h1, h2, Nat.pow_succ, Nat.add_mul, Nat.zero_mul, Nat.zero_add, Nat.mul_assoc, Nat.mul_comm b]
    omega
theorem wrt_cons (b x : Nat) (r : List Nat) : wrt b (x :: r) = x * b ^ r.length + wrt b r := by
  have := wrt_from b r (0 * b + x)
  rw [Nat.zero_mul, Nat.zero_add] at this
  rw [← this]
  simp [wrt]
theorem wrt_append (b : Nat) (xs ys : List Nat) : wrt b (xs ++ ys) = wrt b xs * b ^ ys.length + wrt b ys := by
  rw [← wrt_from b ys (wrt b xs)]
  simp [wrt, List.foldl_append]
theorem wrt_lt {b : Nat} : ∀ {ds : List Nat}, (∀ d ∈ ds, d < b) → wrt b ds < b ^ ds.length
  | [], _ => by simp [wrt]
  | x :: r, h => by
    have ih := wrt_lt (ds := r) fun d hd => h d (List.mem_cons_of_mem _ hd)
    have hx := h x List.mem_cons_self
    rw [wrt_cons, List.length_cons, Nat.pow_succ, Nat.mul_comm (b ^ r.length)]
    have : (x + 1) * b ^ r.length ≤ b * b ^ r.length := Nat.mul_le_mul_right _ hx
    rw [Nat.succ_mul] at this
    omega
theorem rot_at {ds : List Nat} {i : Nat} (h : i < ds.length) : rotL ds i = ds[i] :: (ds.drop (i + 1) ++ ds.take i) := by
  unfold rotL
  rw [List.drop_eq_getElem_cons h]
  rfl
theorem wrt_rot {b : Nat} {ds : List Nat} {i : Nat} (h : i < ds.length) (hb : 1 ≤ b) : ((wrt b (rotL ds i) : Nat) : Int) * (b : Int) - ((ds[i] : Nat) : Int) * (((b ^ ds.length : Nat) : Int) - 1) = ((wrt b (rotL ds (i + 1)) : Nat) : Int) := by
  have e : rotL ds (i + 1) = (ds.drop (i + 1) ++ ds.take i) ++ [ds[i]] := by
    rw [← rotL_succ h, rot_at h]
    rfl
  have hl : (ds.drop (i + 1) ++ ds.take i).length + 1 = ds.length := by
    rw [List.length_append, List.length_drop, List.length_take]
    omega
  rw [rot_at h, e, wrt_cons, wrt_snoc, ← hl]
  generalize ds.drop (i + 1) ++ ds.take i = r
  generalize wrt b r = w
  generalize ds[i] = x
  rw [Nat.pow_succ]
  generalize b ^ r.length = p
  push_cast
  rw [Int.add_mul, Int.mul_sub, Int.mul_one, Int.mul_assoc (x : Int) (p : Int) (b : Int)]
  omega
/-- k times their value is that of a rotation -/
def IsMul (b : Nat) (ds : List Nat) (k : Nat) : Prop := ∃ j, j < ds.length ∧ wrt b (rotL ds j) = k * wrt b ds
/-- those met among the first i rotations -/
def mulL (b : Nat) (ds : List Nat) (i : Nat) : List Nat := ((List.range i).filter fun j => decide (wrt b (rotL ds j) % wrt b ds = 0)).map fun j => wrt b (rotL ds j) / wrt b ds
theorem mulL_succ (b : Nat) (ds : List Nat) (i : Nat) : mulL b ds (i + 1) = mulL b ds i ++ (if wrt b (rotL ds i) % wrt b ds = 0 then [wrt b (rotL ds i) / wrt b ds] else []) := by
  unfold mulL
  rw [List.range_succ, List.filter_append, List.map_append]
  congr 1
  by_cases h : wrt b (rotL ds i) % wrt b ds = 0
  · rw [if_pos h, List.filter_cons_of_pos (by simpa using h)]
    rfl
  · rw [if_neg h, List.filter_cons_of_neg (by simpa using h)]
    rfl
theorem mulL_len (b : Nat) (ds : List Nat) (i : Nat) : (mulL b ds i).length ≤ i := by
  unfold mulL
  rw [List.length_map]
  exact Nat.le_trans (List.length_filter_le _ _) (by simp)
theorem mem_mulL {b : Nat} {ds : List Nat} {k i : Nat} (hv : 1 ≤ wrt b ds) : k ∈ mulL b ds i ↔ ∃ j, j < i ∧ wrt b (rotL ds j) = k * wrt b ds := by
  unfold mulL
  rw [List.mem_map]
  constructor
  · rintro ⟨j, hj, rfl⟩
    rw [List.mem_filter, List.mem_range, decide_eq_true_eq] at hj
    exact ⟨j, hj.1, (Nat.div_mul_cancel (Nat.dvd_of_mod_eq_zero hj.2)).symm⟩
  · rintro ⟨j, hj, e⟩
    refine ⟨j, ?_, ?_⟩
    · rw [List.mem_filter, List.mem_range, decide_eq_true_eq, e]
      exact ⟨hj, Nat.mul_mod_left _ _⟩
    · rw [e, Nat.mul_div_cancel _ hv]
/-- there are few of them -/
def Few (b : Nat) (ds : List Nat) : Prop := ∀ ks : List Nat, ks.Nodup → (∀ k ∈ ks, IsMul b ds k) → ks.length < 64
theorem nodup_sub {xs : List Nat} : ∀ {ys : List Nat}, xs.Nodup → (∀ x ∈ xs, x ∈ ys) → xs.length ≤ ys.length := by
  intro ys
  induction ys generalizing xs with
  | nil =>
    intro _ h
    cases xs with
    | nil => exact Nat.le_refl _
    | cons x r => exact absurd (h x List.mem_cons_self) (by simp)
  | cons y ys ih =>
    intro nd h
    have h1 := ih (nd.erase y) fun x hx => by
      have hm := List.mem_of_mem_erase hx
      rcases List.mem_cons.mp (h x hm) with e | e
      · subst e
        exact absurd hx (List.Nodup.not_mem_erase nd)
      · exact e
    rw [List.length_cons]
    by_cases hy : y ∈ xs
    · rw [List.length_erase_of_mem hy] at h1
      omega
    · rw [List.erase_of_not_mem hy] at h1
      omega
theorem few_of {b p : Nat} {ds : List Nat} (hv : 1 ≤ wrt b ds) (hp : p < 64) (h : ∀ j, j < ds.length → ∃ i, i < p ∧ rotL ds j = rotL ds i) : Few b ds := fun ks nd hk => by
  have := nodup_sub (ys := (List.range p).map fun i => wrt b (rotL ds i) / wrt b ds) nd fun k hm => by
    obtain ⟨j, hj, e⟩ := hk k hm
    obtain ⟨i, hi, e2⟩ := h j hj
    exact List.mem_map.mpr ⟨i, List.mem_range.mpr hi, by rw [← e2, e, Nat.mul_div_cancel _ hv]⟩
  rw [List.length_map, List.length_range] at this
  omega
theorem few_len {b : Nat} {ds : List Nat} (hv : 1 ≤ wrt b ds) (h : ds.length < 64) : Few b ds := few_of hv h fun j hj => ⟨j, hj, rfl⟩
/-- digits twice over -/
theorem rot_twice {ds : List Nat} {j : Nat} (h1 : ds.length ≤ j) (h2 : j < (ds ++ ds).length) : rotL (ds ++ ds) j = rotL (ds ++ ds) (j - ds.length) := by
  unfold rotL
  rw [List.length_append] at h2
  rw [List.drop_append, List.take_append, List.drop_append, List.take_append, List.drop_eq_nil_of_le h1, List.take_of_length_le h1, show j - ds.length - ds.length = 0 by omega]
  simp only [List.nil_append, List.drop_zero, List.take_zero, List.append_nil, List.append_assoc]
theorem few_twice {b : Nat} {ds : List Nat} (hv : 1 ≤ wrt b (ds ++ ds)) (h : ds.length < 64) : Few b (ds ++ ds) := few_of hv h fun j hj => by
  rcases Nat.lt_or_ge j ds.length with z | z
  · exact ⟨j, z, rfl⟩
  · refine ⟨j - ds.length, ?_, rot_twice z hj⟩
    rw [List.length_append] at hj
    omega
/-- a number up to 1000 has no common divisor with one of two primes -/
theorem gcd_prime {b p : Nat} (hp : ∀ g, g ≤ p → g ∣ p → g = 1 ∨ g = p) (h0 : 1 ≤ p) (h : Nat.gcd b p ≠ 1) : p ∣ b := by
  rcases hp _ (Nat.le_of_dvd h0 (Nat.gcd_dvd_right b p)) (Nat.gcd_dvd_right b p) with e | e
  · exact absurd e h
  · rw [← e]
    exact Nat.gcd_dvd_left b p
theorem cop_two {b p q : Nat} (hb : 1 ≤ b) (hp : ∀ g, g ≤ p → g ∣ p → g = 1 ∨ g = p) (hq : ∀ g, g ≤ q → g ∣ q → g = 1 ∨ g = q) (p0 : 1 ≤ p) (q0 : 1 ≤ q) (c : Nat.gcd p q = 1) (hl : b < p * q) : Nat.gcd b p = 1 ∨ Nat.gcd b q = 1 := by
  by_cases h1 : Nat.gcd b p = 1
  · exact .inl h1
  · by_cases h2 : Nat.gcd b q = 1
    · exact .inr h2
    · have := Nat.le_of_dvd hb (Nat.Coprime.mul_dvd_of_dvd_of_dvd c (gcd_prime hp p0 h1) (gcd_prime hq q0 h2))
      omega
theorem cop_43_47 {b : Nat} (h1 : 1 ≤ b) (h2 : b ≤ 1000) : Nat.gcd b 43 = 1 ∨ Nat.gcd b 47 = 1 := cop_two h1 (by decide) (by decide) (by decide) (by decide) (by decide) (by omega)
/-- two ascending rows of numbers with the same members -/
theorem ascN_eq {xs ys : List Nat} (hx : xs.Pairwise (· < ·)) (hy : ys.Pairwise (· < ·)) (h : ∀ k, k ∈ xs ↔ k ∈ ys) : xs = ys := by
  have key : ∀ {zs : List Nat}, zs.Pairwise (· < ·) → (ni zs).Pairwise (· < ·) := fun hz => List.Pairwise.map _ (fun a b h => by omega) hz
  have := asc_eq (key hx) (key hy) fun k => by
    unfold ni
    rw [List.mem_map, List.mem_map]
    exact ⟨fun ⟨a, ha, e⟩ => ⟨a, (h a).mp ha, e⟩, fun ⟨a, ha, e⟩ => ⟨a, (h a).mpr ha, e⟩⟩
  unfold ni at this
  exact (List.map_inj_right (fun a b e => by omega)).mp this
/-- rows of whole numbers whose members are natural ones -/
theorem ni_of : ∀ {zs : List Int}, (∀ k ∈ zs, 0 ≤ k) → ∃ xs : List Nat, zs = ni xs
  | [], _ => ⟨[], rfl⟩
  | z :: zs, h => by
    obtain ⟨xs, e⟩ := ni_of (zs := zs) fun k hk => h k (List.mem_cons_of_mem _ hk)
    have := h z List.mem_cons_self
    exact ⟨z.toNat :: xs, by rw [e]; show z :: ni xs = ((z.toNat : Nat) : Int) :: ni xs; rw [Int.toNat_of_nonneg this]⟩
theorem mem_ni {xs : List Nat} {k : Nat} : ((k : Nat) : Int) ∈ ni xs ↔ k ∈ xs := by
  unfold ni
  rw [List.mem_map]
  constructor
  · rintro ⟨a, ha, e⟩
    rw [show k = a by omega]
    exact ha
  · exact fun h => ⟨k, h, rfl⟩
end Wn
/-! primes of a number with their exponents -/
namespace Wn
open PySem PySem.Spec PyProof.Rows L2
def isP (p : Nat) : Bool := decide (2 ≤ p) && (List.range p).all fun q => decide (q < 2) || decide (p % q ≠ 0)
theorem isP_iff {p : Nat} : isP p = true ↔ 2 ≤ p ∧ ∀ q, 2 ≤ q → q < p → ¬ q ∣ p := by
  unfold isP
  simp only [Bool.and_eq_true, decide_eq_true_eq, List.all_eq_true, List.mem_range, Bool.or_eq_true]
  constructor
  · rintro ⟨h1, h2⟩
    refine ⟨h1, fun q q1 q2 d => ?_⟩
    rcases h2 q q2 with z | z
    · omega
    · exact z (Nat.mod_eq_zero_of_dvd d)
  · rintro ⟨h1, h2⟩
    refine ⟨h1, fun q q2 => ?_⟩
    by_cases z : q < 2
    · exact .inl z
    · exact .inr fun e => h2 q (by omega) q2 (Nat.dvd_of_mod_eq_zero e)
theorem isP_dvd {p g : Nat} (h : isP p = true) (d : g ∣ p) : g = 1 ∨ g = p := by
  obtain ⟨h1, h2⟩ := isP_iff.mp h
  have hg : g ≤ p := Nat.le_of_dvd (by omega) d
  have h0 : 1 ≤ g := Nat.pos_of_ne_zero fun z => by rw [z] at d; have := Nat.eq_zero_of_zero_dvd d; omega
  by_cases e1 : g = 1
  · exact .inl e1
  · by_cases e2 : g = p
    · exact .inr e2
    · exact absurd d (h2 g (by omega) (by omega))
theorem isP_cop {p a : Nat} (h : isP p = true) (hn : ¬ p ∣ a) : Nat.gcd p a = 1 := by
  rcases isP_dvd h (Nat.gcd_dvd_left p a) with e | e
  · exact e
  · exact absurd (e ▸ Nat.gcd_dvd_right p a) hn
/-- how often p divides -/
def vlF (p : Nat) : Nat → Nat → Nat
  | 0, _ => 0
  | f + 1, n => if n % p = 0 then vlF p f (n / p) + 1 else 0
def vl (p n : Nat) : Nat := vlF p n n
theorem vlF_spec {p : Nat} (hp : 2 ≤ p) : ∀ f n, n ≤ f → 1 ≤ n → p ^ vlF p f n ∣ n ∧ ¬ p ^ (vlF p f n + 1) ∣ n
  | 0, n, h1, h2 => by omega
  | f + 1, n, h1, h2 => by
    unfold vlF
    by_cases h : n % p = 0
    · rw [if_pos h]
      obtain ⟨m, rfl⟩ := Nat.dvd_of_mod_eq_zero h
      rw [Nat.mul_div_cancel_left m (by omega)]
      have hm : 1 ≤ m := Nat.pos_of_ne_zero fun z => by rw [z] at h2; omega
      have hm2 : m < p * m := by
        have : 2 * m ≤ p * m := Nat.mul_le_mul_right _ hp
        omega
      obtain ⟨a, b⟩ := vlF_spec hp f m (by omega) hm
      refine ⟨?_, fun d => b ?_⟩
      · rw [Nat.pow_succ, Nat.mul_comm]
        exact Nat.mul_dvd_mul_left p a
      · rw [Nat.pow_succ, Nat.mul_comm] at d
        exact Nat.dvd_of_mul_dvd_mul_left (by omega) d
    · rw [if_neg h]
      refine ⟨by simp, fun d => h ?_⟩
      rw [Nat.zero_add, Nat.pow_one] at d
      exact Nat.mod_eq_zero_of_dvd d
theorem vl_spec {p n : Nat} (hp : 2 ≤ p) (hn : 1 ≤ n) : p ^ vl p n ∣ n ∧ ¬ p ^ (vl p n + 1) ∣ n := vlF_spec hp n n (Nat.le_refl _) hn
theorem vl_of {p n e : Nat} (hp : 2 ≤ p) (hn : 1 ≤ n) (h1 : p ^ e ∣ n) (h2 : ¬ p ^ (e + 1) ∣ n) : vl p n = e := by
  obtain ⟨a, b⟩ := vl_spec hp hn
  apply Nat.le_antisymm
  · apply Nat.le_of_not_lt
    intro l
    exact h2 (Nat.dvd_trans (Nat.pow_dvd_pow p l) a)
  · apply Nat.le_of_not_lt
    intro l
    exact b (Nat.dvd_trans (Nat.pow_dvd_pow p l) h1)
def fpp (n p : Nat) : Option (Nat × Nat) := if n % p = 0 ∧ isP p = true then some (p, vl p n) else none
def ppU (n k : Nat) : List (Nat × Nat) := (List.range k).filterMap (fpp n)
def ppL (n : Nat) : List (Nat × Nat) := ppU n (n + 1)
theorem ppU_succ (n k : Nat) : ppU n (k + 1) = ppU n k ++ (match fpp n k with | some r => [r] | none => []) := by
  unfold ppU
  rw [List.range_succ, List.filterMap_append]
  congr 1
  cases h : fpp n k <;> simp [h]
theorem ppU_skip {n k : Nat} : ∀ {m}, k ≤ m → (∀ p, k ≤ p → p < m → fpp n p = none) → ppU n m = ppU n k
  | 0, h, _ => by rw [show k = 0 by omega]
  | m + 1, h, hs => by
    rcases Nat.lt_or_eq_of_le h with z | z
    · rw [ppU_succ, hs m (by omega) (Nat.lt_succ_self m), List.append_nil, ppU_skip (by omega) fun p h1 h2 => hs p h1 (by omega)]
    · rw [z]
theorem ppU_len {n : Nat} : ∀ k, (ppU n k).length ≤ k := fun k => by
  unfold ppU
  refine Nat.le_trans (List.length_filterMap_le _ _) ?_
  rw [List.length_range]
  exact Nat.le_refl _
/-- what is left when all below k have been taken out -/
structure Left (n left k : Nat) : Prop where
  pos : 1 ≤ left
  dv : left ∣ n
  low : ∀ q, 2 ≤ q → q < k → ¬ q ∣ left
  same : ∀ q e, k ≤ q → isP q = true → (q ^ e ∣ left ↔ q ^ e ∣ n)
theorem Left.start {n : Nat} (hn : 1 ≤ n) : Left n n 2 := ⟨hn, Nat.dvd_refl _, fun q h1 h2 => by omega, fun _ _ _ _ => Iff.rfl⟩
theorem Left.ge {n left k : Nat} (L : Left n left k) (h : 1 < left) : k ≤ left := by
  apply Nat.le_of_not_lt
  intro z
  exact L.low left h z (Nat.dvd_refl _)
theorem Left.prime {n left k p : Nat} (L : Left n left k) (hk : 2 ≤ p) (hp : p ≤ k) (d : p ∣ left) : isP p = true := isP_iff.mpr ⟨hk, fun q h1 h2 d2 => L.low q h1 (by omega) (Nat.dvd_trans d2 d)⟩
/-- what is left has no divisor below its root: it is a prime itself -/
theorem Left.jump {n left k : Nat} (L : Left n left k) (hk : 2 ≤ k) (h : 1 < left) (h2 : left < k * k) : isP left = true ∧ Left n left left ∧ ∀ p, k ≤ p → p < left → fpp n p = none := by
  have hP : Wn.isP left = true := isP_iff.mpr ⟨h, fun q h1 h3 d => by
    obtain ⟨m, rfl⟩ := d
    have hm : 1 ≤ m := Nat.pos_of_ne_zero fun z => by rw [z] at h; omega
    have hm2 : 2 ≤ m := by
      rcases Nat.lt_or_ge m 2 with z | z
      · have : m = 1 := by omega
        rw [this] at h3
        omega
      · exact z
    have a1 : k ≤ q := Nat.le_of_not_lt fun z => L.low q h1 z (Nat.dvd_mul_right _ _)
    have a2 : k ≤ m := Nat.le_of_not_lt fun z => L.low m hm2 z (Nat.dvd_mul_left _ _)
    have := Nat.mul_le_mul a1 a2
    omega⟩
  have hge := L.ge h
  refine ⟨hP, ⟨L.pos, L.dv, fun q h1 h3 => (isP_iff.mp hP).2 q h1 h3, fun q e h1 => L.same q e (by omega)⟩, fun p h1 h3 => ?_⟩
  unfold fpp
  rw [if_neg]
  rintro ⟨h4, h5⟩
  have := (L.same p 1 h1 h5).mpr (by rw [Nat.pow_one]; exact Nat.dvd_of_mod_eq_zero h4)
  rw [Nat.pow_one] at this
  exact (isP_iff.mp hP).2 p (isP_iff.mp h5).1 h3 this
/-- p taken out e times -/
theorem Left.next {n left k r e : Nat} (L : Left n left k) (hn : 1 ≤ n) (hk : 2 ≤ k) (h : left = r * k ^ e) (hr : ¬ k ∣ r) : Left n r (k + 1) ∧ fpp n k = if e = 0 then none else some (k, e) := by
  have hr1 : 1 ≤ r := Nat.pos_of_ne_zero fun z => by have := L.pos; rw [h, z] at this; omega
  have rl : r ∣ left := ⟨k ^ e, h⟩
  refine ⟨⟨hr1, Nat.dvd_trans rl L.dv, fun q h1 h2 d => ?_, fun q c h1 hq => ?_⟩, ?_⟩
  · rcases Nat.lt_or_eq_of_le (show q ≤ k by omega) with z | z
    · exact L.low q h1 z (Nat.dvd_trans d rl)
    · exact hr (z ▸ d)
  · rw [← L.same q c (by omega) hq]
    constructor
    · exact fun d => Nat.dvd_trans d rl
    · intro d
      rw [h] at d
      refine Nat.Coprime.dvd_of_dvd_mul_right ?_ d
      refine Nat.Coprime.pow_left c (Nat.Coprime.pow_right e ?_)
      refine isP_cop hq fun d2 => ?_
      have := Nat.le_of_dvd (by omega) d2
      omega
  · by_cases e0 : e = 0
    · rw [if_pos e0]
      unfold fpp
      rw [if_neg]
      rintro ⟨h4, h5⟩
      have := (L.same k 1 (Nat.le_refl _) h5).mpr (by rw [Nat.pow_one]; exact Nat.dvd_of_mod_eq_zero h4)
      rw [Nat.pow_one, h, e0, Nat.pow_zero, Nat.mul_one] at this
      exact hr this
    · rw [if_neg e0]
      have dk : k ∣ left := by
        rw [h]
        exact Nat.dvd_trans (show k ∣ k ^ e by rw [show e = (e - 1) + 1 by omega, Nat.pow_succ]; exact Nat.dvd_mul_left _ _) (Nat.dvd_mul_left _ _)
      have hP := L.prime hk (Nat.le_refl _) dk
      have d1 : k ∣ n := Nat.dvd_trans dk L.dv
      unfold fpp
      rw [if_pos ⟨Nat.mod_eq_zero_of_dvd d1, hP⟩]
      congr 2
      refine vl_of hk hn ?_ fun d => ?_
      · exact (L.same k e (Nat.le_refl _) hP).mp (by rw [h]; exact Nat.dvd_mul_left _ _)
      · have d2 := (L.same k (e + 1) (Nat.le_refl _) hP).mpr d
        rw [h, Nat.pow_succ, Nat.mul_comm r] at d2
        exact hr (Nat.dvd_of_mul_dvd_mul_left (Nat.pow_pos (by omega)) d2)
end Wn
namespace Wn
open PySem PySem.Spec PyProof.Rows L2
local macro_rules | `(tactic| walk_at "vc") => `(tactic| simp only [cxK, cxK2, start1, start2, start3, tRet, tRetN, tSeq, tNext, tIfS, tAsg, gName, tDrop, tVar, tC, tOp, tUn, tTest, tB, tNot, tAnd, tOr, tAndV, tOrV, tNotV, tIf, tCons, tNil, tCB, tCall, tChain, tAug, ipI, rI, rI0, rU, rIs, rGcd, rEq, rNe, scal,
  List.getElem?_cons_zero, List.getElem?_cons_succ, List.set_cons_zero, List.set_cons_succ, Option.some.injEq, List.cons.injEq, V.int.injEq, V.bl.injEq, V.ref.injEq, V.str.injEq, and_true, true_and, exists_eq_left, exists_eq_left', exists_and_left, exists_and_right, List.append_nil, List.nil_append, List.cons_append, exists_eq_right, exists_eq_right', and_assoc, exists_const, V.ty.injEq, ↓reduceIte, Bool.false_eq_true, Bool.not_true, Bool.not_false, decide_eq_true_eq])
def topS (i : Nat) : Stmt := PySem.Challenge.pw_wheelnines_k24_known_fractions.main.body.getD i (.Pass ⟨0, 0, 0, 0⟩)
abbrev s_is_integer : Stmt := topS 12
theorem sc_is_integer : FnScope ["value"] ["value"] (defScope s_is_integer) := ⟨rfl, rfl, rfl, by decide +kernel, rfl, by decide +kernel, by decide +kernel⟩
abbrev s_is_within : Stmt := topS 13
theorem sc_is_within : FnScope ["value", "low", "high"] ["value", "low", "high"] (defScope s_is_within) := ⟨rfl, rfl, rfl, by decide +kernel, rfl, by decide +kernel, by decide +kernel⟩
abbrev s_need_base : Stmt := topS 14
theorem sc_need_base : FnScope ["value"] ["value"] (defScope s_need_base) := ⟨rfl, rfl, rfl, by decide +kernel, rfl, by decide +kernel, by decide +kernel⟩
abbrev s_need_denominator : Stmt := topS 15
theorem sc_need_denominator : FnScope ["value"] ["value"] (defScope s_need_denominator) := ⟨rfl, rfl, rfl, by decide +kernel, rfl, by decide +kernel, by decide +kernel⟩
abbrev s_need_fraction : Stmt := topS 16
theorem sc_need_fraction : FnScope ["value", "numerator", "denominator"] ["value"] (defScope s_need_fraction) := ⟨rfl, rfl, rfl, by decide +kernel, rfl, by decide +kernel, by decide +kernel⟩
abbrev s_need_pure : Stmt := topS 17
theorem sc_need_pure : FnScope ["base", "denominator"] ["base", "denominator"] (defScope s_need_pure) := ⟨rfl, rfl, rfl, by decide +kernel, rfl, by decide +kernel, by decide +kernel⟩
abbrev s_need_pure_fraction : Stmt := topS 18
theorem sc_need_pure_fraction : FnScope ["base", "fraction"] ["base", "fraction"] (defScope s_need_pure_fraction) := ⟨rfl, rfl, rfl, by decide +kernel, rfl, by decide +kernel, by decide +kernel⟩
abbrev s_pure_part : Stmt := topS 19
theorem sc_pure_part : FnScope ["base", "denominator", "pure", "common"] ["base", "denominator"] (defScope s_pure_part) := ⟨rfl, rfl, rfl, by decide +kernel, rfl, by decide +kernel, by decide +kernel⟩
abbrev s_period : Stmt := topS 20
theorem sc_period : FnScope ["base", "denominator", "pure", "one", "rest", "size"] ["base", "denominator"] (defScope s_period) := ⟨rfl, rfl, rfl, by decide +kernel, rfl, by decide +kernel, by decide +kernel⟩
abbrev s_head_size : Stmt := topS 21
theorem sc_head_size : FnScope ["base", "denominator", "impure", "rest", "size"] ["base", "denominator"] (defScope s_head_size) := ⟨rfl, rfl, rfl, by decide +kernel, rfl, by decide +kernel, by decide +kernel⟩
abbrev s_power : Stmt := topS 22
theorem sc_power : FnScope ["number", "exponent", "result", "_"] ["number", "exponent"] (defScope s_power) := ⟨rfl, rfl, rfl, by decide +kernel, rfl, by decide +kernel, by decide +kernel⟩
abbrev s_power_rest : Stmt := topS 23
theorem sc_power_rest : FnScope ["number", "exponent", "divisor", "rest", "square", "left"] ["number", "exponent", "divisor"] (defScope s_power_rest) := ⟨rfl, rfl, rfl, by decide +kernel, rfl, by decide +kernel, by decide +kernel⟩
abbrev s_prime_powers : Stmt := topS 24
theorem sc_prime_powers : FnScope ["number", "rows", "left", "prime", "exponent"] ["number"] (defScope s_prime_powers) := ⟨rfl, rfl, rfl, by decide +kernel, rfl, by decide +kernel, by decide +kernel⟩
abbrev s_are_digits : Stmt := topS 28
theorem sc_are_digits : FnScope ["base", "value", "least", "digit"] ["base", "value", "least"] (defScope s_are_digits) := ⟨rfl, rfl, rfl, by decide +kernel, rfl, by decide +kernel, by decide +kernel⟩
abbrev s_need_digits : Stmt := topS 29
theorem sc_need_digits : FnScope ["base", "value"] ["base", "value"] (defScope s_need_digits) := ⟨rfl, rfl, rfl, by decide +kernel, rfl, by decide +kernel, by decide +kernel⟩
abbrev s_number_of : Stmt := topS 30
theorem sc_number_of : FnScope ["base", "row", "number", "digit"] ["base", "row"] (defScope s_number_of) := ⟨rfl, rfl, rfl, by decide +kernel, rfl, by decide +kernel, by decide +kernel⟩
abbrev s_value_of : Stmt := topS 31
theorem sc_value_of : FnScope ["base", "digits"] ["base", "digits"] (defScope s_value_of) := ⟨rfl, rfl, rfl, by decide +kernel, rfl, by decide +kernel, by decide +kernel⟩
abbrev s_divided : Stmt := topS 32
theorem sc_divided : FnScope ["base", "remainder", "denominator", "count", "row", "rest", "_"] ["base", "remainder", "denominator", "count"] (defScope s_divided) := ⟨rfl, rfl, rfl, by decide +kernel, rfl, by decide +kernel, by decide +kernel⟩
abbrev s_expansion : Stmt := topS 33
theorem sc_expansion : FnScope ["base", "fraction", "numerator", "denominator", "size", "row"] ["base", "fraction"] (defScope s_expansion) := ⟨rfl, rfl, rfl, by decide +kernel, rfl, by decide +kernel, by decide +kernel⟩
abbrev s_remainder_at : Stmt := topS 34
theorem sc_remainder_at : FnScope ["base", "fraction", "place", "numerator", "denominator"] ["base", "fraction", "place"] (defScope s_remainder_at) := ⟨rfl, rfl, rfl, by decide +kernel, rfl, by decide +kernel, by decide +kernel⟩
abbrev s_digits_from : Stmt := topS 35
theorem sc_digits_from : FnScope ["base", "fraction", "place", "count", "remainder"] ["base", "fraction", "place", "count"] (defScope s_digits_from) := ⟨rfl, rfl, rfl, by decide +kernel, rfl, by decide +kernel, by decide +kernel⟩
abbrev s_piece_size : Stmt := topS 37
theorem sc_piece_size : FnScope ["base", "denominator", "cut", "size"] ["base", "denominator", "cut"] (defScope s_piece_size) := ⟨rfl, rfl, rfl, by decide +kernel, rfl, by decide +kernel, by decide +kernel⟩
abbrev s_spaced : Stmt := topS 38
theorem sc_spaced : FnScope ["base", "fraction", "size", "count", "numerator", "denominator", "step", "rests", "rest", "_"] ["base", "fraction", "size", "count"] (defScope s_spaced) := ⟨rfl, rfl, rfl, by decide +kernel, rfl, by decide +kernel, by decide +kernel⟩
abbrev s_pieces : Stmt := topS 39
theorem sc_pieces : FnScope ["base", "fraction", "cut", "size", "repetend", "at"] ["base", "fraction", "cut"] (defScope s_pieces) := ⟨rfl, rfl, rfl, by decide +kernel, rfl, by decide +kernel, by decide +kernel⟩
abbrev s_quotient : Stmt := topS 40
theorem sc_quotient : FnScope ["base", "fraction", "cut", "size", "total"] ["base", "fraction", "cut"] (defScope s_quotient) := ⟨rfl, rfl, rfl, by decide +kernel, rfl, by decide +kernel, by decide +kernel⟩
abbrev s_is_balanced_with : Stmt := topS 41
theorem sc_is_balanced_with : FnScope ["base", "denominator", "size", "cut"] ["base", "denominator", "size", "cut"] (defScope s_is_balanced_with) := ⟨rfl, rfl, rfl, by decide +kernel, rfl, by decide +kernel, by decide +kernel⟩
abbrev s_is_balanced : Stmt := topS 42
theorem sc_is_balanced : FnScope ["base", "denominator", "cut"] ["base", "denominator", "cut"] (defScope s_is_balanced) := ⟨rfl, rfl, rfl, by decide +kernel, rfl, by decide +kernel, by decide +kernel⟩
abbrev s_shows_imbalance : Stmt := topS 43
theorem sc_shows_imbalance : FnScope ["base", "denominator", "size", "cut", "row", "prime", "exponent"] ["base", "denominator", "size", "cut", "row"] (defScope s_shows_imbalance) := ⟨rfl, rfl, rfl, by decide +kernel, rfl, by decide +kernel, by decide +kernel⟩
abbrev s_balance_paper : Stmt := topS 44
theorem sc_balance_paper : FnScope ["base", "denominator", "cut", "size", "rows", "row"] ["base", "denominator", "cut"] (defScope s_balance_paper) := ⟨rfl, rfl, rfl, by decide +kernel, rfl, by decide +kernel, by decide +kernel⟩
abbrev s_cuts : Stmt := topS 45
theorem sc_cuts : FnScope ["base", "denominator", "size", "divisors", "cut"] ["base", "denominator"] (defScope s_cuts) := ⟨rfl, rfl, rfl, by decide +kernel, rfl, by decide +kernel, by decide +kernel⟩
abbrev s_multipliers : Stmt := topS 47
theorem sc_multipliers : FnScope ["base", "digits", "number", "nines", "found", "turned", "digit"] ["base", "digits"] (defScope s_multipliers) := ⟨rfl, rfl, rfl, by decide +kernel, rfl, by decide +kernel, by decide +kernel⟩
abbrev s_is_cyclic : Stmt := topS 48
theorem sc_is_cyclic : FnScope ["base", "digits"] ["base", "digits"] (defScope s_is_cyclic) := ⟨rfl, rfl, rfl, by decide +kernel, rfl, by decide +kernel, by decide +kernel⟩
abbrev s_wheel : Stmt := topS 50
theorem sc_wheel : FnScope ["base", "fraction"] ["base", "fraction"] (defScope s_wheel) := ⟨rfl, rfl, rfl, by decide +kernel, rfl, by decide +kernel, by decide +kernel⟩
abbrev s_wheels : Stmt := topS 51
theorem sc_wheels : FnScope ["base", "denominator", "met", "least", "numerator", "rest"] ["base", "denominator"] (defScope s_wheels) := ⟨rfl, rfl, rfl, by decide +kernel, rfl, by decide +kernel, by decide +kernel⟩
abbrev s_rotation : Stmt := topS 52
theorem sc_rotation : FnScope ["base", "fraction", "other", "steps", "rest"] ["base", "fraction", "other"] (defScope s_rotation) := ⟨rfl, rfl, rfl, by decide +kernel, rfl, by decide +kernel, by decide +kernel⟩
abbrev s_law_ten_right : Stmt := topS 54
theorem sc_law_ten_right : FnScope ["ring", "told", "due", "x"] [] (defScope s_law_ten_right) := ⟨rfl, rfl, rfl, by decide +kernel, rfl, by decide +kernel, by decide +kernel⟩
abbrev s_law_bases_right : Stmt := topS 55
theorem sc_law_bases_right : FnScope ["told"] [] (defScope s_law_bases_right) := ⟨rfl, rfl, rfl, by decide +kernel, rfl, by decide +kernel, by decide +kernel⟩
abbrev s_law : Stmt := topS 56
theorem sc_law : FnScope ["script"] ["script"] (defScope s_law) := ⟨rfl, rfl, rfl, by decide +kernel, rfl, by decide +kernel, by decide +kernel⟩
def clsB (st : Stmt) (j : Nat) : Stmt := match st with
  | .ClassDef (body := b) .. => b.getD j (.Pass ⟨0, 0, 0, 0⟩)
  | _ => .Pass ⟨0, 0, 0, 0⟩
structure Txt (K : PySem.W.Frag) (mg : Str → Option Value) where
  d_is_integer : Dn K mg "is_integer" s_is_integer ["value"]
  d_is_within : Dn K mg "is_within" s_is_within ["value", "low", "high"]
  d_need_base : Dn K mg "need_base" s_need_base ["value"]
  d_need_denominator : Dn K mg "need_denominator" s_need_denominator ["value"]
  d_need_fraction : Dn K mg "need_fraction" s_need_fraction ["value"]
  d_need_pure : Dn K mg "need_pure" s_need_pure ["base", "denominator"]
  d_need_pure_fraction : Dn K mg "need_pure_fraction" s_need_pure_fraction ["base", "fraction"]
  d_pure_part : Dn K mg "pure_part" s_pure_part ["base", "denominator"]
  d_period : Dn K mg "period" s_period ["base", "denominator"]
  d_head_size : Dn K mg "head_size" s_head_size ["base", "denominator"]
  d_power : Dn K mg "power" s_power ["number", "exponent"]
  d_power_rest : Dn K mg "power_rest" s_power_rest ["number", "exponent", "divisor"]
  d_prime_powers : Dn K mg "prime_powers" s_prime_powers ["number"]
  d_are_digits : Dn K mg "are_digits" s_are_digits ["base", "value", "least"]
  d_need_digits : Dn K mg "need_digits" s_need_digits ["base", "value"]
  d_number_of : Dn K mg "number_of" s_number_of ["base", "row"]
  d_value_of : Dn K mg "value_of" s_value_of ["base", "digits"]
  d_divided : Dn K mg "divided" s_divided ["base", "remainder", "denominator", "count"]
  d_expansion : Dn K mg "expansion" s_expansion ["base", "fraction"]
  d_remainder_at : Dn K mg "remainder_at" s_remainder_at ["base", "fraction", "place"]
  d_digits_from : Dn K mg "digits_from" s_digits_from ["base", "fraction", "place", "count"]
  d_piece_size : Dn K mg "piece_size" s_piece_size ["base", "denominator", "cut"]
  d_spaced : Dn K mg "spaced" s_spaced ["base", "fraction", "size", "count"]
  d_pieces : Dn K mg "pieces" s_pieces ["base", "fraction", "cut"]
  d_quotient : Dn K mg "quotient" s_quotient ["base", "fraction", "cut"]
  d_is_balanced_with : Dn K mg "is_balanced_with" s_is_balanced_with ["base", "denominator", "size", "cut"]
  d_is_balanced : Dn K mg "is_balanced" s_is_balanced ["base", "denominator", "cut"]
  d_shows_imbalance : Dn K mg "shows_imbalance" s_shows_imbalance ["base", "denominator", "size", "cut", "row"]
  d_balance_paper : Dn K mg "balance_paper" s_balance_paper ["base", "denominator", "cut"]
  d_cuts : Dn K mg "cuts" s_cuts ["base", "denominator"]
  d_multipliers : Dn K mg "multipliers" s_multipliers ["base", "digits"]
  d_is_cyclic : Dn K mg "is_cyclic" s_is_cyclic ["base", "digits"]
  d_wheel : Dn K mg "wheel" s_wheel ["base", "fraction"]
  d_wheels : Dn K mg "wheels" s_wheels ["base", "denominator"]
  d_rotation : Dn K mg "rotation" s_rotation ["base", "fraction", "other"]
  d_law_ten_right : Dn K mg "_law_ten_right" s_law_ten_right []
  d_law_bases_right : Dn K mg "_law_bases_right" s_law_bases_right []
  d_law : Dn K mg "law" s_law ["script"]
  b_isinstance : mg "isinstance" = none
  b_int : mg "int" = none
  b_bool : mg "bool" = none
  b_len : mg "len" = none
  b_range : mg "range" = none
  b_tuple : mg "tuple" = none
  b_sum : mg "sum" = none
  b_enumerate : mg "enumerate" = none
  b_sorted : mg "sorted" = none
  b_all : mg "all" = none
  b_LookupError : mg "LookupError" = none
  b_set : mg "set" = none
  b_gcd : mg "gcd" = some (.builtin "math.gcd")
  t_MOST_BASE : Tok
  c_MOST_BASE : mg "MOST_BASE" = some (.int 1000 t_MOST_BASE)
  t_MOST_DENOMINATOR : Tok
  c_MOST_DENOMINATOR : mg "MOST_DENOMINATOR" = some (.int 5000 t_MOST_DENOMINATOR)
  t_MOST_DIGITS : Tok
  c_MOST_DIGITS : mg "MOST_DIGITS" = some (.int 400 t_MOST_DIGITS)
  t_LAST_PLACE : Tok
  c_LAST_PLACE : mg "LAST_PLACE" = some (.int 1000000000000000000000000000000 t_LAST_PLACE)
section
variable {P : Program} {w : World} {K : PySem.W.Frag} {mg : Str → Option Value} {base : Heap}

def BN (b n : Nat) : Prop := 2 ≤ b ∧ b ≤ 1000 ∧ 1 ≤ n ∧ n ≤ 5000
def sp_is_integer : Sp := fun vs H Q _ => ∃ i : Int, vs = [.int i] ∧ Q (.bl true) H
def sp_is_within : Sp := fun vs H Q _ => ∃ i lo hi : Int, vs = [.int i, .int lo, .int hi] ∧ (lo ≤ i ∧ i ≤ hi) ∧ Q (.bl true) H
def sp_need_base : Sp := fun vs H Q _ => ∃ i : Int, vs = [.int i] ∧ (2 ≤ i ∧ i ≤ 1000) ∧ Q (.int i) H
def sp_need_denominator : Sp := fun vs H Q _ => ∃ i : Int, vs = [.int i] ∧ (1 ≤ i ∧ i ≤ 5000) ∧ Q (.int i) H
def sp_need_fraction : Sp := fun vs H Q _ => ∃ (a : Addr) (x n : Nat), vs = [.ref a] ∧ H a = some (.tup [.int x, .int n]) ∧ (x < n ∧ n ≤ 5000 ∧ Nat.gcd x n = 1) ∧ Q (.ref a) H
def sp_pure_part : Sp := fun vs H Q _ => ∃ b n : Nat, vs = [.int b, .int n] ∧ BN b n ∧ ∀ p : Nat, IsPure b n p → Q (.int p) H
def sp_period : Sp := fun vs H Q _ => ∃ b n : Nat, vs = [.int b, .int n] ∧ BN b n ∧ ∀ p d : Nat, IsPure b n p → IsPer b p d → Q (.int d) H
def sp_head_size : Sp := fun vs H Q _ => ∃ b n : Nat, vs = [.int b, .int n] ∧ BN b n ∧ ∀ p q h : Nat, IsPure b n p → n = p * q → IsHead b q h → Q (.int h) H
theorem ok_is_integer (T : Txt K mg) : FnOk P w K mg base CX0 1 T.d_is_integer.f T.d_is_integer.fd ["value"] sp_is_integer := by
  refine T.d_is_integer.F.ok sc_is_integer (fun vs H Q E h => ?_) (fun cdv A outer s H vs Q E hr h => ?_)
  · obtain ⟨i, rfl, _⟩ := h; rfl
  · have hu := hu_of hr
    refine ⟨_, (pss_one (ps_ret (pe_and (pe_callB (r := rIs K) call_is (by rfl) T.b_isinstance (by decide +kernel) (pa_cons (pv 0) (pa_cons (pe_bltn (v := .ty "int") (by rfl) T.b_int (by decide +kernel) rfl) pa_nil))) (pe_one (pe_not (pe_callB (r := rIs K) call_is (by rfl) T.b_isinstance (by decide +kernel) (pa_cons (pv 0) (pa_cons (pe_bltn (v := .ty "bool") (by rfl) T.b_bool (by decide +kernel) rfl) pa_nil)))))))), ?_⟩
    obtain ⟨i, rfl, q⟩ := h
    walk_at "vc"
    refine ⟨"int", ty_int, by decide, by decide, iteT ⟨"int", ty_int, by decide, by decide, q⟩⟩
theorem ok_is_within (T : Txt K mg) : FnOk P w K mg base CX0 2 T.d_is_within.f T.d_is_within.fd ["value", "low", "high"] sp_is_within := by
  refine T.d_is_within.F.ok sc_is_within (fun vs H Q E h => ?_) (fun cdv A outer s H vs Q E hr h => ?_)
  · obtain ⟨i, lo, hi, rfl, _⟩ := h; rfl
  · have hu := hu_of hr
    refine ⟨_, (pss_one (ps_ret (pe_and (pe_call (ok_is_integer T) (hr.mono (by decide)) (by rfl) T.d_is_integer.m T.d_is_integer.F.kp T.d_is_integer.b .nil pass0 (pa_cons (pv 0) pa_nil)) (pe_one (pe_chain op_le op_le (pv 1) (pv 0) (pv 2)))))), ?_⟩
    obtain ⟨i, lo, hi, rfl, ⟨h1, h2⟩, q⟩ := h
    refine ⟨_, rfl, i, rfl, true, rfl, iteT ?_⟩
    walk_at "vc"
    rw [if_pos h1, decide_eq_true h2]
    exact q
theorem ok_need_base (T : Txt K mg) : FnOk P w K mg base CX0 3 T.d_need_base.f T.d_need_base.fd ["value"] sp_need_base := by
  refine T.d_need_base.F.ok sc_need_base (fun vs H Q E h => ?_) (fun cdv A outer s H vs Q E hr h => ?_)
  · obtain ⟨i, rfl, _⟩ := h; rfl
  · have hu := hu_of hr
    refine ⟨_, (pss_cons (ps_if (pt_not (pt_val (pe_call (ok_is_within T) (hr.mono (by decide)) (by rfl) T.d_is_within.m T.d_is_within.F.kp T.d_is_within.b .nil pass0 (pa_cons (pv 0) (pa_cons pe_int (pa_cons (pe_glob (v := .int 1000) (by rfl) T.c_MOST_BASE ⟨_, rfl⟩) pa_nil)))))) (pss_one ps_never) pss_nil)
      (pss_one (ps_ret (pv 0)))), ?_⟩
    obtain ⟨i, rfl, ⟨h1, h2⟩, q⟩ := h
    refine ⟨_, rfl, i, _, _, rfl, ⟨h1, h2⟩, true, rfl, iteF ?_⟩
    exact ⟨_, rfl, q⟩
theorem ok_need_denominator (T : Txt K mg) : FnOk P w K mg base CX0 3 T.d_need_denominator.f T.d_need_denominator.fd ["value"] sp_need_denominator := by
  refine T.d_need_denominator.F.ok sc_need_denominator (fun vs H Q E h => ?_) (fun cdv A outer s H vs Q E hr h => ?_)
  · obtain ⟨i, rfl, _⟩ := h; rfl
  · have hu := hu_of hr
    refine ⟨_, (pss_cons (ps_if (pt_not (pt_val (pe_call (ok_is_within T) (hr.mono (by decide)) (by rfl) T.d_is_within.m T.d_is_within.F.kp T.d_is_within.b .nil pass0 (pa_cons (pv 0) (pa_cons pe_int (pa_cons (pe_glob (v := .int 5000) (by rfl) T.c_MOST_DENOMINATOR ⟨_, rfl⟩) pa_nil)))))) (pss_one ps_never) pss_nil)
      (pss_one (ps_ret (pv 0)))), ?_⟩
    obtain ⟨i, rfl, ⟨h1, h2⟩, q⟩ := h
    refine ⟨_, rfl, i, _, _, rfl, ⟨h1, h2⟩, true, rfl, iteF ?_⟩
    exact ⟨_, rfl, q⟩
theorem ok_need_fraction (T : Txt K mg) : FnOk P w K mg base CX0 3 T.d_need_fraction.f T.d_need_fraction.fd ["value"] sp_need_fraction := by
  refine T.d_need_fraction.F.ok sc_need_fraction (fun vs H Q E h => ?_) (fun cdv A outer s H vs Q E hr h => ?_)
  · obtain ⟨a, x, n, rfl, _⟩ := h; rfl
  · have hu := hu_of hr
    refine ⟨_, (pss_cons (ps_if (PW.pt (pw_or (pt_not (pt_val (pe_callB (r := rIs K) call_is (by rfl) T.b_isinstance (by decide +kernel) (pa_cons (pv 0) (pa_cons (pe_bltn (v := .ty "tuple") (by rfl) T.b_tuple (by decide +kernel) rfl) pa_nil))))) (pw_or1 (pt_cmpR op_ne (pe_callB (r := rLn K) call_ln (by rfl) T.b_len PySem.boot_len (pa_cons (pv 0) pa_nil)) pe_int (nomark _))))) (pss_one ps_never) pss_nil)
      (pss_cons (ps_asg (pv 0) (pg_tup (by rfl) (pgs_cons (pg_name (i := 1) sc_need_fraction.nd rfl (by first | exact .inl rfl | exact .inr rfl)) (pgs_cons (pg_name (i := 2) sc_need_fraction.nd rfl (by first | exact .inl rfl | exact .inr rfl)) pgs_nil))))
      (pss_cons (ps_if (PW.pt (pw_or (pt_not (pt_val (pe_call (ok_is_within T) (hr.mono (by decide)) (by rfl) T.d_is_within.m T.d_is_within.F.kp T.d_is_within.b .nil pass0 (pa_cons (pv 2) (pa_cons pe_int (pa_cons (pe_glob (v := .int 5000) (by rfl) T.c_MOST_DENOMINATOR ⟨_, rfl⟩) pa_nil)))))) (pw_or1 (pt_not (pt_val (pe_call (ok_is_within T) (hr.mono (by decide)) (by rfl) T.d_is_within.m T.d_is_within.F.kp T.d_is_within.b .nil pass0 (pa_cons (pv 1) (pa_cons pe_int (pa_cons (pe_op op_sub (pv 2) pe_int) pa_nil))))))))) (pss_one ps_never) pss_nil)
      (pss_cons (ps_if (pt_cmpR op_ne (pe_callBfun cr_gcd (by rfl) T.b_gcd (pa_cons (pv 1) (pa_cons (pv 2) pa_nil))) pe_int (nomark _)) (pss_one ps_never) pss_nil)
      (pss_one (ps_ret (pv 0))))))), ?_⟩
    obtain ⟨a, x, n, rfl, ha, ⟨h1, h2, h3⟩, q⟩ := h
    refine ⟨_, rfl, _, "tuple", rfl, "tuple", ⟨ty_tup ha, by decide, by decide⟩, true, rfl, ?_⟩
    refine iteF ⟨_, rfl, a, _, rfl, .inr (sq_tup ha), rfl, _, rfl, ?_⟩
    refine iteF ?_
    refine ⟨_, rfl, a, _, rfl, sq_tup ha, rfl, _, _, rfl, _, _, rfl, rfl, ?_⟩
    refine ⟨_, rfl, n, _, _, rfl, ⟨by omega, by omega⟩, true, rfl, iteF ?_⟩
    refine ⟨_, rfl, _, rfl, n, 1, rfl, rfl, x, _, _, rfl, ⟨by omega, by omega⟩, true, rfl, iteF ?_⟩
    refine ⟨_, rfl, _, rfl, x, n, rfl, rfl, _, rfl, ?_⟩
    have e : (!decide (V.int ((Nat.gcd (x : Int).natAbs (n : Int).natAbs : Nat) : Int) = V.int 1)) = false := by
      rw [Int.natAbs_natCast, Int.natAbs_natCast, h3]
      rfl
    rw [e]
    exact iteF ⟨_, rfl, q⟩
theorem ok_pure_part (T : Txt K mg) : FnOk P w K mg base CX0 4 T.d_pure_part.f T.d_pure_part.fd ["base", "denominator"] sp_pure_part := by
  refine T.d_pure_part.F.ok sc_pure_part (fun vs H Q E h => ?_) (fun cdv A outer s H vs Q E hr h => ?_)
  · obtain ⟨b, n, rfl, _⟩ := h; rfl
  · have hu := hu_of hr
    refine ⟨_, (pss_cons (ps_expr (pe_call (ok_need_base T) (hr.mono (by decide)) (by rfl) T.d_need_base.m T.d_need_base.F.kp T.d_need_base.b .nil pass0 (pa_cons (pv 0) pa_nil)))
      (pss_cons (ps_expr (pe_call (ok_need_denominator T) (hr.mono (by decide)) (by rfl) T.d_need_denominator.m T.d_need_denominator.F.kp T.d_need_denominator.b .nil pass0 (pa_cons (pv 1) pa_nil)))
      (pss_cons (ps_set (i := 2) sc_pure_part.nd rfl (by first | exact .inl rfl | exact .inr rfl) (pv 1))
      (pss_cons (ps_set (i := 3) sc_pure_part.nd rfl (by first | exact .inl rfl | exact .inr rfl) (pe_callBfun cr_gcd (by rfl) T.b_gcd (pa_cons (pv 0) (pa_cons (pv 2) pa_nil))))
      (pss_cons (ps_while PassesOwn.never (pt_cmpR op_gt (pv 3) pe_int (nomark _)) (pss_cons (ps_set (i := 2) sc_pure_part.nd rfl (by first | exact .inl rfl | exact .inr rfl) (pe_op op_fdiv (pv 2) (pv 3)))
      (pss_one (ps_set (i := 3) sc_pure_part.nd rfl (by first | exact .inl rfl | exact .inr rfl) (pe_callBfun cr_gcd (by rfl) T.b_gcd (pa_cons (pv 0) (pa_cons (pv 2) pa_nil)))))))
      (pss_one (ps_ret (pv 2)))))))), ?_⟩
    obtain ⟨b, n, rfl, ⟨hb1, hb2, hn1, hn2⟩, q⟩ := h
    refine ⟨_, rfl, b, rfl, ⟨by omega, by omega⟩, ?_⟩
    refine ⟨_, rfl, n, rfl, ⟨by omega, by omega⟩, ?_⟩
    refine ⟨_, rfl, _, rfl, _, rfl, b, n, rfl, ?_⟩
    refine ⟨fun m σ H' => H' = H ∧ ∃ p r k : Nat, m = p ∧ σ = [some (.int b), some (.int n), some (.int p), some (.int (Nat.gcd b p : Nat))] ∧ 1 ≤ p ∧ n = p * r ∧ r ∣ b ^ k, ⟨n, rfl, n, 1, 0, rfl, rfl, hn1, by simp, by simp⟩, ?_⟩
    rintro m σ H' ⟨rfl, p, r, k, rfl, rfl, hp, hn, hr'⟩
    have hpn : m ≤ 5000 := by
      have : m ∣ n := ⟨r, hn⟩
      have := Nat.le_of_dvd hn1 this
      omega
    have hgm : Nat.gcd b m ≤ m := Nat.gcd_le_right b hp
    have hg1 : 1 ≤ Nat.gcd b m := Nat.gcd_pos_of_pos_right b hp
    refine ⟨_, rfl, _, 1, rfl, rfl, _, rfl, ?_⟩
    by_cases hc : (1 : Int) < ((Nat.gcd b m : Nat) : Int)
    · rw [decide_eq_true hc]
      refine iteT ⟨fun σ' H2 => H2 = H' ∧ ∃ p r k : Nat, p < m ∧ σ' = [some (.int b), some (.int n), some (.int p), some (.int (Nat.gcd b p : Nat))] ∧ 1 ≤ p ∧ n = p * r ∧ r ∣ b ^ k, ?_, ?_⟩
      · rintro σ' H2 ⟨rfl, p, r, k, h1, h2, h3, h4, h5⟩
        exact ⟨p, h1, rfl, p, r, k, rfl, h2, h3, h4, h5⟩
      · refine ⟨_, rfl, _, rfl, m, Nat.gcd b m, rfl, rfl, ⟨by omega, by omega⟩, ?_⟩
        dsimp only
        rw [← Int.natCast_ediv]
        refine ⟨_, rfl, _, rfl, b, ((m / Nat.gcd b m : Nat) : Int), rfl, ?_⟩
        obtain ⟨c, hc'⟩ := Nat.gcd_dvd_right b m
        have hq : m / Nat.gcd b m = c := by
          rw [Nat.div_eq_iff_eq_mul_right hg1 (Nat.gcd_dvd_right b m)]
          exact hc'
        have hc1 : 1 ≤ c := by
          rcases Nat.eq_zero_or_pos c with z | z
          · rw [z] at hc'
            omega
          · exact z
        have hcl : c < m := by
          have hg2 : 2 ≤ Nat.gcd b m := by omega
          have : 2 * c ≤ Nat.gcd b m * c := Nat.mul_le_mul_right c hg2
          omega
        refine ⟨rfl, c, Nat.gcd b m * r, k + 1, hcl, ?_, hc1, ?_, ?_⟩
        · rw [hq]
          rfl
        · rw [hn]
          conv => lhs; rw [hc']
          rw [Nat.mul_comm (Nat.gcd b m) c, Nat.mul_assoc]
        · rw [Nat.pow_succ, Nat.mul_comm (b ^ k) b]
          exact Nat.mul_dvd_mul (Nat.gcd_dvd_left b m) hr'
    · rw [decide_eq_false hc]
      refine iteF ⟨_, rfl, ?_⟩
      exact q m ⟨by omega, r, k, hn, hr'⟩
theorem ok_period (T : Txt K mg) : FnOk P w K mg base CX0 5 T.d_period.f T.d_period.fd ["base", "denominator"] sp_period := by
  refine T.d_period.F.ok sc_period (fun vs H Q E h => ?_) (fun cdv A outer s H vs Q E hr h => ?_)
  · obtain ⟨b, n, rfl, _⟩ := h; rfl
  · have hu := hu_of hr
    refine ⟨_, (pss_cons (ps_set (i := 2) sc_period.nd rfl (by first | exact .inl rfl | exact .inr rfl) (pe_call (ok_pure_part T) (hr.mono (by decide)) (by rfl) T.d_pure_part.m T.d_pure_part.F.kp T.d_pure_part.b .nil pass0 (pa_cons (pv 0) (pa_cons (pv 1) pa_nil))))
      (pss_cons (ps_set (i := 3) sc_period.nd rfl (by first | exact .inl rfl | exact .inr rfl) (pe_op op_mod pe_int (pv 2)))
      (pss_cons (ps_set (i := 4) sc_period.nd rfl (by first | exact .inl rfl | exact .inr rfl) (pe_op op_mod (pv 0) (pv 2)))
      (pss_cons (ps_set (i := 5) sc_period.nd rfl (by first | exact .inl rfl | exact .inr rfl) pe_int)
      (pss_cons (ps_while PassesOwn.never (pt_cmpR op_ne (pv 4) (pv 3) (nomark _)) (pss_cons (ps_set (i := 4) sc_period.nd rfl (by first | exact .inl rfl | exact .inr rfl) (pe_op op_mod (pe_op op_mul (pv 4) (pv 0)) (pv 2)))
      (pss_one (ps_aug (i := 5) sc_period.nd rfl (by first | exact .inl rfl | exact .inr rfl) pe_int ip_add))))
      (pss_one (ps_ret (pv 5)))))))), ?_⟩
    obtain ⟨b, n, rfl, hbn, q⟩ := h
    have hbn' := id hbn
    obtain ⟨hb1, hb2, hn1, hn2⟩ := hbn
    refine ⟨_, rfl, _, rfl, b, n, rfl, hbn', fun p hp => ?_⟩
    obtain ⟨g0, r0, k0, e0, d0⟩ := id hp
    have hp1 : 1 ≤ p := by
      rcases Nat.eq_zero_or_pos p with z | z
      · rw [z] at e0
        omega
      · exact z
    have hpn : p ≤ 5000 := by
      have : p ∣ n := ⟨r0, e0⟩
      have := Nat.le_of_dvd hn1 this
      omega
    obtain ⟨d, hdp, hd⟩ := per_exists hp1 g0
    refine ⟨_, rfl, 1, p, rfl, rfl, (show (0 : Int) < (p : Int) by omega), ?_⟩
    refine ⟨_, rfl, _, rfl, b, p, rfl, rfl, (show (0 : Int) < (p : Int) by omega), ?_⟩
    have e1 : (1 : Int) % (p : Int) = ((1 % p : Nat) : Int) := by rw [Int.natCast_emod]; rfl
    have e2 : (b : Int) % (p : Int) = ((b ^ 1 % p : Nat) : Int) := by rw [Int.natCast_emod, Nat.pow_one]
    refine ⟨fun m σ H' => H' = H ∧ ∃ k : Nat, m = d - k ∧ σ = [some (.int b), some (.int n), some (.int p), some (.int (1 % p : Nat)), some (.int (b ^ k % p : Nat)), some (.int k)] ∧ 1 ≤ k ∧ k ≤ d, ⟨d - 1, rfl, 1, rfl, ?_, Nat.le_refl _, hd.1⟩, ?_⟩
    · rw [← e1, ← e2]
      rfl
    rintro m σ H' ⟨rfl, k, rfl, rfl, hk1, hk2⟩
    refine ⟨_, rfl, _, rfl, rfl, _, rfl, ?_⟩
    by_cases hc : b ^ k % p = 1 % p
    · have hkd : k = d := by
        apply Nat.le_antisymm hk2
        apply Nat.le_of_not_lt
        intro l
        exact hd.2.2 k hk1 l hc
      rw [decide_eq_true (show V.int ((b ^ k % p : Nat) : Int) = V.int ((1 % p : Nat) : Int) by rw [hc])]
      refine iteF ⟨_, rfl, ?_⟩
      rw [hkd]
      exact q p d hp hd
    · rw [decide_eq_false (show ¬ V.int ((b ^ k % p : Nat) : Int) = V.int ((1 % p : Nat) : Int) from fun z => hc (by have := V.int.inj z; omega))]
      have hkd : k < d := by
        rcases Nat.lt_or_eq_of_le hk2 with l | l
        · exact l
        · subst l
          exact absurd hd.2.1 hc
      refine iteT ⟨fun σ' H2 => H2 = H' ∧ σ' = [some (.int b), some (.int n), some (.int p), some (.int (1 % p : Nat)), some (.int (b ^ (k + 1) % p : Nat)), some (.int (k + 1 : Nat))], ?_, ?_⟩
      · rintro σ' H2 ⟨rfl, rfl⟩
        exact ⟨d - (k + 1), by omega, rfl, k + 1, rfl, rfl, by omega, hkd⟩
      · have hlt : b ^ k % p < p := Nat.mod_lt _ hp1
        refine ⟨_, rfl, _, rfl, _, b, rfl, rfl, .inl ⟨by omega, by omega⟩, _, rfl, _, p, rfl, rfl, (show (0 : Int) < (p : Int) by omega), ?_⟩
        dsimp only
        rw [icm, pow_mod_step]
        exact ⟨_, rfl, _, _, rfl, rfl, rfl, rfl⟩
theorem ok_head_size (T : Txt K mg) : FnOk P w K mg base CX0 5 T.d_head_size.f T.d_head_size.fd ["base", "denominator"] sp_head_size := by
  refine T.d_head_size.F.ok sc_head_size (fun vs H Q E h => ?_) (fun cdv A outer s H vs Q E hr h => ?_)
  · obtain ⟨b, n, rfl, _⟩ := h; rfl
  · have hu := hu_of hr
    refine ⟨_, (pss_cons (ps_set (i := 2) sc_head_size.nd rfl (by first | exact .inl rfl | exact .inr rfl) (pe_op op_fdiv (pv 1) (pe_call (ok_pure_part T) (hr.mono (by decide)) (by rfl) T.d_pure_part.m T.d_pure_part.F.kp T.d_pure_part.b .nil pass0 (pa_cons (pv 0) (pa_cons (pv 1) pa_nil)))))
      (pss_cons (ps_set (i := 3) sc_head_size.nd rfl (by first | exact .inl rfl | exact .inr rfl) (pe_op op_mod pe_int (pv 2)))
      (pss_cons (ps_set (i := 4) sc_head_size.nd rfl (by first | exact .inl rfl | exact .inr rfl) pe_int)
      (pss_cons (ps_while PassesOwn.never (pt_cmpR op_ne (pv 3) pe_int (nomark _)) (pss_cons (ps_set (i := 3) sc_head_size.nd rfl (by first | exact .inl rfl | exact .inr rfl) (pe_op op_mod (pe_op op_mul (pv 3) (pv 0)) (pv 2)))
      (pss_one (ps_aug (i := 4) sc_head_size.nd rfl (by first | exact .inl rfl | exact .inr rfl) pe_int ip_add))))
      (pss_one (ps_ret (pv 4))))))), ?_⟩
    obtain ⟨b, n, rfl, hbn, q⟩ := h
    have hbn' := id hbn
    obtain ⟨hb1, hb2, hn1, hn2⟩ := hbn
    refine ⟨_, rfl, _, rfl, _, rfl, b, n, rfl, hbn', fun p hp => ?_⟩
    obtain ⟨g0, r, k0, e0, d0⟩ := id hp
    have hp1 : 1 ≤ p := by
      rcases Nat.eq_zero_or_pos p with z | z
      · rw [z] at e0
        omega
      · exact z
    have hr1 : 1 ≤ r := by
      rcases Nat.eq_zero_or_pos r with z | z
      · rw [z] at e0
        omega
      · exact z
    have hpn : p ≤ 5000 := by
      have : p ∣ n := ⟨r, e0⟩
      have := Nat.le_of_dvd hn1 this
      omega
    have hrn : r ≤ 5000 := by
      have : r ∣ n := ⟨p, by rw [e0, Nat.mul_comm]⟩
      have := Nat.le_of_dvd hn1 this
      omega
    obtain ⟨d, hdk, hd⟩ := head_exists d0
    have hdr : d ≤ r := head_le hr1 hd
    refine ⟨n, p, rfl, rfl, ⟨by omega, by omega⟩, ?_⟩
    have e3 : (n : Int) / (p : Int) = ((r : Nat) : Int) := by
      rw [← Int.natCast_ediv, e0, Nat.mul_div_cancel_left r hp1]
    dsimp only
    rw [e3]
    refine ⟨_, rfl, 1, r, rfl, rfl, (show (0 : Int) < (r : Int) by omega), ?_⟩
    have e1 : (1 : Int) % (r : Int) = ((b ^ 0 % r : Nat) : Int) := by rw [Int.natCast_emod, Nat.pow_zero]; rfl
    refine ⟨fun m σ H' => H' = H ∧ ∃ k : Nat, m = d - k ∧ σ = [some (.int b), some (.int n), some (.int r), some (.int (b ^ k % r : Nat)), some (.int k)] ∧ k ≤ d, ⟨d, rfl, 0, rfl, ?_, Nat.zero_le _⟩, ?_⟩
    · rw [← e1]
      rfl
    rintro m σ H' ⟨rfl, k, rfl, rfl, hk2⟩
    refine ⟨_, rfl, rfl, _, rfl, ?_⟩
    by_cases hc : b ^ k % r = 0
    · have hkd : k = d := by
        apply Nat.le_antisymm hk2
        apply Nat.le_of_not_lt
        intro l
        exact hd.2 k l hc
      rw [decide_eq_true (show V.int ((b ^ k % r : Nat) : Int) = V.int 0 by rw [hc]; rfl)]
      refine iteF ⟨_, rfl, ?_⟩
      rw [hkd]
      exact q p r d hp e0 hd
    · rw [decide_eq_false (show ¬ V.int ((b ^ k % r : Nat) : Int) = V.int 0 from fun z => hc (by have := V.int.inj z; omega))]
      have hkd : k < d := by
        rcases Nat.lt_or_eq_of_le hk2 with l | l
        · exact l
        · subst l
          exact absurd hd.1 hc
      refine iteT ⟨fun σ' H2 => H2 = H' ∧ σ' = [some (.int b), some (.int n), some (.int r), some (.int (b ^ (k + 1) % r : Nat)), some (.int (k + 1 : Nat))], ?_, ?_⟩
      · rintro σ' H2 ⟨rfl, rfl⟩
        exact ⟨d - (k + 1), by omega, rfl, k + 1, rfl, rfl, hkd⟩
      · have hlt : b ^ k % r < r := Nat.mod_lt _ hr1
        refine ⟨_, rfl, _, rfl, _, b, rfl, rfl, .inl ⟨by omega, by omega⟩, _, rfl, _, r, rfl, rfl, (show (0 : Int) < (r : Int) by omega), ?_⟩
        dsimp only
        rw [icm, pow_mod_step]
        exact ⟨_, rfl, _, _, rfl, rfl, rfl, rfl⟩

/-- the digits of a division that has come to x: so many of them -/
def dgs (b n x c : Nat) : List V := (List.range c).map fun i => V.int ((rem b n x i * b / n : Nat) : Int)
def sp_divided : Sp := fun vs H Q _ => ∃ b x n c : Nat, vs = [.int b, .int x, .int n, .int c] ∧ (BN b n ∧ x < n ∧ c ≤ 10000) ∧ ∀ t H', Gr [] H H' → H' t = some (.tup (dgs b n x c)) → Q (.ref t) H'
theorem ok_divided (T : Txt K mg) : FnOk P w K mg base CX0 1 T.d_divided.f T.d_divided.fd ["base", "remainder", "denominator", "count"] sp_divided := by
  refine T.d_divided.F.ok sc_divided (fun vs H Q E h => ?_) (fun cdv A outer s H vs Q E hr h => ?_)
  · obtain ⟨b, x, n, c, rfl, _⟩ := h; rfl
  · have hu := hu_of hr
    refine ⟨_, (pss_cons (ps_set (i := 4) sc_divided.nd rfl (by first | exact .inl rfl | exact .inr rfl) (pe_lst pa_nil))
      (pss_cons (ps_set (i := 5) sc_divided.nd rfl (by first | exact .inl rfl | exact .inr rfl) (pv 1))
      (pss_cons (ps_for PassesOwn.never rfl (pi_range1 (by rfl) T.b_range (pa_cons (pv 3) pa_nil)) (pg_name (i := 6) sc_divided.nd rfl (by first | exact .inl rfl | exact .inr rfl)) (pss_cons (ps_expr (pe_bm PySem.F.plainAttrs_list PySem.F.slot_list_append PySem.F.type_list_append mt_append (pv 4) (pa_cons (pe_op op_fdiv (pe_op op_mul (pv 5) (pv 0)) (pv 2)) pa_nil)))
      (pss_one (ps_set (i := 5) sc_divided.nd rfl (by first | exact .inl rfl | exact .inr rfl) (pe_op op_mod (pe_op op_mul (pv 5) (pv 0)) (pv 2))))))
      (pss_one (ps_ret (pe_callTy (r := rTpO K) call_tpO (by rfl) T.b_tuple (by decide +kernel) (pa_cons (pv 4) pa_nil))))))), ?_⟩
    obtain ⟨b, x, n, c, rfl, ⟨⟨hb1, hb2, hn1, hn2⟩, hx, hc⟩, q⟩ := h
    refine ⟨Nat.zero_le _, fun l hl => ?_⟩
    refine ⟨_, rfl, _, rfl, (c : Int), rfl, by omega, by omega, ?_⟩
    refine for_range (lo := 0) (n := (c : Int).toNat) (fun i σ H' => Gr [] H H' ∧ H' l = some (.lst (dgs b n x i)) ∧ ∃ v, σ = [some (.int b), some (.int x), some (.int n), some (.int c), some (.ref l), some (.int (rem b n x i : Nat)), v]) ⟨Gr.new hl, upd_same, none, ?_⟩ ?_ ?_
    · rw [rem_zero hx]
      rfl
    · rintro i σ H' hi ⟨hg, hL, v, rfl⟩
      have hlt : rem b n x i < n := rem_lt hn1
      refine ⟨_, rfl, .inl ⟨rfl, _, sq_lst hL⟩, _, rfl, _, rfl, _, b, rfl, rfl, .inl ⟨by omega, by omega⟩, _, rfl, _, n, rfl, rfl, ⟨by omega, by omega⟩, ?_⟩
      refine ⟨l, _, _, rfl, rfl, hL, ?_, ?_⟩
      · unfold dgs
        rw [List.length_map, List.length_range]
        exact Nat.lt_of_lt_of_le (show i < 20000 by omega) (by decide)
      · refine ⟨_, rfl, _, rfl, _, b, rfl, rfl, .inl ⟨by omega, by omega⟩, _, rfl, _, n, rfl, rfl, (show (0 : Int) < (n : Int) by omega), ?_⟩
        dsimp only
        rw [icm, rem_succ, icd]
        refine ⟨fun a o _ e => ?_, ?_, _, rfl⟩
        · rw [upd_ne (ne_of_none e hl)]
          exact hg a o (by simp) e
        · rw [upd_same]
          unfold dgs
          rw [List.range_succ, List.map_append]
          rfl
    · rintro σ H' ⟨hg, hL, v, rfl⟩
      rw [Int.toNat_natCast] at hL
      refine ⟨_, rfl, l, _, rfl, .inl ⟨sq_lst hL, fun t ht => ?_⟩⟩
      exact q t _ (hg.trans (Gr.new ht)) upd_same

def dgf (b n x lo c : Nat) : List V := (List.range c).map fun i => V.int ((rem b n x (lo + i) * b / n : Nat) : Int)
structure Exp (H : Hp) (r : Addr) (b x n h L : Nat) : Prop where
  at_ : ∃ a c, H r = some (.tup [.ref a, .ref c]) ∧ H a = some (.tup (dgf b n x 0 h)) ∧ H c = some (.tup (dgf b n x h L))
def sp_expansion : Sp := fun vs H Q _ => ∃ (b x n : Nat) (a : Addr), vs = [.int b, .ref a] ∧ H a = some (.tup [.int x, .int n]) ∧ (BN b n ∧ x < n ∧ Nat.gcd x n = 1) ∧
  ∀ p q h L t H', IsPure b n p → n = p * q → IsHead b q h → IsPer b p L → Gr [] H H' → Exp H' t b x n h L → Q (.ref t) H'
theorem ok_expansion (T : Txt K mg) : FnOk P w K mg base CX0 6 T.d_expansion.f T.d_expansion.fd ["base", "fraction"] sp_expansion := by
  refine T.d_expansion.F.ok sc_expansion (fun vs H Q E h => ?_) (fun cdv A outer s H vs Q E hr h => ?_)
  · obtain ⟨b, x, n, a, rfl, _⟩ := h; rfl
  · have hu := hu_of hr
    refine ⟨_, (pss_cons (ps_expr (pe_call (ok_need_base T) (hr.mono (by decide)) (by rfl) T.d_need_base.m T.d_need_base.F.kp T.d_need_base.b .nil pass0 (pa_cons (pv 0) pa_nil)))
      (pss_cons (ps_asg (pe_call (ok_need_fraction T) (hr.mono (by decide)) (by rfl) T.d_need_fraction.m T.d_need_fraction.F.kp T.d_need_fraction.b .nil pass0 (pa_cons (pv 1) pa_nil)) (pg_tup (by rfl) (pgs_cons (pg_name (i := 2) sc_expansion.nd rfl (by first | exact .inl rfl | exact .inr rfl)) (pgs_cons (pg_name (i := 3) sc_expansion.nd rfl (by first | exact .inl rfl | exact .inr rfl)) pgs_nil))))
      (pss_cons (ps_set (i := 4) sc_expansion.nd rfl (by first | exact .inl rfl | exact .inr rfl) (pe_call (ok_head_size T) (hr.mono (by decide)) (by rfl) T.d_head_size.m T.d_head_size.F.kp T.d_head_size.b .nil pass0 (pa_cons (pv 0) (pa_cons (pv 3) pa_nil))))
      (pss_cons (ps_set (i := 5) sc_expansion.nd rfl (by first | exact .inl rfl | exact .inr rfl) (pe_call (ok_divided T) (hr.mono (by decide)) (by rfl) T.d_divided.m T.d_divided.F.kp T.d_divided.b .nil pass0 (pa_cons (pv 0) (pa_cons (pv 2) (pa_cons (pv 3) (pa_cons (pe_op op_add (pv 4) (pe_call (ok_period T) (hr.mono (by decide)) (by rfl) T.d_period.m T.d_period.F.kp T.d_period.b .nil pass0 (pa_cons (pv 0) (pa_cons (pv 3) pa_nil)))) pa_nil))))))
      (pss_one (ps_ret (pe_tup (pa_cons (pe_slice (r := rSlA K) sl_tupA (pv 5) po_none (po_some (pv 4))) (pa_cons (pe_slice (r := rSlA K) sl_tupA (pv 5) (po_some (pv 4)) po_none) pa_nil))))))))), ?_⟩
    obtain ⟨b, x, n, a, rfl, ha, ⟨hbn, hx, hg⟩, q⟩ := h
    have hbn' := id hbn
    obtain ⟨hb1, hb2, hn1, hn2⟩ := hbn
    refine ⟨_, rfl, b, rfl, ⟨by omega, by omega⟩, ?_⟩
    refine ⟨_, rfl, a, x, n, rfl, ha, ⟨hx, hn2, hg⟩, ?_⟩
    refine ⟨a, _, rfl, sq_tup ha, rfl, _, _, rfl, _, _, rfl, rfl, ?_⟩
    refine ⟨_, rfl, _, rfl, b, n, rfl, hbn', fun p r h hp e0 hh => ?_⟩
    refine ⟨_, rfl, _, rfl, _, rfl, _, rfl, _, rfl, _, rfl, b, n, rfl, hbn', fun p' L hp' hL => ?_⟩
    have ep : p' = p := hp'.uniq hp
    subst ep
    obtain ⟨g0, r0, k0, e00, d0⟩ := id hp
    have hp1 : 1 ≤ p' := by
      rcases Nat.eq_zero_or_pos p' with z | z
      · rw [z] at e0
        omega
      · exact z
    have hr1 : 1 ≤ r := by
      rcases Nat.eq_zero_or_pos r with z | z
      · rw [z] at e0
        omega
      · exact z
    have hLn : L ≤ 5000 := by
      obtain ⟨d, hd, hd'⟩ := per_exists hp1 g0
      have := hd'.uniq hL
      have : p' ∣ n := ⟨r, e0⟩
      have := Nat.le_of_dvd hn1 this
      omega
    have hhn : h ≤ 5000 := by
      have := head_le hr1 hh
      have : r ∣ n := ⟨p', by rw [e0, Nat.mul_comm]⟩
      have := Nat.le_of_dvd hn1 this
      omega
    refine ⟨h, L, rfl, rfl, b, x, n, h + L, rfl, ⟨hbn', hx, by omega⟩, fun t H1 g1 h1 => ?_⟩
    refine ⟨_, rfl, _, rfl, (h : Int), rfl, slA_of h1 fun a2 H2 g2 h2 => ?_⟩
    have h1' := g2 t _ (by simp) h1
    refine ⟨_, rfl, _, rfl, (h : Int), rfl, ?_⟩
    dsimp only [tNoPart]
    refine slA_of h1' fun a3 H3 g3 h3 => ?_
    refine ⟨by show 2 ≤ sizeLine; decide, fun t4 n4 => ?_⟩
    refine q p' r h L t4 _ hp e0 hh hL ((g1.trans g2).trans (g3.trans (Gr.new n4))) ⟨a2, a3, upd_same, ?_, ?_⟩
    · have h2' := g3 a2 _ (by simp) h2
      rw [upd_ne (ne_of_none h2' n4), h2', cut_lo (by unfold dgs; rw [List.length_map, List.length_range]; omega)]
      unfold dgs dgf
      rw [← List.map_take, List.take_range, Nat.min_eq_left (by omega)]
      simp
    · rw [upd_ne (ne_of_none h3 n4), h3, cut_hi (by unfold dgs; rw [List.length_map, List.length_range]; omega)]
      unfold dgs dgf
      rw [← List.map_drop]
      congr 2
      apply List.ext_getElem
      · simp
      · intro i i1 i2
        simp

end
end Wn
namespace Wn
open PySem PySem.Spec PyProof.Rows L2
local macro_rules | `(tactic| walk_at "vc") => `(tactic| simp only [cxK, cxK2, start1, start2, start3, tRet, tRetN, tSeq, tNext, tIfS, tAsg, gName, tDrop, tVar, tC, tOp, tUn, tTest, tB, tNot, tAnd, tOr, tAndV, tOrV, tNotV, tIf, tCons, tNil, tCB, tCall, tChain, tAug, ipI, rI, rI0, rU, rIs, rGcd, rEq, rNe, scal,
  List.getElem?_cons_zero, List.getElem?_cons_succ, List.set_cons_zero, List.set_cons_succ, Option.some.injEq, List.cons.injEq, V.int.injEq, V.bl.injEq, V.ref.injEq, V.str.injEq, and_true, true_and, exists_eq_left, exists_eq_left', exists_and_left, exists_and_right, List.append_nil, List.nil_append, List.cons_append, exists_eq_right, exists_eq_right', and_assoc, exists_const, V.ty.injEq, ↓reduceIte, Bool.false_eq_true, Bool.not_true, Bool.not_false, decide_eq_true_eq])

section
variable {P : Program} {w : World} {K : PySem.W.Frag} {mg : Str → Option Value} {base : Heap}

theorem small5 {k : Nat} (h : k ≤ 5000) : k < sizeLine := Nat.lt_of_lt_of_le (show _ < 6000 by omega) (by decide)

/-- pairs of numbers at their places -/
inductive Prs (H : Hp) : List Addr → List (Nat × Nat) → Prop
  | nil : Prs H [] []
  | cons {p : Addr} {ps : List Addr} {r : Nat × Nat} {rs : List (Nat × Nat)} : H p = some (.tup [.int (r.1 : Nat), .int (r.2 : Nat)]) → Prs H ps rs → Prs H (p :: ps) (r :: rs)
theorem Prs.imp {H H' : Hp} {ps : List Addr} {rs : List (Nat × Nat)} (h : Prs H ps rs) (k : ∀ {p : Addr} {r : Nat × Nat}, H p = some (.tup [.int (r.1 : Nat), .int (r.2 : Nat)]) → H' p = some (.tup [.int (r.1 : Nat), .int (r.2 : Nat)])) : Prs H' ps rs := by
  induction h with
  | nil => exact .nil
  | cons a _ ih => exact .cons (k a) ih
theorem Prs.len {H : Hp} {ps : List Addr} {rs : List (Nat × Nat)} (h : Prs H ps rs) : ps.length = rs.length := by
  induction h with
  | nil => rfl
  | cons a _ ih => exact congrArg (· + 1) ih
theorem Prs.snoc {H : Hp} {ps : List Addr} {rs : List (Nat × Nat)} {p : Addr} {r : Nat × Nat} (h : Prs H ps rs) (e : H p = some (.tup [.int (r.1 : Nat), .int (r.2 : Nat)])) : Prs H (ps ++ [p]) (rs ++ [r]) := by
  induction h with
  | nil => exact .cons e .nil
  | cons a _ ih => exact .cons a ih
theorem Prs.at_ {H : Hp} {ps : List Addr} {rs : List (Nat × Nat)} (h : Prs H ps rs) {i : Nat} {v : V} (e : (ps.map V.ref)[i]? = some v) : ∃ (p : Addr) (hi : i < rs.length), v = .ref p ∧ H p = some (.tup [.int ((rs[i]).1 : Nat), .int ((rs[i]).2 : Nat)]) := by
  induction h generalizing i with
  | nil => simp at e
  | @cons p ps r rs a _ ih =>
    cases i with
    | zero =>
      have : V.ref p = v := by simpa using e
      exact ⟨p, by simp, this.symm, a⟩
    | succ i =>
      obtain ⟨p2, hi, h1, h2⟩ := ih (i := i) (by simpa using e)
      exact ⟨p2, by simpa using hi, h1, h2⟩
def sp_prime_powers : Sp := fun vs H Q _ => ∃ n : Nat, vs = [.int n] ∧ (1 ≤ n ∧ n ≤ 5000) ∧ ∀ (l : Addr) (ps : List Addr) H', Gr [] H H' → H' l = some (.lst (ps.map V.ref)) → Prs H' ps (ppL n) → Q (.ref l) H'
theorem ok_prime_powers (T : Txt K mg) : FnOk P w K mg base CX0 1 T.d_prime_powers.f T.d_prime_powers.fd ["number"] sp_prime_powers := by
  refine T.d_prime_powers.F.ok sc_prime_powers (fun vs H Q E h => ?_) (fun cdv A outer s H vs Q E hr h => ?_)
  · obtain ⟨n, rfl, _⟩ := h; rfl
  · have hu := hu_of hr
    refine ⟨_, (pss_cons (ps_set (i := 1) sc_prime_powers.nd rfl (by first | exact .inl rfl | exact .inr rfl) (pe_lst pa_nil))
      (pss_cons (ps_set (i := 2) sc_prime_powers.nd rfl (by first | exact .inl rfl | exact .inr rfl) (pv 0))
      (pss_cons (ps_set (i := 3) sc_prime_powers.nd rfl (by first | exact .inl rfl | exact .inr rfl) pe_int)
      (pss_cons (ps_while PassesOwn.never (pt_cmpR op_gt (pv 2) pe_int (nomark _)) (pss_cons (ps_if (pt_cmpR op_gt (pe_op op_mul (pv 3) (pv 3)) (pv 2) (nomark _)) (pss_one (ps_set (i := 3) sc_prime_powers.nd rfl (by first | exact .inl rfl | exact .inr rfl) (pv 2))) pss_nil)
      (pss_cons (ps_set (i := 4) sc_prime_powers.nd rfl (by first | exact .inl rfl | exact .inr rfl) pe_int)
      (pss_cons (ps_while PassesOwn.never (pt_cmpR op_eq (pe_op op_mod (pv 2) (pv 3)) pe_int (nomark _)) (pss_cons (ps_set (i := 2) sc_prime_powers.nd rfl (by first | exact .inl rfl | exact .inr rfl) (pe_op op_fdiv (pv 2) (pv 3)))
      (pss_one (ps_aug (i := 4) sc_prime_powers.nd rfl (by first | exact .inl rfl | exact .inr rfl) pe_int ip_add))))
      (pss_cons (ps_if (pt_cmpR op_gt (pv 4) pe_int (nomark _)) (pss_one (ps_expr (pe_bm PySem.F.plainAttrs_list PySem.F.slot_list_append PySem.F.type_list_append mt_append (pv 1) (pa_cons (pe_tup (pa_cons (pv 3) (pa_cons (pv 4) pa_nil))) pa_nil)))) pss_nil)
      (pss_one (ps_aug (i := 3) sc_prime_powers.nd rfl (by first | exact .inl rfl | exact .inr rfl) pe_int ip_add)))))))
      (pss_one (ps_ret (pv 1))))))), ?_⟩
    obtain ⟨n, rfl, ⟨hn1, hn2⟩, q⟩ := h
    refine ⟨Nat.zero_le _, fun l nl => ?_⟩
    have hl0 : (upd H l (.lst [])) l = some (.lst (([] : List Addr).map V.ref)) := upd_same
    have g0 : Gr [] H (upd H l (.lst [])) := Gr.new nl
    generalize upd H l (.lst []) = H0 at hl0 g0 ⊢
    refine ⟨_, rfl, ?_⟩
    refine ⟨fun m σ H' => ∃ (left k : Nat) (ps : List Addr), (m = if left ≤ 1 then 0 else left - k + 1) ∧ H' = H' ∧ Gr [] H H' ∧ H' l = some (.lst (ps.map V.ref)) ∧ Prs H' ps (ppU n k) ∧ Left n left k ∧ 2 ≤ k ∧ k ≤ n + 1 ∧ ∃ v, σ = [some (.int n), some (.ref l), some (.int left), some (.int k), v], ⟨_, n, 2, [], rfl, rfl, g0, hl0, ?_, Left.start hn1, Nat.le_refl _, by omega, none, rfl⟩, ?_⟩
    · rw [show ppU n 2 = [] from by
        unfold ppU
        rw [show List.range 2 = [0, 1] from rfl]
        have f0 : fpp n 0 = none := by
          unfold fpp
          rw [if_neg]
          rintro ⟨_, h⟩
          cases h
        have f1 : fpp n 1 = none := by
          unfold fpp
          rw [if_neg]
          rintro ⟨_, h⟩
          cases h
        simp [f0, f1]]
      exact .nil
    rintro m σ H' ⟨left, k, ps, hm, _, G, hL, hP, L, hk2, hkn, v, rfl⟩
    have hln : left ≤ n := Nat.le_of_dvd hn1 L.dv
    refine ⟨_, rfl, _, 1, rfl, rfl, _, rfl, ?_⟩
    by_cases hl : 1 < left
    · have hge := L.ge hl
      rw [if_neg (by omega)] at hm
      refine iteTb (decide_eq_true (show (1 : Int) < (left : Int) by omega)) ?_
      refine ⟨fun σ' H2 => ∃ (left2 k2 : Nat) (ps : List Addr), H2 = H2 ∧ (if left2 ≤ 1 then 0 else left2 - k2 + 1) = (if left2 ≤ 1 then 0 else left2 - k2 + 1) ∧ Gr [] H H2 ∧ H2 l = some (.lst (ps.map V.ref)) ∧ Prs H2 ps (ppU n k2) ∧ Left n left2 k2 ∧ (2 ≤ k2 ∧ k2 ≤ n + 1) ∧ (if left2 ≤ 1 then 0 else left2 - k2 + 1) < m ∧ ∃ v, σ' = [some (.int n), some (.ref l), some (.int left2), some (.int k2), v], ?_, ?_⟩
      · rintro σ' H2 ⟨left2, k2, ps2, _, _, a1, a2, a3, a4, ⟨a5, a6⟩, a7, v, rfl⟩
        exact ⟨_, a7, left2, k2, ps2, rfl, rfl, a1, a2, a3, a4, a5, a6, v, rfl⟩
      refine ⟨_, rfl, _, rfl, _, _, rfl, rfl, .inl ⟨by omega, by omega⟩, _, rfl, _, _, rfl, rfl, _, rfl, ?_⟩
      dsimp only
      rw [← Int.natCast_mul]
      by_cases hj : left < k * k
      · refine iteTb (decide_eq_true (by omega)) ⟨_, rfl, ?_⟩
        have HK : 2 ≤ left ∧ left ≤ left ∧ Left n left left ∧ ppU n left = ppU n k := by
          obtain ⟨j1, j2, j3⟩ := L.jump hk2 hl hj
          exact ⟨by omega, Nat.le_refl _, j2, ppU_skip hge j3⟩
        have K2 : 2 ≤ left := HK.1
        have KL : left ≤ left := HK.2.1
        have LL : Left n left left := HK.2.2.1
        have PU : ppU n left = ppU n k := HK.2.2.2
        refine ⟨fun m2 σ2 H2 => H2 = H' ∧ ∃ r e : Nat, m2 = r ∧ σ2 = [some (.int n), some (.ref l), some (.int r), some (.int (left : Nat)), some (.int e)] ∧ left = r * left ^ e ∧ 1 ≤ r, ⟨left, rfl, left, 0, rfl, rfl, by rw [Nat.pow_zero, Nat.mul_one], LL.pos⟩, ?_⟩
        rintro m2 σ2 H2 ⟨rfl, r, e, rfl, rfl, hre, hr1⟩
        have hrl : m2 ≤ left := by
          have : m2 ∣ left := ⟨_, hre⟩
          exact Nat.le_of_dvd LL.pos this
        refine ⟨_, rfl, _, rfl, _, _, rfl, rfl, (show (0 : Int) < ((left : Nat) : Int) by omega), rfl, _, rfl, ?_⟩
        by_cases hd : m2 % left = 0
        · refine iteTb (decide_eq_true (show V.int (((m2 : Nat) : Int) % ((left : Nat) : Int)) = V.int 0 by rw [← Int.natCast_emod, hd]; rfl)) ?_
          obtain ⟨c, hc⟩ := Nat.dvd_of_mod_eq_zero hd
          have hc1 : 1 ≤ c := Nat.pos_of_ne_zero fun z => by rw [hc, z] at hr1; omega
          have hc2 : c < m2 := by
            have : 2 * c ≤ left * c := Nat.mul_le_mul_right _ K2
            omega
          refine ⟨fun σ3 H3 => H3 = H2 ∧ σ3 = [some (.int n), some (.ref l), some (.int c), some (.int (left : Nat)), some (.int (e + 1 : Nat))], ?_, ?_⟩
          · rintro σ3 H3 ⟨rfl, rfl⟩
            refine ⟨c, hc2, rfl, c, e + 1, rfl, rfl, ?_, hc1⟩
            refine hre.trans ?_
            rw [hc, Nat.pow_succ, Nat.mul_comm left c, Nat.mul_assoc, Nat.mul_comm left]
          · refine ⟨_, rfl, _, rfl, _, _, rfl, rfl, ⟨by omega, by omega⟩, ?_⟩
            refine ⟨_, rfl, _, _, rfl, rfl, rfl, ?_⟩
            dsimp only
            rw [← Int.natCast_ediv, show m2 / left = c by rw [hc, Nat.mul_div_cancel_left _ (by omega)]]
            rfl
        · refine iteFb (decide_eq_false (show ¬ V.int (((m2 : Nat) : Int) % ((left : Nat) : Int)) = V.int 0 from fun z => hd (by rw [← Int.natCast_emod] at z; have := V.int.inj z; omega))) ?_
          have hnd : ¬ left ∣ m2 := fun z => hd (Nat.mod_eq_zero_of_dvd z)
          obtain ⟨LN, FP⟩ := LL.next hn1 K2 hre hnd
          have US : ppU n (left + 1) = ppU n k ++ (if e = 0 then [] else [(left, e)]) := by
            by_cases z : e = 0
            · rw [ppU_succ, PU, FP, if_pos z, if_pos z]
            · rw [ppU_succ, PU, FP, if_neg z, if_neg z]
          have meas : ∀ {x : Nat}, (if m2 ≤ 1 then 0 else m2 - (left + 1) + 1) = x → x < left - k + 1 := fun {x} h => by
            rw [← h]
            split
            · omega
            · have := LN.ge (by omega)
              omega
          refine ⟨_, rfl, _, _, rfl, rfl, _, rfl, ?_⟩
          by_cases he : e = 0
          · refine iteFb (decide_eq_false (by omega)) ?_
            rw [if_pos he, List.append_nil] at US
            refine ⟨_, rfl, _, _, rfl, rfl, ?_⟩
            exact ⟨m2, left + 1, ps, rfl, rfl, G, hL, by rw [US]; exact hP, LN, ⟨by omega, by omega⟩, by rw [hm]; exact meas rfl, some (.int e), rfl⟩
          · refine iteTb (decide_eq_true (by omega)) ?_
            rw [if_neg he] at US
            refine ⟨_, rfl, .inl ⟨rfl, _, sq_lst hL⟩, _, rfl, _, rfl, by show 2 ≤ sizeLine; decide, fun t nt => ?_⟩
            have gt := Gr.new (W := []) (o := .tup [.int (left : Nat), .int (e : Nat)]) nt
            have et : (upd H2 t (.tup [.int (left : Nat), .int (e : Nat)])) t = some (.tup [.int (left : Nat), .int (e : Nat)]) := upd_same
            have hL2 := gt l _ (by simp) hL
            have hP2 := hP.imp fun h => gt _ _ (by simp) h
            generalize upd H2 t (.tup [.int (left : Nat), .int (e : Nat)]) = H4 at gt et hL2 hP2 ⊢
            refine ⟨l, _, _, rfl, rfl, hL2, ?_, ?_⟩
            · have := hP.len
              have := ppU_len (n := n) k
              rw [List.length_map]
              exact Nat.lt_of_lt_of_le (show ps.length < 6000 by omega) (by decide)
            refine ⟨_, rfl, _, _, rfl, rfl, ?_⟩
            refine ⟨m2, left + 1, ps ++ [t], rfl, rfl, ?_, by rw [upd_same, List.map_append]; rfl, ?_, LN, ⟨by omega, by omega⟩, by rw [hm]; exact meas rfl, some (.int e), rfl⟩
            · intro u o _ eo
              rw [upd_ne (ne_of_none eo nl)]
              exact gt u o (by simp) (G u o (by simp) eo)
            · rw [US]
              refine (hP2.imp fun h => ?_).snoc ?_
              · rw [upd_ne (ne_of h hL2 (by intro z; cases z))]
                exact h
              · rw [upd_ne (ne_of et hL2 (by intro z; cases z))]
                exact et
      · refine iteFb (decide_eq_false (by omega)) ?_
        have HK : 2 ≤ k ∧ k ≤ left ∧ Left n left k ∧ ppU n k = ppU n k := ⟨hk2, hge, L, rfl⟩
        have K2 : 2 ≤ k := HK.1
        have KL : k ≤ left := HK.2.1
        have LL : Left n left k := HK.2.2.1
        have PU : ppU n k = ppU n k := HK.2.2.2
        refine ⟨fun m2 σ2 H2 => H2 = H' ∧ ∃ r e : Nat, m2 = r ∧ σ2 = [some (.int n), some (.ref l), some (.int r), some (.int (k : Nat)), some (.int e)] ∧ left = r * k ^ e ∧ 1 ≤ r, ⟨left, rfl, left, 0, rfl, rfl, by rw [Nat.pow_zero, Nat.mul_one], LL.pos⟩, ?_⟩
        rintro m2 σ2 H2 ⟨rfl, r, e, rfl, rfl, hre, hr1⟩
        have hrl : m2 ≤ left := by
          have : m2 ∣ left := ⟨_, hre⟩
          exact Nat.le_of_dvd LL.pos this
        refine ⟨_, rfl, _, rfl, _, _, rfl, rfl, (show (0 : Int) < ((k : Nat) : Int) by omega), rfl, _, rfl, ?_⟩
        by_cases hd : m2 % k = 0
        · refine iteTb (decide_eq_true (show V.int (((m2 : Nat) : Int) % ((k : Nat) : Int)) = V.int 0 by rw [← Int.natCast_emod, hd]; rfl)) ?_
          obtain ⟨c, hc⟩ := Nat.dvd_of_mod_eq_zero hd
          have hc1 : 1 ≤ c := Nat.pos_of_ne_zero fun z => by rw [hc, z] at hr1; omega
          have hc2 : c < m2 := by
            have : 2 * c ≤ k * c := Nat.mul_le_mul_right _ K2
            omega
          refine ⟨fun σ3 H3 => H3 = H2 ∧ σ3 = [some (.int n), some (.ref l), some (.int c), some (.int (k : Nat)), some (.int (e + 1 : Nat))], ?_, ?_⟩
          · rintro σ3 H3 ⟨rfl, rfl⟩
            refine ⟨c, hc2, rfl, c, e + 1, rfl, rfl, ?_, hc1⟩
            refine hre.trans ?_
            rw [hc, Nat.pow_succ, Nat.mul_comm k c, Nat.mul_assoc, Nat.mul_comm k]
          · refine ⟨_, rfl, _, rfl, _, _, rfl, rfl, ⟨by omega, by omega⟩, ?_⟩
            refine ⟨_, rfl, _, _, rfl, rfl, rfl, ?_⟩
            dsimp only
            rw [← Int.natCast_ediv, show m2 / k = c by rw [hc, Nat.mul_div_cancel_left _ (by omega)]]
            rfl
        · refine iteFb (decide_eq_false (show ¬ V.int (((m2 : Nat) : Int) % ((k : Nat) : Int)) = V.int 0 from fun z => hd (by rw [← Int.natCast_emod] at z; have := V.int.inj z; omega))) ?_
          have hnd : ¬ k ∣ m2 := fun z => hd (Nat.mod_eq_zero_of_dvd z)
          obtain ⟨LN, FP⟩ := LL.next hn1 K2 hre hnd
          have US : ppU n (k + 1) = ppU n k ++ (if e = 0 then [] else [(k, e)]) := by
            by_cases z : e = 0
            · rw [ppU_succ, PU, FP, if_pos z, if_pos z]
            · rw [ppU_succ, PU, FP, if_neg z, if_neg z]
          have meas : ∀ {x : Nat}, (if m2 ≤ 1 then 0 else m2 - (k + 1) + 1) = x → x < left - k + 1 := fun {x} h => by
            rw [← h]
            split
            · omega
            · have := LN.ge (by omega)
              omega
          refine ⟨_, rfl, _, _, rfl, rfl, _, rfl, ?_⟩
          by_cases he : e = 0
          · refine iteFb (decide_eq_false (by omega)) ?_
            rw [if_pos he, List.append_nil] at US
            refine ⟨_, rfl, _, _, rfl, rfl, ?_⟩
            exact ⟨m2, k + 1, ps, rfl, rfl, G, hL, by rw [US]; exact hP, LN, ⟨by omega, by omega⟩, by rw [hm]; exact meas rfl, some (.int e), rfl⟩
          · refine iteTb (decide_eq_true (by omega)) ?_
            rw [if_neg he] at US
            refine ⟨_, rfl, .inl ⟨rfl, _, sq_lst hL⟩, _, rfl, _, rfl, by show 2 ≤ sizeLine; decide, fun t nt => ?_⟩
            have gt := Gr.new (W := []) (o := .tup [.int (k : Nat), .int (e : Nat)]) nt
            have et : (upd H2 t (.tup [.int (k : Nat), .int (e : Nat)])) t = some (.tup [.int (k : Nat), .int (e : Nat)]) := upd_same
            have hL2 := gt l _ (by simp) hL
            have hP2 := hP.imp fun h => gt _ _ (by simp) h
            generalize upd H2 t (.tup [.int (k : Nat), .int (e : Nat)]) = H4 at gt et hL2 hP2 ⊢
            refine ⟨l, _, _, rfl, rfl, hL2, ?_, ?_⟩
            · have := hP.len
              have := ppU_len (n := n) k
              rw [List.length_map]
              exact Nat.lt_of_lt_of_le (show ps.length < 6000 by omega) (by decide)
            refine ⟨_, rfl, _, _, rfl, rfl, ?_⟩
            refine ⟨m2, k + 1, ps ++ [t], rfl, rfl, ?_, by rw [upd_same, List.map_append]; rfl, ?_, LN, ⟨by omega, by omega⟩, by rw [hm]; exact meas rfl, some (.int e), rfl⟩
            · intro u o _ eo
              rw [upd_ne (ne_of_none eo nl)]
              exact gt u o (by simp) (G u o (by simp) eo)
            · rw [US]
              refine (hP2.imp fun h => ?_).snoc ?_
              · rw [upd_ne (ne_of h hL2 (by intro z; cases z))]
                exact h
              · rw [upd_ne (ne_of et hL2 (by intro z; cases z))]
                exact et
    · have e1 : left = 1 := by have := L.pos; omega
      subst e1
      refine iteFb (decide_eq_false (show ¬ (1 : Int) < ((1 : Nat) : Int) by omega)) ⟨_, rfl, q l ps H' G hL ?_⟩
      have : ppL n = ppU n k := ppU_skip hkn fun p h1 h2 => by
        unfold fpp
        rw [if_neg]
        rintro ⟨h3, h4⟩
        have := (L.same p 1 h1 h4).mpr (by rw [Nat.pow_one]; exact Nat.dvd_of_mod_eq_zero h3)
        rw [Nat.pow_one] at this
        have := Nat.le_of_dvd (by decide) this
        have := (isP_iff.mp h4).1
        omega
      rw [this]
      exact hP

end
end Wn
namespace Wn
open PySem PySem.Spec PyProof.Rows L2
local macro_rules | `(tactic| walk_at "vc") => `(tactic| simp only [cxK, cxK2, start1, start2, start3, tRet, tRetN, tSeq, tNext, tIfS, tAsg, gName, tDrop, tVar, tC, tOp, tUn, tTest, tB, tNot, tAnd, tOr, tAndV, tOrV, tNotV, tIf, tCons, tNil, tCB, tCall, tChain, tAug, ipI, rI, rI0, rU, rIs, rGcd, rEq, rNe, scal,
  List.getElem?_cons_zero, List.getElem?_cons_succ, List.set_cons_zero, List.set_cons_succ, Option.some.injEq, List.cons.injEq, V.int.injEq, V.bl.injEq, V.ref.injEq, V.str.injEq, and_true, true_and, exists_eq_left, exists_eq_left', exists_and_left, exists_and_right, List.append_nil, List.nil_append, List.cons_append, exists_eq_right, exists_eq_right', and_assoc, exists_const, V.ty.injEq, ↓reduceIte, Bool.false_eq_true, Bool.not_true, Bool.not_false, decide_eq_true_eq])

section
variable {P : Program} {w : World} {K : PySem.W.Frag} {mg : Str → Option Value} {base : Heap}

theorem per_le {b n L : Nat} (hn : 1 ≤ n) (g : Nat.gcd b n = 1) (h : IsPer b n L) : L ≤ n := by
  obtain ⟨d, hd, hd'⟩ := per_exists hn g
  rw [h.uniq hd']
  exact hd
theorem filt_yesG {α : Type} {xs : List α} {g : α → Bool} {i : Nat} (hi : i < xs.length) (h : g xs[i] = true) : (xs.take (i + 1)).filter g = (xs.take i).filter g ++ [xs[i]] := by
  rw [List.take_succ_eq_append_getElem hi, List.filter_append, List.filter_cons_of_pos (by simpa using h)]
  rfl
theorem filt_noG {α : Type} {xs : List α} {g : α → Bool} {i : Nat} (hi : i < xs.length) (h : g xs[i] = false) : (xs.take (i + 1)).filter g = (xs.take i).filter g := by
  rw [List.take_succ_eq_append_getElem hi, List.filter_append, List.filter_cons_of_neg (by simpa using h)]
  simp

theorem sq_step (r s l n : Nat) : (r * s ^ l) % n = if l % 2 = 1 then ((r * s % n) * (s * s % n) ^ (l / 2)) % n else (r * (s * s % n) ^ (l / 2)) % n := by
  have e : ∀ a, (a * (s * s % n) ^ (l / 2)) % n = (a * (s * s) ^ (l / 2)) % n := fun a => by
    rw [Nat.mul_mod, ← Nat.pow_mod, ← Nat.mul_mod]
  split
  · rename_i h
    have hl : l = 2 * (l / 2) + 1 := by omega
    rw [e, Nat.mod_mul_mod]
    conv => lhs; rw [hl]
    rw [Nat.pow_succ, Nat.pow_mul, Nat.pow_two, Nat.mul_comm ((s * s) ^ (l / 2)) s, Nat.mul_assoc]
  · rename_i h
    have hl : l = 2 * (l / 2) := by omega
    rw [e]
    conv => lhs; rw [hl]
    rw [Nat.pow_mul, Nat.pow_two]
def sp_power_rest : Sp := fun vs H Q _ => ∃ b e n : Nat, vs = [.int b, .int e, .int n] ∧ (1 ≤ n ∧ n ≤ 5000) ∧ Q (.int (b ^ e % n : Nat)) H
theorem ok_power_rest (T : Txt K mg) : FnOk P w K mg base CX0 1 T.d_power_rest.f T.d_power_rest.fd ["number", "exponent", "divisor"] sp_power_rest := by
  refine T.d_power_rest.F.ok sc_power_rest (fun vs H Q E h => ?_) (fun cdv A outer s H vs Q E hr h => ?_)
  · obtain ⟨b, e, n, rfl, _⟩ := h; rfl
  · have hu := hu_of hr
    refine ⟨_, (pss_cons (ps_set (i := 3) sc_power_rest.nd rfl (by first | exact .inl rfl | exact .inr rfl) (pe_op op_mod pe_int (pv 2)))
      (pss_cons (ps_set (i := 4) sc_power_rest.nd rfl (by first | exact .inl rfl | exact .inr rfl) (pe_op op_mod (pv 0) (pv 2)))
      (pss_cons (ps_set (i := 5) sc_power_rest.nd rfl (by first | exact .inl rfl | exact .inr rfl) (pv 1))
      (pss_cons (ps_while PassesOwn.never (pt_cmpR op_gt (pv 5) pe_int (nomark _)) (pss_cons (ps_if (pt_cmpR op_eq (pe_op op_mod (pv 5) pe_int) pe_int (nomark _)) (pss_one (ps_set (i := 3) sc_power_rest.nd rfl (by first | exact .inl rfl | exact .inr rfl) (pe_op op_mod (pe_op op_mul (pv 3) (pv 4)) (pv 2)))) pss_nil)
      (pss_cons (ps_set (i := 4) sc_power_rest.nd rfl (by first | exact .inl rfl | exact .inr rfl) (pe_op op_mod (pe_op op_mul (pv 4) (pv 4)) (pv 2)))
      (pss_one (ps_set (i := 5) sc_power_rest.nd rfl (by first | exact .inl rfl | exact .inr rfl) (pe_op op_fdiv (pv 5) pe_int))))))
      (pss_one (ps_ret (pv 3))))))), ?_⟩
    obtain ⟨b, e, n, rfl, ⟨hn1, hn2⟩, q⟩ := h
    have hn0 : (0 : Int) < (n : Int) := by omega
    have e1 : (1 : Int) % (n : Int) = ((1 % n : Nat) : Int) := by rw [Int.natCast_emod]; rfl
    refine ⟨_, rfl, 1, n, rfl, rfl, hn0, ?_⟩
    refine ⟨_, rfl, _, rfl, b, n, rfl, rfl, hn0, ?_⟩
    refine ⟨_, rfl, ?_⟩
    refine ⟨fun m σ H' => H' = H ∧ ∃ r s : Nat, r < n ∧ s < n ∧ r * s ^ m % n = b ^ e % n ∧ σ = [some (.int b), some (.int e), some (.int n), some (.int r), some (.int s), some (.int m)], ⟨e, rfl, 1 % n, b % n, Nat.mod_lt _ hn1, Nat.mod_lt _ hn1, ?_, ?_⟩, ?_⟩
    · rw [Nat.mod_mul_mod, Nat.one_mul, ← Nat.pow_mod]
    · rw [← e1, Int.natCast_emod]
      rfl
    rintro m σ H' ⟨rfl, r, s, hr1, hs1, hrs, rfl⟩
    refine ⟨_, rfl, _, _, rfl, rfl, _, rfl, ?_⟩
    by_cases hc : (0 : Int) < (m : Int)
    · rw [decide_eq_true hc]
      have st := sq_step r s m n
      have e2 : (m : Int) % 2 = ((m % 2 : Nat) : Int) := by omega
      have e3 : (m : Int) / 2 = ((m / 2 : Nat) : Int) := by omega
      refine iteT ⟨fun σ' H2 => H2 = H' ∧ ∃ r s : Nat, r < n ∧ s < n ∧ r * s ^ (m / 2) % n = b ^ e % n ∧ σ' = [some (.int b), some (.int e), some (.int n), some (.int r), some (.int s), some (.int (m / 2 : Nat))], ?_, ?_⟩
      · rintro σ' H2 ⟨rfl, r', s', h1, h2, h3, rfl⟩
        exact ⟨m / 2, by omega, rfl, r', s', h1, h2, h3, rfl⟩
      · refine ⟨_, rfl, _, _, rfl, rfl, (by show (0 : Int) < 2; decide), rfl, _, rfl, ?_⟩
        by_cases ho : m % 2 = 1
        · rw [decide_eq_true (show V.int ((m : Int) % 2) = V.int 1 by rw [e2, ho]; rfl)]
          rw [if_pos ho] at st
          refine iteT ⟨_, rfl, _, rfl, _, _, rfl, rfl, .inl ⟨by omega, by omega⟩, _, rfl, _, _, rfl, rfl, hn0, ?_⟩
          refine ⟨_, rfl, _, rfl, _, _, rfl, rfl, .inl ⟨by omega, by omega⟩, _, rfl, _, _, rfl, rfl, hn0, ?_⟩
          refine ⟨_, rfl, _, _, rfl, rfl, ⟨by decide, by decide⟩, rfl, r * s % n, s * s % n, Nat.mod_lt _ hn1, Nat.mod_lt _ hn1, st.symm.trans hrs, ?_⟩
          dsimp only
          rw [icm, icm, e3]
          rfl
        · rw [decide_eq_false (show ¬ V.int ((m : Int) % 2) = V.int 1 from fun z => ho (by have := V.int.inj z; omega))]
          rw [if_neg ho] at st
          refine iteF ?_
          refine ⟨_, rfl, _, rfl, _, _, rfl, rfl, .inl ⟨by omega, by omega⟩, _, rfl, _, _, rfl, rfl, hn0, ?_⟩
          refine ⟨_, rfl, _, _, rfl, rfl, ⟨by decide, by decide⟩, rfl, r, s * s % n, hr1, Nat.mod_lt _ hn1, st.symm.trans hrs, ?_⟩
          dsimp only
          rw [icm, e3]
          rfl
    · rw [decide_eq_false hc]
      refine iteF ⟨_, rfl, ?_⟩
      have z : m = 0 := by omega
      subst z
      rw [Nat.pow_zero, Nat.mul_one, Nat.mod_eq_of_lt hr1] at hrs
      rw [← hrs] at q
      exact q

def FR (b x n : Nat) : Prop := BN b n ∧ x < n ∧ Nat.gcd x n = 1
def sp_remainder_at : Sp := fun vs H Q _ => ∃ (b x n k : Nat) (a : Addr), vs = [.int b, .ref a, .int k] ∧ H a = some (.tup [.int x, .int n]) ∧ FR b x n ∧ k ≤ 10 ^ 30 ∧ Q (.int (rem b n x k : Nat)) H
theorem ok_remainder_at (T : Txt K mg) : FnOk P w K mg base CX0 6 T.d_remainder_at.f T.d_remainder_at.fd ["base", "fraction", "place"] sp_remainder_at := by
  refine T.d_remainder_at.F.ok sc_remainder_at (fun vs H Q E h => ?_) (fun cdv A outer s H vs Q E hr h => ?_)
  · obtain ⟨b, x, n, k, a, rfl, _⟩ := h; rfl
  · have hu := hu_of hr
    refine ⟨_, (pss_cons (ps_expr (pe_call (ok_need_base T) (hr.mono (by decide)) (by rfl) T.d_need_base.m T.d_need_base.F.kp T.d_need_base.b .nil pass0 (pa_cons (pv 0) pa_nil)))
      (pss_cons (ps_asg (pe_call (ok_need_fraction T) (hr.mono (by decide)) (by rfl) T.d_need_fraction.m T.d_need_fraction.F.kp T.d_need_fraction.b .nil pass0 (pa_cons (pv 1) pa_nil)) (pg_tup (by rfl) (pgs_cons (pg_name (i := 3) sc_remainder_at.nd rfl (by first | exact .inl rfl | exact .inr rfl)) (pgs_cons (pg_name (i := 4) sc_remainder_at.nd rfl (by first | exact .inl rfl | exact .inr rfl)) pgs_nil))))
      (pss_cons (ps_if (pt_not (pt_val (pe_call (ok_is_within T) (hr.mono (by decide)) (by rfl) T.d_is_within.m T.d_is_within.F.kp T.d_is_within.b .nil pass0 (pa_cons (pv 2) (pa_cons pe_int (pa_cons (pe_glob (v := .int 1000000000000000000000000000000) (by rfl) T.c_LAST_PLACE ⟨_, rfl⟩) pa_nil)))))) (pss_one ps_never) pss_nil)
      (pss_one (ps_ret (pe_op op_mod (pe_op op_mul (pv 3) (pe_call (ok_power_rest T) (hr.mono (by decide)) (by rfl) T.d_power_rest.m T.d_power_rest.F.kp T.d_power_rest.b .nil pass0 (pa_cons (pv 0) (pa_cons (pv 2) (pa_cons (pv 4) pa_nil))))) (pv 4))))))), ?_⟩
    obtain ⟨b, x, n, k, a, rfl, ha, ⟨⟨hb1, hb2, hn1, hn2⟩, hx, hg⟩, hk, q⟩ := h
    refine ⟨_, rfl, b, rfl, ⟨by omega, by omega⟩, ?_⟩
    refine ⟨_, rfl, a, x, n, rfl, ha, ⟨hx, hn2, hg⟩, ?_⟩
    refine ⟨a, _, rfl, sq_tup ha, rfl, _, _, rfl, _, _, rfl, rfl, ?_⟩
    refine ⟨_, rfl, k, _, _, rfl, ⟨by omega, by omega⟩, true, rfl, iteF ?_⟩
    refine ⟨_, rfl, _, rfl, _, rfl, _, rfl, b, k, n, rfl, ⟨hn1, hn2⟩, ?_⟩
    have hl : b ^ k % n < n := Nat.mod_lt _ hn1
    refine ⟨x, _, rfl, rfl, .inl ⟨by omega, by omega⟩, _, rfl, _, n, rfl, rfl, (show (0 : Int) < (n : Int) by omega), ?_⟩
    dsimp only
    rw [icm, show x * (b ^ k % n) % n = rem b n x k by unfold rem; rw [Nat.mul_mod_mod]]
    exact q

def sp_digit_at : Sp := fun vs H Q _ => ∃ (b x n k : Nat) (a : Addr), vs = [.int b, .ref a, .int k] ∧ H a = some (.tup [.int x, .int n]) ∧ FR b x n ∧ k ≤ 10 ^ 30 ∧ Q (.int (rem b n x k * b / n : Nat)) H

def sp_digits_from : Sp := fun vs H Q _ => ∃ (b x n k c : Nat) (a : Addr), vs = [.int b, .ref a, .int k, .int c] ∧ H a = some (.tup [.int x, .int n]) ∧ FR b x n ∧ (k ≤ 10 ^ 30 ∧ c ≤ 400) ∧
  ∀ t H', Gr [] H H' → H' t = some (.tup (dgf b n x k c)) → Q (.ref t) H'
theorem rem_add (b n x i j : Nat) : rem b n (rem b n x i) j = rem b n x (i + j) := by
  unfold rem
  rw [Nat.mod_mul_mod, Nat.mul_assoc, ← Nat.pow_add]
theorem dgs_dgf (b n x k c : Nat) : dgs b n (rem b n x k) c = dgf b n x k c := by
  unfold dgs dgf
  simp only [rem_add]
theorem ok_digits_from (T : Txt K mg) : FnOk P w K mg base CX0 7 T.d_digits_from.f T.d_digits_from.fd ["base", "fraction", "place", "count"] sp_digits_from := by
  refine T.d_digits_from.F.ok sc_digits_from (fun vs H Q E h => ?_) (fun cdv A outer s H vs Q E hr h => ?_)
  · obtain ⟨b, x, n, k, c, a, rfl, _⟩ := h; rfl
  · have hu := hu_of hr
    refine ⟨_, (pss_cons (ps_set (i := 4) sc_digits_from.nd rfl (by first | exact .inl rfl | exact .inr rfl) (pe_call (ok_remainder_at T) (hr.mono (by decide)) (by rfl) T.d_remainder_at.m T.d_remainder_at.F.kp T.d_remainder_at.b .nil pass0 (pa_cons (pv 0) (pa_cons (pv 1) (pa_cons (pv 2) pa_nil)))))
      (pss_cons (ps_if (pt_not (pt_val (pe_call (ok_is_within T) (hr.mono (by decide)) (by rfl) T.d_is_within.m T.d_is_within.F.kp T.d_is_within.b .nil pass0 (pa_cons (pv 3) (pa_cons pe_int (pa_cons (pe_glob (v := .int 400) (by rfl) T.c_MOST_DIGITS ⟨_, rfl⟩) pa_nil)))))) (pss_one ps_never) pss_nil)
      (pss_one (ps_ret (pe_call (ok_divided T) (hr.mono (by decide)) (by rfl) T.d_divided.m T.d_divided.F.kp T.d_divided.b .nil pass0 (pa_cons (pv 0) (pa_cons (pv 4) (pa_cons (pe_ix (r := rIxT K) ix_tup (pv 1) pe_int (fun _ _ => rfl)) (pa_cons (pv 3) pa_nil))))))))), ?_⟩
    obtain ⟨b, x, n, k, c, a, rfl, ha, hf, ⟨hk, hc⟩, q⟩ := h
    obtain ⟨hbn, hx, hg⟩ := id hf
    have hn1 := hbn.2.2.1
    refine ⟨_, rfl, _, rfl, _, rfl, b, x, n, k, a, rfl, ha, hf, hk, ?_⟩
    refine ⟨_, rfl, c, _, _, rfl, ⟨by omega, by omega⟩, true, rfl, iteF ?_⟩
    refine ⟨_, rfl, _, rfl, _, rfl, a, _, _, .int n, rfl, rfl, sq_tup ha, atI_nat (j := 1) rfl, ?_⟩
    refine ⟨_, rfl, b, rem b n x k, n, c, rfl, ⟨hbn, rem_lt hn1, by omega⟩, fun t H' g h => q t H' g ?_⟩
    rw [h, dgs_dgf]


def sp_need_pure : Sp := fun vs H Q _ => ∃ b n : Nat, vs = [.int b, .int n] ∧ BN b n ∧ Nat.gcd b n = 1 ∧ Q (.int n) H
theorem ok_need_pure (T : Txt K mg) : FnOk P w K mg base CX0 4 T.d_need_pure.f T.d_need_pure.fd ["base", "denominator"] sp_need_pure := by
  refine T.d_need_pure.F.ok sc_need_pure (fun vs H Q E h => ?_) (fun cdv A outer s H vs Q E hr h => ?_)
  · obtain ⟨b, n, rfl, _⟩ := h; rfl
  · have hu := hu_of hr
    refine ⟨_, (pss_cons (ps_expr (pe_call (ok_need_base T) (hr.mono (by decide)) (by rfl) T.d_need_base.m T.d_need_base.F.kp T.d_need_base.b .nil pass0 (pa_cons (pv 0) pa_nil)))
      (pss_cons (ps_expr (pe_call (ok_need_denominator T) (hr.mono (by decide)) (by rfl) T.d_need_denominator.m T.d_need_denominator.F.kp T.d_need_denominator.b .nil pass0 (pa_cons (pv 1) pa_nil)))
      (pss_cons (ps_if (pt_cmpR op_ne (pe_callBfun cr_gcd (by rfl) T.b_gcd (pa_cons (pv 0) (pa_cons (pv 1) pa_nil))) pe_int (nomark _)) (pss_one ps_never) pss_nil)
      (pss_one (ps_ret (pv 1)))))), ?_⟩
    obtain ⟨b, n, rfl, ⟨hb1, hb2, hn1, hn2⟩, hg, q⟩ := h
    refine ⟨_, rfl, b, rfl, ⟨by omega, by omega⟩, ?_⟩
    refine ⟨_, rfl, n, rfl, ⟨by omega, by omega⟩, ?_⟩
    refine ⟨_, rfl, _, rfl, b, n, rfl, rfl, _, rfl, ?_⟩
    have e : (!decide (V.int ((Nat.gcd (b : Int).natAbs (n : Int).natAbs : Nat) : Int) = V.int 1)) = false := by
      rw [Int.natAbs_natCast, Int.natAbs_natCast, hg]
      rfl
    rw [e]
    exact iteF ⟨_, rfl, q⟩

def spc (b n x s c : Nat) : List Nat := (List.range c).map fun i => rem b n x (s * i)
theorem spc_len (b n x s c : Nat) : (spc b n x s c).length = c := by simp [spc]
def sp_spaced : Sp := fun vs H Q _ => ∃ (b x n s c : Nat) (a : Addr), vs = [.int b, .ref a, .int s, .int c] ∧ H a = some (.tup [.int x, .int n]) ∧ (1 ≤ n ∧ n ≤ 5000 ∧ x < n ∧ c ≤ 5000) ∧
  ∀ t H', Gr [] H H' → H' t = some (.tup (vn (spc b n x s c))) → Q (.ref t) H'
theorem ok_spaced (T : Txt K mg) : FnOk P w K mg base CX0 2 T.d_spaced.f T.d_spaced.fd ["base", "fraction", "size", "count"] sp_spaced := by
  refine T.d_spaced.F.ok sc_spaced (fun vs H Q E h => ?_) (fun cdv A outer s H vs Q E hr h => ?_)
  · obtain ⟨b, x, n, s, c, a, rfl, _⟩ := h; rfl
  · have hu := hu_of hr
    refine ⟨_, (pss_cons (ps_asg (pv 1) (pg_tup (by rfl) (pgs_cons (pg_name (i := 4) sc_spaced.nd rfl (by first | exact .inl rfl | exact .inr rfl)) (pgs_cons (pg_name (i := 5) sc_spaced.nd rfl (by first | exact .inl rfl | exact .inr rfl)) pgs_nil))))
      (pss_cons (ps_set (i := 6) sc_spaced.nd rfl (by first | exact .inl rfl | exact .inr rfl) (pe_call (ok_power_rest T) (hr.mono (by decide)) (by rfl) T.d_power_rest.m T.d_power_rest.F.kp T.d_power_rest.b .nil pass0 (pa_cons (pv 0) (pa_cons (pv 2) (pa_cons (pv 5) pa_nil)))))
      (pss_cons (ps_set (i := 7) sc_spaced.nd rfl (by first | exact .inl rfl | exact .inr rfl) (pe_lst pa_nil))
      (pss_cons (ps_set (i := 8) sc_spaced.nd rfl (by first | exact .inl rfl | exact .inr rfl) (pv 4))
      (pss_cons (ps_for PassesOwn.never rfl (pi_range1 (by rfl) T.b_range (pa_cons (pv 3) pa_nil)) (pg_name (i := 9) sc_spaced.nd rfl (by first | exact .inl rfl | exact .inr rfl)) (pss_cons (ps_expr (pe_bm PySem.F.plainAttrs_list PySem.F.slot_list_append PySem.F.type_list_append mt_append (pv 7) (pa_cons (pv 8) pa_nil)))
      (pss_one (ps_set (i := 8) sc_spaced.nd rfl (by first | exact .inl rfl | exact .inr rfl) (pe_op op_mod (pe_op op_mul (pv 8) (pv 6)) (pv 5))))))
      (pss_one (ps_ret (pe_callTy (r := rTpO K) call_tpO (by rfl) T.b_tuple (by decide +kernel) (pa_cons (pv 7) pa_nil))))))))), ?_⟩
    obtain ⟨b, x, n, s, c, a, rfl, ha, ⟨hn1, hn2, hx, hc⟩, q⟩ := h
    refine ⟨_, rfl, a, _, rfl, sq_tup ha, rfl, _, _, rfl, _, _, rfl, rfl, ?_⟩
    refine ⟨_, rfl, _, rfl, _, rfl, b, s, n, rfl, ⟨hn1, hn2⟩, ?_⟩
    refine ⟨Nat.zero_le _, fun l nl => ?_⟩
    refine ⟨_, rfl, ?_⟩
    refine ⟨_, rfl, (c : Int), rfl, by omega, by omega, ?_⟩
    have hl : b ^ s % n < n := Nat.mod_lt _ hn1
    refine for_range (lo := 0) (n := (c : Int).toNat) (fun i σ H' => Gr [] H H' ∧ H' l = some (.lst (vn (spc b n x s i))) ∧ ∃ v, σ = [some (.int b), some (.ref a), some (.int s), some (.int c), some (.int x), some (.int n), some (.int (b ^ s % n : Nat)), some (.ref l), some (.int (rem b n x (s * i) : Nat)), v]) ⟨Gr.new nl, upd_same, none, ?_⟩ ?_ ?_
    · rw [Nat.mul_zero, rem_zero hx]
      rfl
    · rintro i σ H' hi ⟨G, hL, v, rfl⟩
      have hr1 := rem_lt (b := b) (n := n) (x := x) (i := s * i) hn1
      refine ⟨_, rfl, .inl ⟨rfl, _, sq_lst hL⟩, _, rfl, l, _, _, rfl, rfl, hL, by rw [vn_len, spc_len]; exact small5 (by omega), ?_⟩
      refine ⟨_, rfl, _, rfl, _, _, rfl, rfl, .inl ⟨by omega, by omega⟩, _, rfl, _, n, rfl, rfl, (show (0 : Int) < (n : Int) by omega), ?_⟩
      dsimp only
      rw [icm, show rem b n x (s * i) * (b ^ s % n) % n = rem b n x (s * (i + 1)) by unfold rem; rw [Nat.mul_mod_mod, Nat.mod_mul_mod, Nat.mul_assoc, ← Nat.pow_add, Nat.mul_succ]]
      refine ⟨fun u o _ e => ?_, ?_, _, rfl⟩
      · rw [upd_ne (ne_of_none e nl)]
        exact G u o (by simp) e
      · rw [upd_same, vn_snoc]
        unfold spc
        rw [List.range_succ, List.map_append]
        rfl
    rintro σ H2 ⟨G, hL, v, rfl⟩
    rw [Int.toNat_natCast] at hL
    refine ⟨_, rfl, l, _, rfl, .inl ⟨sq_lst hL, fun t nt => ?_⟩⟩
    exact q t _ (G.trans (Gr.new nt)) upd_same

def sp_is_balanced_with : Sp := fun vs H Q _ => ∃ b n s c : Nat, vs = [.int b, .int n, .int s, .int c] ∧ (2 ≤ n ∧ n ≤ 5000 ∧ c ≤ 5000) ∧ ∀ H', Gr [] H H' → Q (.bl (bal b n s c)) H'
theorem ok_is_balanced_with (T : Txt K mg) : FnOk P w K mg base CX0 3 T.d_is_balanced_with.f T.d_is_balanced_with.fd ["base", "denominator", "size", "cut"] sp_is_balanced_with := by
  refine T.d_is_balanced_with.F.ok sc_is_balanced_with (fun vs H Q E h => ?_) (fun cdv A outer s H vs Q E hr h => ?_)
  · obtain ⟨b, n, s, c, rfl, _⟩ := h; rfl
  · have hu := hu_of hr
    refine ⟨_, (pss_one (ps_ret (pe_cmpR op_eq (pe_op op_mod (pe_callB (r := rSumT K) (cr_sumT rfl) (by rfl) T.b_sum (by decide +kernel) (pa_cons (pe_call (ok_spaced T) (hr.mono (by decide)) (by rfl) T.d_spaced.m T.d_spaced.F.kp T.d_spaced.b .nil pass0 (pa_cons (pv 0) (pa_cons (pe_tup (pa_cons pe_int (pa_cons (pv 1) pa_nil))) (pa_cons (pv 2) (pa_cons (pv 3) pa_nil))))) pa_nil)) (pv 1)) pe_int (nomark _)))), ?_⟩
    obtain ⟨b, n, s, c, rfl, ⟨hn1, hn2, hc⟩, q⟩ := h
    refine ⟨_, rfl, _, rfl, by show 2 ≤ sizeLine; decide, fun p np => ?_⟩
    refine ⟨_, rfl, _, rfl, b, 1, n, s, c, p, rfl, upd_same, ⟨by omega, hn2, by omega, hc⟩, fun t H1 g1 h1 => ?_⟩
    refine ⟨t, ni (spc b n 1 s c), rfl, by rw [← vn_ni]; exact sq_tup h1, ?_⟩
    refine ⟨_, rfl, _, n, rfl, rfl, (show (0 : Int) < (n : Int) by omega), ?_⟩
    dsimp only
    rw [ni_sum]
    have e : decide (V.int ((((spc b n 1 s c).sum : Nat) : Int) % (n : Int)) = V.int 0) = bal b n s c := by
      unfold bal
      rw [← Int.natCast_emod]
      show _ = decide ((spc b n 1 s c).sum % n = 0)
      by_cases z : (spc b n 1 s c).sum % n = 0
      · rw [decide_eq_true z, z]
        rfl
      · rw [decide_eq_false z, decide_eq_false (fun y => z (by have := V.int.inj y; omega))]
    have fin := q _ ((Gr.new np).trans g1)
    rw [← e] at fin
    exact ⟨rfl, fin⟩

def PF (b x n : Nat) : Prop := BN b n ∧ x < n ∧ Nat.gcd x n = 1 ∧ Nat.gcd b n = 1
def sp_need_pure_fraction : Sp := fun vs H Q _ => ∃ (b x n : Nat) (a : Addr), vs = [.int b, .ref a] ∧ H a = some (.tup [.int x, .int n]) ∧ PF b x n ∧ Q (.ref a) H
theorem ok_need_pure_fraction (T : Txt K mg) : FnOk P w K mg base CX0 4 T.d_need_pure_fraction.f T.d_need_pure_fraction.fd ["base", "fraction"] sp_need_pure_fraction := by
  refine T.d_need_pure_fraction.F.ok sc_need_pure_fraction (fun vs H Q E h => ?_) (fun cdv A outer s H vs Q E hr h => ?_)
  · obtain ⟨b, x, n, a, rfl, _⟩ := h; rfl
  · have hu := hu_of hr
    refine ⟨_, (pss_cons (ps_expr (pe_call (ok_need_base T) (hr.mono (by decide)) (by rfl) T.d_need_base.m T.d_need_base.F.kp T.d_need_base.b .nil pass0 (pa_cons (pv 0) pa_nil)))
      (pss_cons (ps_expr (pe_call (ok_need_fraction T) (hr.mono (by decide)) (by rfl) T.d_need_fraction.m T.d_need_fraction.F.kp T.d_need_fraction.b .nil pass0 (pa_cons (pv 1) pa_nil)))
      (pss_cons (ps_if (pt_cmpR op_ne (pe_callBfun cr_gcd (by rfl) T.b_gcd (pa_cons (pv 0) (pa_cons (pe_ix (r := rIxT K) ix_tup (pv 1) pe_int (fun _ _ => rfl)) pa_nil))) pe_int (nomark _)) (pss_one ps_never) pss_nil)
      (pss_one (ps_ret (pv 1)))))), ?_⟩
    obtain ⟨b, x, n, a, rfl, ha, ⟨⟨hb1, hb2, hn1, hn2⟩, hx, hg, hp⟩, q⟩ := h
    refine ⟨_, rfl, b, rfl, ⟨by omega, by omega⟩, ?_⟩
    refine ⟨_, rfl, a, x, n, rfl, ha, ⟨hx, hn2, hg⟩, ?_⟩
    refine ⟨_, rfl, _, rfl, a, _, _, .int n, rfl, rfl, sq_tup ha, atI_nat (j := 1) rfl, b, n, rfl, rfl, _, rfl, ?_⟩
    have e : (!decide (V.int ((Nat.gcd (b : Int).natAbs (n : Int).natAbs : Nat) : Int) = V.int 1)) = false := by
      rw [Int.natAbs_natCast, Int.natAbs_natCast, hp]
      rfl
    rw [e]
    exact iteF ⟨_, rfl, q⟩

def sp_piece_size : Sp := fun vs H Q _ => ∃ b n L c : Nat, vs = [.int b, .int n, .int c] ∧ BN b n ∧ Nat.gcd b n = 1 ∧ IsPer b n L ∧ (2 ≤ c ∧ c ∣ L) ∧ Q (.int (L / c : Nat)) H
theorem ok_piece_size (T : Txt K mg) : FnOk P w K mg base CX0 6 T.d_piece_size.f T.d_piece_size.fd ["base", "denominator", "cut"] sp_piece_size := by
  refine T.d_piece_size.F.ok sc_piece_size (fun vs H Q E h => ?_) (fun cdv A outer s H vs Q E hr h => ?_)
  · obtain ⟨b, n, L, c, rfl, _⟩ := h; rfl
  · have hu := hu_of hr
    refine ⟨_, (pss_cons (ps_set (i := 3) sc_piece_size.nd rfl (by first | exact .inl rfl | exact .inr rfl) (pe_call (ok_period T) (hr.mono (by decide)) (by rfl) T.d_period.m T.d_period.F.kp T.d_period.b .nil pass0 (pa_cons (pv 0) (pa_cons (pv 1) pa_nil))))
      (pss_cons (ps_if (PW.pt (pw_or (pt_not (pt_val (pe_call (ok_is_within T) (hr.mono (by decide)) (by rfl) T.d_is_within.m T.d_is_within.F.kp T.d_is_within.b .nil pass0 (pa_cons (pv 2) (pa_cons pe_int (pa_cons (pv 3) pa_nil)))))) (pw_or1 (pt_cmpR op_ne (pe_op op_mod (pv 3) (pv 2)) pe_int (nomark _))))) (pss_one ps_never) pss_nil)
      (pss_one (ps_ret (pe_op op_fdiv (pv 3) (pv 2)))))), ?_⟩
    obtain ⟨b, n, L, c, rfl, hbn, hg, hP, ⟨hc, hd⟩, q⟩ := h
    obtain ⟨hb1, hb2, hn1, hn2⟩ := id hbn
    have hL1 := hP.1
    have hLn := per_le hn1 hg hP
    have hcL := Nat.le_of_dvd hL1 hd
    refine ⟨_, rfl, _, rfl, b, n, rfl, hbn, fun p d hp hd' => ?_⟩
    have ep : p = n := hp.uniq (IsPure.self hg)
    subst ep
    have ed : d = L := hd'.uniq hP
    subst ed
    refine ⟨_, rfl, _, rfl, c, _, _, rfl, ⟨by omega, by omega⟩, true, rfl, iteF ?_⟩
    refine ⟨_, rfl, _, rfl, _, _, rfl, rfl, (show (0 : Int) < (c : Int) by omega), rfl, _, rfl, ?_⟩
    have e0 : (d : Int) % (c : Int) = 0 := by rw [← Int.natCast_emod, Nat.mod_eq_zero_of_dvd hd]; rfl
    rw [show (!decide (V.int ((d : Int) % (c : Int)) = V.int 0)) = false by rw [e0]; rfl]
    refine iteF ⟨_, rfl, _, rfl, _, _, rfl, rfl, ⟨by omega, by omega⟩, ?_⟩
    dsimp only
    rw [← Int.natCast_ediv]
    exact q

def sp_number_of : Sp := fun vs H Q _ => ∃ (b : Nat) (t : Addr) (ds : List Nat), vs = [.int b, .ref t] ∧ H t = some (.tup (vn ds)) ∧ b ≤ 1000 ∧ Q (.int (wrt b ds : Nat)) H
theorem wrt_step {b : Nat} {ds : List Nat} {i : Nat} (hi : i < ds.length) : wrt b (ds.take (i + 1)) = wrt b (ds.take i) * b + ds[i] := by
  rw [List.take_succ_eq_append_getElem hi, wrt_snoc]
theorem ok_number_of (T : Txt K mg) : FnOk P w K mg base CX0 1 T.d_number_of.f T.d_number_of.fd ["base", "row"] sp_number_of := by
  refine T.d_number_of.F.ok sc_number_of (fun vs H Q E h => ?_) (fun cdv A outer s H vs Q E hr h => ?_)
  · obtain ⟨b, t, ds, rfl, _⟩ := h; rfl
  · have hu := hu_of hr
    refine ⟨_, (pss_cons (ps_set (i := 2) sc_number_of.nd rfl (by first | exact .inl rfl | exact .inr rfl) pe_int)
      (pss_cons (ps_for PassesOwn.never rfl (pi_tup (pv 1)) (pg_name (i := 3) sc_number_of.nd rfl (by first | exact .inl rfl | exact .inr rfl)) (pss_one (ps_set (i := 2) sc_number_of.nd rfl (by first | exact .inl rfl | exact .inr rfl) (pe_op op_add (pe_op op_mul (pv 2) (pv 0)) (pv 3)))))
      (pss_one (ps_ret (pv 2))))), ?_⟩
    obtain ⟨b, t, ds, rfl, ht, hb, q⟩ := h
    refine ⟨_, rfl, t, rfl, ⟨_, sq_tup ht⟩, ?_⟩
    refine for_tup (K := K) (a := t) (xs := vn ds) (fun i σ H' => H' = H ∧ ∃ v, σ = [some (.int b), some (.ref t), some (.int (wrt b (ds.take i) : Nat)), v]) ⟨rfl, none, ?_⟩ (fun i σ H' _ z => by rw [z.1]; exact sq_tup ht) ?_ ?_
    · rfl
    · rintro i y σ H' hy ⟨rfl, v, rfl⟩
      obtain ⟨hi, rfl⟩ := vn_get hy
      refine ⟨_, rfl, _, rfl, _, _, rfl, rfl, .inr ⟨by omega, by omega⟩, _, rfl, _, _, rfl, rfl, rfl, some (.int (ds[i] : Nat)), ?_⟩
      dsimp only
      rw [wrt_step hi, Int.natCast_add, Int.natCast_mul]
      rfl
    rintro σ H' ⟨rfl, v, rfl⟩
    rw [List.take_of_length_le (by rw [vn_len]; exact Nat.le_refl _)]
    exact ⟨_, rfl, q⟩

theorem dgf_vn (b n x lo c : Nat) : dgf b n x lo c = vn (dg b n x lo c) := by
  unfold dgf vn dg
  rw [List.map_map]
  rfl
theorem dg_cut {b n x L lo hi : Nat} (h1 : lo ≤ hi) (h2 : hi ≤ L) : cutV (vn (dg b n x 0 L)) (some (lo : Int)) (some (hi : Int)) = vn (dg b n x lo (hi - lo)) := by
  unfold cutV
  rw [HT.sIx_nat, HT.sIx_nat, vn_len, dg_len, Nat.min_eq_left h2, Nat.min_eq_left (Nat.le_trans h1 h2)]
  unfold vn dg
  rw [← List.map_drop, ← List.map_take, ← List.map_drop, ← List.map_take]
  rw [List.map_map, List.map_map]
  apply List.ext_getElem
  · simp
    omega
  · intro i i1 i2
    simp
theorem par_pure {b n p q h L : Nat} (hn : 1 ≤ n) (hg : Nat.gcd b n = 1) (P : Par b n p q h L) : p = n ∧ h = 0 := by
  have ep := P.hp.uniq (IsPure.self hg)
  subst ep
  have eq1 : q = 1 := by
    have := P.e
    have : p * 1 = p * q := by omega
    exact (Nat.eq_of_mul_eq_mul_left (by omega) this).symm
  subst eq1
  exact ⟨rfl, P.hh.uniq ⟨Nat.mod_one _, fun j hj => absurd hj (Nat.not_lt_zero _)⟩⟩
def CT (b n L k c : Nat) : Prop := IsPer b n L ∧ 2 ≤ c ∧ 1 ≤ k ∧ L = k * c
theorem CT.d {b n L k c : Nat} (h : CT b n L k c) : c ∣ L ∧ L / c = k := by
  obtain ⟨h1, h2, h3, h4⟩ := h
  exact ⟨⟨k, by rw [h4, Nat.mul_comm]⟩, by rw [h4]; exact Nat.mul_div_cancel _ (by omega)⟩
def sp_pieces : Sp := fun vs H Q _ => ∃ (b x n L k c : Nat) (a : Addr), vs = [.int b, .ref a, .int c] ∧ H a = some (.tup [.int x, .int n]) ∧ PF b x n ∧ CT b n L k c ∧
  ∀ t H', Gr [] H H' → H' t = some (.tup (vn (pcs b n x k c))) → Q (.ref t) H'
theorem ok_pieces (T : Txt K mg) : FnOk P w K mg base CX0 7 T.d_pieces.f T.d_pieces.fd ["base", "fraction", "cut"] sp_pieces := by
  refine T.d_pieces.F.ok sc_pieces (fun vs H Q E h => ?_) (fun cdv A outer s H vs Q E hr h => ?_)
  · obtain ⟨b, x, n, L, k, c, a, rfl, _⟩ := h; rfl
  · have hu := hu_of hr
    refine ⟨_, (pss_cons (ps_expr (pe_call (ok_need_pure_fraction T) (hr.mono (by decide)) (by rfl) T.d_need_pure_fraction.m T.d_need_pure_fraction.F.kp T.d_need_pure_fraction.b .nil pass0 (pa_cons (pv 0) (pa_cons (pv 1) pa_nil))))
      (pss_cons (ps_set (i := 3) sc_pieces.nd rfl (by first | exact .inl rfl | exact .inr rfl) (pe_call (ok_piece_size T) (hr.mono (by decide)) (by rfl) T.d_piece_size.m T.d_piece_size.F.kp T.d_piece_size.b .nil pass0 (pa_cons (pv 0) (pa_cons (pe_ix (r := rIxT K) ix_tup (pv 1) pe_int (fun _ _ => rfl)) (pa_cons (pv 2) pa_nil)))))
      (pss_cons (ps_set (i := 4) sc_pieces.nd rfl (by first | exact .inl rfl | exact .inr rfl) (pe_ix (r := rIxT K) ix_tup (pe_call (ok_expansion T) (hr.mono (by decide)) (by rfl) T.d_expansion.m T.d_expansion.F.kp T.d_expansion.b .nil pass0 (pa_cons (pv 0) (pa_cons (pv 1) pa_nil))) pe_int (fun _ _ => rfl)))
      (pss_one (ps_ret (pe_callTy (r := rTpO K) call_tpO (by rfl) T.b_tuple (by decide +kernel) (pa_cons (pe_lc (own := [("at", 5)]) (g := gName 5) (tt := tYes) rfl sc_pieces.nd (pi_range1 (by rfl) T.b_range (pa_cons (pv 2) pa_nil)) (blkOk_by (own := [("at", 5)]) (N := ["base", "fraction", "cut", "size", "repetend", "at"]) (sc := defScope s_pieces) (by decide +kernel)) (fun _ _ _ _ _ => (pg_name (i := 5) sc_pieces.nd rfl (by first | exact .inl rfl | exact .inr rfl))) (fun _ _ _ _ _ => pts_nil) (fun _ _ _ _ _ => (pe_call (ok_number_of T) (hr.mono (by decide)) (by rfl) T.d_number_of.m T.d_number_of.F.kp T.d_number_of.b .nil pass0 (pa_cons (pv 0) (pa_cons (pe_slice (r := rSlA K) sl_tupA (pv 4) (po_some (pe_op op_mul (pv 5) (pv 3))) (po_some (pe_op op_mul (pe_op op_add (pv 5) pe_int) (pv 3)))) pa_nil))))) pa_nil))))))), ?_⟩
    obtain ⟨b, x, n, L, k, c, a, rfl, ha, hf, hC, q⟩ := h
    obtain ⟨⟨hb1, hb2, hn1, hn2⟩, hx, hg, hp⟩ := id hf
    obtain ⟨hP, hc2, hk1, hL⟩ := id hC
    obtain ⟨cd, ce⟩ := hC.d
    have hLn := per_le hn1 hp hP
    have hcL : c ≤ L := Nat.le_of_dvd hP.1 cd
    refine ⟨_, rfl, _, rfl, b, x, n, a, rfl, ha, hf, ?_⟩
    refine ⟨_, rfl, _, rfl, a, _, _, .int n, rfl, rfl, sq_tup ha, atI_nat (j := 1) rfl, _, rfl, b, n, L, c, rfl, hf.1, hp, hP, ⟨hc2, cd⟩, ?_⟩
    rw [ce]
    refine ⟨_, rfl, _, rfl, b, x, n, a, rfl, ha, ⟨hf.1, hx, hg⟩, fun p q0 h L0 t H1 h1 h2 h3 h4 g1 E => ?_⟩
    have P : Par b n p q0 h L0 := ⟨h1, h2, h3, h4⟩
    obtain ⟨rfl, rfl⟩ := par_pure hn1 hp P
    have eL := h4.uniq hP
    subst eL
    obtain ⟨a1, a2, e0, e1, e2⟩ := E.at_
    refine ⟨t, _, _, .ref a2, rfl, rfl, sq_tup e0, atI_nat (j := 1) rfl, ?_⟩
    rw [dgf_vn] at e2
    refine ⟨_, rfl, (c : Int), rfl, by omega, by omega, fun D nD => ?_⟩
    refine lc_range (lo := 0) (n := ((c : Int)).toNat) (fun i H' => Gr [] H1 H' ∧ H' D = some (.lst (vn (pcs b p x k i)))) ⟨Gr.new nD, upd_same⟩ ?_ ?_
    · rintro i H' hi ⟨G, hD⟩
      have e2' := G a2 _ (by simp) e2
      have hi' : i < c := by omega
      have hm : k * i + k ≤ k * c := by
        rw [← Nat.mul_succ]
        exact Nat.mul_le_mul_left _ hi'
      have ei : (0 : Int) + (i : Int) = ((i : Nat) : Int) := by omega
      rw [ei]
      refine ⟨rfl, ?_⟩
      dsimp only [tYes]
      refine iteT ?_
      refine ⟨_, rfl, _, rfl, _, rfl, _, rfl, _, _, rfl, rfl, .inl ⟨by omega, by omega⟩, _, rfl, _, rfl, _, _, rfl, rfl, _, rfl, _, _, rfl, rfl, .inl ⟨by omega, by omega⟩, _, rfl, ?_⟩
      have q1 : (i : Int) * (k : Int) = ((k * i : Nat) : Int) := by rw [Int.natCast_mul, Int.mul_comm]
      have q2 : ((i : Int) + 1) * (k : Int) = ((k * i + k : Nat) : Int) := by rw [Int.natCast_add, Int.natCast_mul, Int.add_mul, Int.one_mul, Int.mul_comm]
      dsimp only
      rw [q1, q2]
      refine slA_of e2' fun u H2 g2 hu2 => ?_
      rw [dg_cut (by omega) (by omega), Nat.add_sub_cancel_left] at hu2
      have hD2 := g2 D _ (by simp) hD
      refine ⟨b, u, _, rfl, hu2, hb2, _, hD2, ?_, ?_, ?_⟩
      · rw [vn_len, pcs_len]
        exact small5 (by omega)
      · intro u o _ e
        rw [upd_ne (ne_of_none e nD)]
        exact (G.trans g2) u o (by simp) e
      · rw [upd_same, vn_snoc, pcs_succ]
        rfl
    rintro H2 ⟨g2, hD⟩
    rw [Int.toNat_natCast] at hD
    refine ⟨D, _, rfl, .inl ⟨sq_lst hD, fun u nu => ?_⟩⟩
    exact q u _ ((g1.trans g2).trans (Gr.new nu)) upd_same

def qv (b n x k c : Nat) : V := if restSum b n x k c % n = 0 then .int (restSum b n x k c / n : Nat) else .non
def sp_quotient : Sp := fun vs H Q _ => ∃ (b x n L k c : Nat) (a : Addr), vs = [.int b, .ref a, .int c] ∧ H a = some (.tup [.int x, .int n]) ∧ PF b x n ∧ CT b n L k c ∧
  ∀ H', Gr [] H H' → Q (qv b n x k c) H'
theorem ok_quotient (T : Txt K mg) : FnOk P w K mg base CX0 7 T.d_quotient.f T.d_quotient.fd ["base", "fraction", "cut"] sp_quotient := by
  refine T.d_quotient.F.ok sc_quotient (fun vs H Q E h => ?_) (fun cdv A outer s H vs Q E hr h => ?_)
  · obtain ⟨b, x, n, L, k, c, a, rfl, _⟩ := h; rfl
  · have hu := hu_of hr
    refine ⟨_, (pss_cons (ps_expr (pe_call (ok_need_pure_fraction T) (hr.mono (by decide)) (by rfl) T.d_need_pure_fraction.m T.d_need_pure_fraction.F.kp T.d_need_pure_fraction.b .nil pass0 (pa_cons (pv 0) (pa_cons (pv 1) pa_nil))))
      (pss_cons (ps_set (i := 3) sc_quotient.nd rfl (by first | exact .inl rfl | exact .inr rfl) (pe_call (ok_piece_size T) (hr.mono (by decide)) (by rfl) T.d_piece_size.m T.d_piece_size.F.kp T.d_piece_size.b .nil pass0 (pa_cons (pv 0) (pa_cons (pe_ix (r := rIxT K) ix_tup (pv 1) pe_int (fun _ _ => rfl)) (pa_cons (pv 2) pa_nil)))))
      (pss_cons (ps_set (i := 4) sc_quotient.nd rfl (by first | exact .inl rfl | exact .inr rfl) (pe_callB (r := rSumT K) (cr_sumT rfl) (by rfl) T.b_sum (by decide +kernel) (pa_cons (pe_call (ok_spaced T) (hr.mono (by decide)) (by rfl) T.d_spaced.m T.d_spaced.F.kp T.d_spaced.b .nil pass0 (pa_cons (pv 0) (pa_cons (pv 1) (pa_cons (pv 3) (pa_cons (pv 2) pa_nil))))) pa_nil)))
      (pss_cons (ps_if (pt_cmpR op_ne (pe_op op_mod (pv 4) (pe_ix (r := rIxT K) ix_tup (pv 1) pe_int (fun _ _ => rfl))) pe_int (nomark _)) (pss_one (ps_ret pe_non)) pss_nil)
      (pss_one (ps_ret (pe_op op_fdiv (pv 4) (pe_ix (r := rIxT K) ix_tup (pv 1) pe_int (fun _ _ => rfl))))))))), ?_⟩
    obtain ⟨b, x, n, L, k, c, a, rfl, ha, hf, hC, q⟩ := h
    obtain ⟨⟨hb1, hb2, hn1, hn2⟩, hx, hg, hp⟩ := id hf
    obtain ⟨hP, hc2, hk1, hL⟩ := id hC
    obtain ⟨cd, ce⟩ := hC.d
    have hLn := per_le hn1 hp hP
    have hcL : c ≤ L := Nat.le_of_dvd hP.1 cd
    refine ⟨_, rfl, _, rfl, b, x, n, a, rfl, ha, hf, ?_⟩
    refine ⟨_, rfl, _, rfl, a, _, _, .int n, rfl, rfl, sq_tup ha, atI_nat (j := 1) rfl, _, rfl, b, n, L, c, rfl, hf.1, hp, hP, ⟨hc2, cd⟩, ?_⟩
    rw [ce]
    refine ⟨_, rfl, _, rfl, _, rfl, _, rfl, b, x, n, k, c, a, rfl, ha, ⟨hn1, hn2, hx, by omega⟩, fun t H1 g1 h1 => ?_⟩
    have ha1 := g1 a _ (by simp) ha
    refine ⟨t, ni (spc b n x k c), rfl, by rw [← vn_ni]; exact sq_tup h1, ?_⟩
    rw [ni_sum]
    have es : (spc b n x k c).sum = restSum b n x k c := rfl
    rw [es]
    generalize hR : restSum b n x k c = R
    have fin := q H1 g1
    unfold qv at fin
    rw [hR] at fin
    refine ⟨_, rfl, _, rfl, a, _, _, .int n, rfl, rfl, sq_tup ha1, atI_nat (j := 1) rfl, _, n, rfl, rfl, (show (0 : Int) < (n : Int) by omega), rfl, _, rfl, ?_⟩
    have e0 : (R : Int) % (n : Int) = ((R % n : Nat) : Int) := by rw [← Int.natCast_emod]
    by_cases hz : R % n = 0
    · rw [show (!decide (V.int ((R : Int) % (n : Int)) = V.int 0)) = false by rw [e0, hz]; rfl]
      rw [if_pos hz] at fin
      refine iteF ⟨_, rfl, _, rfl, a, _, _, .int n, rfl, rfl, sq_tup ha1, atI_nat (j := 1) rfl, _, n, rfl, rfl, ⟨by omega, by omega⟩, ?_⟩
      dsimp only
      rw [← Int.natCast_ediv]
      exact fin
    · rw [show (!decide (V.int ((R : Int) % (n : Int)) = V.int 0)) = true by rw [decide_eq_false (fun y => hz (by rw [e0] at y; have := V.int.inj y; omega))]; rfl]
      rw [if_neg hz] at fin
      exact iteT fin

def shw (b n k c : Nat) (r : Nat × Nat) : Bool := decide (b ^ k % r.1 = 1) && decide (restSum b n 1 k c % r.1 ^ r.2 ≠ 0)
def sp_power : Sp := fun vs H Q _ => ∃ b k : Nat, vs = [.int b, .int k] ∧ (b ≤ 10000 ∧ k ≤ 100000) ∧ Q (.int (b ^ k : Nat)) H
theorem ok_power (T : Txt K mg) : FnOk P w K mg base CX0 1 T.d_power.f T.d_power.fd ["number", "exponent"] sp_power := by
  refine T.d_power.F.ok sc_power (fun vs H Q E h => ?_) (fun cdv A outer s H vs Q E hr h => ?_)
  · obtain ⟨b, k, rfl, _⟩ := h; rfl
  · have hu := hu_of hr
    refine ⟨_, (pss_cons (ps_set (i := 2) sc_power.nd rfl (by first | exact .inl rfl | exact .inr rfl) pe_int)
      (pss_cons (ps_for PassesOwn.never rfl (pi_range1 (by rfl) T.b_range (pa_cons (pv 1) pa_nil)) (pg_name (i := 3) sc_power.nd rfl (by first | exact .inl rfl | exact .inr rfl)) (pss_one (ps_set (i := 2) sc_power.nd rfl (by first | exact .inl rfl | exact .inr rfl) (pe_op op_mul (pv 2) (pv 0)))))
      (pss_one (ps_ret (pv 2))))), ?_⟩
    obtain ⟨b, k, rfl, ⟨hb, hk⟩, q⟩ := h
    refine ⟨_, rfl, (k : Int), rfl, by omega, by omega, ?_⟩
    refine for_range (lo := 0) (n := ((k : Int)).toNat) (fun i σ H' => H' = H ∧ ∃ v, σ = [some (.int b), some (.int k), some (.int (b ^ i : Nat)), v]) ⟨rfl, none, ?_⟩ ?_ ?_
    · rfl
    · rintro i σ H' hi ⟨rfl, v, rfl⟩
      refine ⟨_, rfl, _, rfl, _, _, rfl, rfl, .inr ⟨by omega, by omega⟩, rfl, some (.int (0 + (i : Int))), ?_⟩
      dsimp only
      rw [Nat.pow_succ, Int.natCast_mul]
      rfl
    rintro σ H' ⟨rfl, v, rfl⟩
    rw [Int.toNat_natCast]
    exact ⟨_, rfl, q⟩

def sp_shows_imbalance : Sp := fun vs H Q _ => ∃ (b n k c p e : Nat) (a : Addr), vs = [.int b, .int n, .int k, .int c, .ref a] ∧ H a = some (.tup [.int p, .int e]) ∧ (2 ≤ n ∧ n ≤ 5000 ∧ c ≤ 5000) ∧ (2 ≤ p ∧ p ≤ 5000 ∧ e ≤ 10000) ∧ ∀ H', Gr [] H H' → Q (.bl (shw b n k c (p, e))) H'
theorem ok_shows_imbalance (T : Txt K mg) : FnOk P w K mg base CX0 3 T.d_shows_imbalance.f T.d_shows_imbalance.fd ["base", "denominator", "size", "cut", "row"] sp_shows_imbalance := by
  refine T.d_shows_imbalance.F.ok sc_shows_imbalance (fun vs H Q E h => ?_) (fun cdv A outer s H vs Q E hr h => ?_)
  · obtain ⟨b, n, k, c, p, e, a, rfl, _⟩ := h; rfl
  · have hu := hu_of hr
    refine ⟨_, (pss_cons (ps_asg (pv 4) (pg_tup (by rfl) (pgs_cons (pg_name (i := 5) sc_shows_imbalance.nd rfl (by first | exact .inl rfl | exact .inr rfl)) (pgs_cons (pg_name (i := 6) sc_shows_imbalance.nd rfl (by first | exact .inl rfl | exact .inr rfl)) pgs_nil))))
      (pss_cons (ps_if (pt_cmpR op_ne (pe_call (ok_power_rest T) (hr.mono (by decide)) (by rfl) T.d_power_rest.m T.d_power_rest.F.kp T.d_power_rest.b .nil pass0 (pa_cons (pv 0) (pa_cons (pv 2) (pa_cons (pv 5) pa_nil)))) pe_int (nomark _)) (pss_one (ps_ret pe_bl)) pss_nil)
      (pss_one (ps_ret (pe_cmpR op_ne (pe_op op_mod (pe_callB (r := rSumT K) (cr_sumT rfl) (by rfl) T.b_sum (by decide +kernel) (pa_cons (pe_call (ok_spaced T) (hr.mono (by decide)) (by rfl) T.d_spaced.m T.d_spaced.F.kp T.d_spaced.b .nil pass0 (pa_cons (pv 0) (pa_cons (pe_tup (pa_cons pe_int (pa_cons (pv 1) pa_nil))) (pa_cons (pv 2) (pa_cons (pv 3) pa_nil))))) pa_nil)) (pe_call (ok_power T) (hr.mono (by decide)) (by rfl) T.d_power.m T.d_power.F.kp T.d_power.b .nil pass0 (pa_cons (pv 5) (pa_cons (pv 6) pa_nil)))) pe_int (nomark _)))))), ?_⟩
    obtain ⟨b, n, k, c, p, e, a, rfl, ha, ⟨hn1, hn2, hc⟩, ⟨hp1, hp2, he⟩, q⟩ := h
    refine ⟨_, rfl, a, _, rfl, sq_tup ha, rfl, _, _, rfl, _, _, rfl, rfl, ?_⟩
    refine ⟨_, rfl, _, rfl, _, rfl, b, k, p, rfl, ⟨by omega, hp2⟩, rfl, _, rfl, ?_⟩
    unfold shw at q
    dsimp only at q
    by_cases h1 : b ^ k % p = 1
    · refine iteFb (by rw [decide_eq_true (show V.int ((b ^ k % p : Nat) : Int) = V.int 1 by rw [h1]; rfl)]; rfl) ?_
      rw [decide_eq_true h1, Bool.true_and] at q
      refine ⟨_, rfl, _, rfl, by show 2 ≤ sizeLine; decide, fun t nt => ?_⟩
      refine ⟨_, rfl, _, rfl, b, 1, n, k, c, t, rfl, upd_same, ⟨by omega, hn2, by omega, hc⟩, fun s H1 g1 hs => ?_⟩
      refine ⟨s, ni (spc b n 1 k c), rfl, by rw [← vn_ni]; exact sq_tup hs, ?_⟩
      refine ⟨_, rfl, _, rfl, p, e, rfl, ⟨by omega, by omega⟩, _, _, rfl, rfl, ?_⟩
      have pp : 0 < p ^ e := Nat.pow_pos (by omega)
      refine ⟨show (0 : Int) < ((p ^ e : Nat) : Int) by omega, rfl, ?_⟩
      dsimp only
      rw [ni_sum]
      have ee : (!decide (V.int ((((spc b n 1 k c).sum : Nat) : Int) % ((p ^ e : Nat) : Int)) = V.int 0)) = decide (restSum b n 1 k c % p ^ e ≠ 0) := by
        rw [← Int.natCast_emod]
        show _ = decide ((spc b n 1 k c).sum % p ^ e ≠ 0)
        by_cases z : (spc b n 1 k c).sum % p ^ e = 0
        · rw [z, decide_eq_false (show ¬ (0 : Nat) ≠ 0 by omega)]
          rfl
        · rw [decide_eq_true z, decide_eq_false (fun y => z (by have := V.int.inj y; omega))]
          rfl
      have fin := q _ ((Gr.new nt).trans g1)
      rw [← ee] at fin
      exact fin
    · refine iteTb (by rw [decide_eq_false (fun z : V.int ((b ^ k % p : Nat) : Int) = V.int 1 => h1 (by have := V.int.inj z; omega))]; rfl) ?_
      rw [decide_eq_false h1, Bool.false_and] at q
      exact q H (Gr.refl _ _)

theorem mem_ppU {n k : Nat} {r : Nat × Nat} (h : r ∈ ppU n k) : isP r.1 = true ∧ n % r.1 = 0 ∧ r.2 = vl r.1 n ∧ r.1 < k := by
  unfold ppU at h
  obtain ⟨p, hp, e⟩ := List.mem_filterMap.mp h
  unfold fpp at e
  split at e
  · rename_i z
    cases e
    exact ⟨z.2, z.1, rfl, List.mem_range.mp hp⟩
  · cases e
theorem vl_le {p n : Nat} (hp : 2 ≤ p) (hn : 1 ≤ n) : vl p n ≤ n := by
  have h1 := (vl_spec hp hn).1
  have h2 := Nat.le_of_dvd hn h1
  have h3 : vl p n < 2 ^ vl p n := Nat.lt_two_pow_self
  have h4 := Nat.pow_le_pow_left hp (vl p n)
  omega
def sp_balance_paper : Sp := fun vs H Q _ => ∃ b n L k c : Nat, vs = [.int b, .int n, .int c] ∧ BN b n ∧ Nat.gcd b n = 1 ∧ 2 ≤ n ∧ CT b n L k c ∧
  (bal b n k c = true → ∀ t s H', Gr [] H H' → H' t = some (.tup [.str "balanced", .ref s]) → H' s = some (.tup (vn (spc b n 1 k c))) → Q (.ref t) H') ∧
  (bal b n k c = false → ∃ r rs, (ppL n).filter (shw b n k c) = r :: rs ∧ ∀ t H', Gr [] H H' → H' t = some (.tup [.str "unbalanced", .int (r.1 : Nat), .int (r.2 : Nat)]) → Q (.ref t) H')
theorem ok_balance_paper (T : Txt K mg) : FnOk P w K mg base CX0 7 T.d_balance_paper.f T.d_balance_paper.fd ["base", "denominator", "cut"] sp_balance_paper := by
  refine T.d_balance_paper.F.ok sc_balance_paper (fun vs H Q E h => ?_) (fun cdv A outer s H vs Q E hr h => ?_)
  · obtain ⟨b, n, L, k, c, rfl, _⟩ := h; rfl
  · have hu := hu_of hr
    refine ⟨_, (pss_cons (ps_expr (pe_call (ok_need_pure T) (hr.mono (by decide)) (by rfl) T.d_need_pure.m T.d_need_pure.F.kp T.d_need_pure.b .nil pass0 (pa_cons (pv 0) (pa_cons (pv 1) pa_nil))))
      (pss_cons (ps_set (i := 3) sc_balance_paper.nd rfl (by first | exact .inl rfl | exact .inr rfl) (pe_call (ok_piece_size T) (hr.mono (by decide)) (by rfl) T.d_piece_size.m T.d_piece_size.F.kp T.d_piece_size.b .nil pass0 (pa_cons (pv 0) (pa_cons (pv 1) (pa_cons (pv 2) pa_nil)))))
      (pss_cons (ps_if (pt_val (pe_call (ok_is_balanced_with T) (hr.mono (by decide)) (by rfl) T.d_is_balanced_with.m T.d_is_balanced_with.F.kp T.d_is_balanced_with.b .nil pass0 (pa_cons (pv 0) (pa_cons (pv 1) (pa_cons (pv 3) (pa_cons (pv 2) pa_nil)))))) (pss_one (ps_ret (pe_tup (pa_cons pe_str (pa_cons (pe_call (ok_spaced T) (hr.mono (by decide)) (by rfl) T.d_spaced.m T.d_spaced.F.kp T.d_spaced.b .nil pass0 (pa_cons (pv 0) (pa_cons (pe_tup (pa_cons pe_int (pa_cons (pv 1) pa_nil))) (pa_cons (pv 3) (pa_cons (pv 2) pa_nil))))) pa_nil))))) pss_nil)
      (pss_cons (ps_setLc (i := 4) (own := [("row", 5)]) (g := gName 5) (tt := _) rfl sc_balance_paper.nd rfl rfl (sw_true rfl rfl rfl (by decide +kernel)) (pi_list (pe_call (ok_prime_powers T) (hr.mono (by decide)) (by rfl) T.d_prime_powers.m T.d_prime_powers.F.kp T.d_prime_powers.b .nil pass0 (pa_cons (pv 1) pa_nil))) (blkOk_by (own := [("row", 5)]) (N := ["base", "denominator", "cut", "size", "rows", "row"]) (sc := defScope s_balance_paper) (by decide +kernel)) (fun _ _ _ _ _ => (pg_name (i := 5) sc_balance_paper.nd rfl (by first | exact .inl rfl | exact .inr rfl))) (fun _ _ _ _ _ => (pts_one (pt_val (pe_call (ok_shows_imbalance T) (hr.mono (by decide)) (by rfl) T.d_shows_imbalance.m T.d_shows_imbalance.F.kp T.d_shows_imbalance.b .nil pass0 (pa_cons (pv 0) (pa_cons (pv 1) (pa_cons (pv 3) (pa_cons (pv 2) (pa_cons (pv 5) pa_nil))))))))) (fun _ _ _ _ _ => (pv 5)))
      (pss_one (ps_ret (pe_tup (pa_cons pe_str (pa_cons (pe_ix (r := rIxT K) ix_tup (pe_ix (r := rIxL K) ix_list (pv 4) pe_int (fun _ _ => rfl)) pe_int (fun _ _ => rfl)) (pa_cons (pe_ix (r := rIxT K) ix_tup (pe_ix (r := rIxL K) ix_list (pv 4) pe_int (fun _ _ => rfl)) pe_int (fun _ _ => rfl)) pa_nil)))))))))), ?_⟩
    obtain ⟨b, n, L, k, c, rfl, hbn, hg, hn, hC, q1, q2⟩ := h
    obtain ⟨hb1, hb2, hn1, hn2⟩ := id hbn
    obtain ⟨hP, hc2, hk1, hL⟩ := id hC
    obtain ⟨cd, ce⟩ := hC.d
    have hLn := per_le hn1 hg hP
    have hcL : c ≤ L := Nat.le_of_dvd hP.1 cd
    refine ⟨_, rfl, _, rfl, b, n, rfl, hbn, hg, ?_⟩
    refine ⟨_, rfl, _, rfl, _, rfl, b, n, L, c, rfl, hbn, hg, hP, ⟨hc2, cd⟩, ?_⟩
    rw [ce]
    refine ⟨_, rfl, _, rfl, _, rfl, _, rfl, b, n, k, c, rfl, ⟨hn, hn2, by omega⟩, fun H1 g1 => ⟨_, rfl, ?_⟩⟩
    cases hb : bal b n k c with
    | true =>
      refine iteT ?_
      refine ⟨_, rfl, _, rfl, by show 2 ≤ sizeLine; decide, fun p np => ?_⟩
      refine ⟨_, rfl, _, rfl, b, 1, n, k, c, p, rfl, upd_same, ⟨by omega, hn2, by omega, by omega⟩, fun s H2 g2 hs => ?_⟩
      refine ⟨by show 2 ≤ sizeLine; decide, fun t nt => ?_⟩
      exact q1 hb t s _ (((g1.trans (Gr.new np)).trans g2).trans (Gr.new nt)) upd_same ((Gr.new (W := []) nt) s _ (by simp) hs)
    | false =>
      refine iteF ?_
      obtain ⟨r, rs, hf, q⟩ := q2 hb
      refine ⟨_, rfl, n, rfl, ⟨hn1, hn2⟩, fun l ps H2 g2 hl hps => ?_⟩
      refine ⟨l, rfl, ⟨_, sq_lst hl⟩, fun D nD => ?_⟩
      refine lc_list (K := K) (a := l) (xs := ps.map V.ref) (fun i H' => Gr [] H2 H' ∧ ∃ us, H' D = some (.lst (us.map V.ref)) ∧ Prs H' us (((ppL n).take i).filter (shw b n k c))) ⟨Gr.new nD, [], upd_same, .nil⟩ (fun i H' _ z => sq_lst (z.1 l _ (by simp) hl)) ?_ ?_
      · rintro i y H' hy ⟨G, us, hD, hU⟩
        have hps' : Prs H' ps (ppL n) := hps.imp fun {p r} h => G p _ (by simp) h
        obtain ⟨p, hi, rfl, hp⟩ := hps'.at_ hy
        obtain ⟨m1, m2, m3, m4⟩ := mem_ppU (List.getElem_mem hi)
        have fy := filt_yesG (g := shw b n k c) hi
        have fn := filt_noG (g := shw b n k c) hi
        have m5 := (isP_iff.mp m1).1
        have m6 := vl_le m5 hn1
        generalize (ppL n)[i] = r0 at hp m1 m2 m3 m4 m5 m6 fy fn
        refine ⟨rfl, ?_⟩
        refine ⟨_, rfl, _, rfl, _, rfl, _, rfl, _, rfl, b, n, k, c, r0.1, r0.2, p, rfl, hp, ⟨hn, hn2, by omega⟩, ⟨m5, by omega, by omega⟩, fun H3 g3 => ⟨_, rfl, ?_⟩⟩
        have hD3 := g3 D _ (by simp) hD
        have hU3 : Prs H3 us (((ppL n).take i).filter (shw b n k c)) := hU.imp fun {p r} h => g3 p _ (by simp) h
        cases hs : shw b n k c (r0.1, r0.2) with
        | true =>
          refine iteT ⟨_, rfl, _, hD3, ?_, ?_, us ++ [p], ?_, ?_⟩
          · have e1 := hU3.len
            have e2 : (((ppL n).take i).filter (shw b n k c)).length ≤ 5001 := Nat.le_trans (List.length_filter_le _ _) (Nat.le_trans (List.length_take_le' ..) (Nat.le_trans (ppU_len _) (by omega)))
            rw [List.length_map]
            exact Nat.lt_of_lt_of_le (show us.length < 6000 by omega) (by decide)
          · intro u o _ e
            rw [upd_ne (ne_of_none e nD)]
            exact g3 u o (by simp) (G u o (by simp) e)
          · rw [upd_same, List.map_append]
            rfl
          · rw [fy hs]
            have keep : ∀ {q : Addr} {r : Nat × Nat}, H3 q = some (.tup [.int (r.1 : Nat), .int (r.2 : Nat)]) → (upd H3 D (.lst (us.map V.ref ++ [.ref p]))) q = some (.tup [.int (r.1 : Nat), .int (r.2 : Nat)]) := fun {q r} h => by
              rw [upd_ne (ne_of h hD3 (by intro z; cases z))]
              exact h
            exact (hU3.imp keep).snoc (keep (g3 _ _ (by simp) hp))
        | false =>
          refine iteF ⟨G.trans g3, us, hD3, ?_⟩
          rw [fn hs]
          exact hU3
      rintro H3 ⟨G, us, hD, hU⟩
      have hlen := hps.len
      rw [List.length_map, hlen, List.take_length, hf] at hU
      cases hU with
      | @cons u us r rs hu hus =>
        have nth : ((u :: us).map V.ref)[0]? = some (.ref u) := rfl
        refine ⟨_, rfl, D, _, _, .ref u, rfl, rfl, sq_lst hD, atI_nat (j := 0) rfl, u, _, _, .int (r.1 : Nat), rfl, rfl, sq_tup hu, atI_nat (j := 0) rfl, ?_⟩
        refine ⟨_, rfl, D, _, _, .ref u, rfl, rfl, sq_lst hD, atI_nat (j := 0) rfl, u, _, _, .int (r.2 : Nat), rfl, rfl, sq_tup hu, atI_nat (j := 1) rfl, ?_⟩
        refine ⟨by show 3 ≤ sizeLine; decide, fun t nt => ?_⟩
        exact q t _ (((g1.trans g2).trans G).trans (Gr.new nt)) upd_same

end
end Wn
/-! enumerate over a tuple -/
namespace Wn
open PySem PySem.Spec PyProof.Rows L2
theorem meets_enum1 {v : Value} {o : Obj} {G : Heap → Prop} (B : Begins v o G) :
    Meets (Builtin.«enumerate.__new__» ⟨[.type "enumerate", v], []⟩) (fun _ R s => G s.heap ∧
      R (.ok (.ret (.ref (s.heap.push o).objs.size))) { s with heap := (s.heap.push o).push { cls := .type "enumerate", data := .fields #[.none, .bool false, .ref s.heap.objs.size, rawInt 0, .none, .none] } }) :=
  .of_wp fun prog w A R s h => by
    obtain ⟨h0, g, d, tk, os⟩ := s
    obtain ⟨h1, h⟩ := h
    have hsub := sub_enumerate
    have q1 : ∀ {A' : Around} {E : Value → Shared → Prop} {Q : Value → Shared → Prop}, Q (.ref h0.objs.size) ⟨h0.push o, g, d, tk, os⟩ → wpAny (model prog w) A' (pyIter v) Q E ⟨h0, g, d, tk, os⟩ :=
      fun q => B.iter prog w _ _ ⟨h0, g, d, tk, os⟩ _ h1 q
    wp_walk using q1
    refine wpAny_stack_any fun st => wpAny_pure ?_
    split
    · rename_i c _ _ _ _ _
      cases (c == Value.type "enumerate")
      · wp_walk using q1
        exact ⟨_, rfl, h⟩
      · wp_walk using q1
        exact ⟨_, rfl, h⟩
    · wp_walk using q1
      exact ⟨_, rfl, h⟩
theorem enum1 {prog : Program} {w : World} {A : Around} {E : Value → Shared → Prop} {s : Shared} {v : Value} {o : Obj} {G : Heap → Prop} {Q : Value → Shared → Prop} (B : Begins v o G) (h1 : G s.heap)
    (h : ∀ h', IsEnum h' (s.heap.objs.size + 1) s.heap.objs.size 0 .none → h'.get? s.heap.objs.size = some o → (∀ b o, s.heap.get? b = some o → h'.get? b = some o) → Q (.ref (s.heap.objs.size + 1)) { s with heap := h' }) :
    wpAny (model prog w) A (call (.type "enumerate") [v]) Q E s := by
  refine callType_new F.called_enumerate (by decide) (F.typeCall_enumerate_1 _) (F.newCall_enumerate_1 _) (fun obj => F.args_object_init_2 obj _) F.entry_enumerate_new (meets_enum1 B) ⟨h1, ?_⟩
  have hz : (s.heap.push o).objs.size = s.heap.objs.size + 1 := Heap.size_push ..
  show _ ∧ _
  rw [hz]
  have he : IsEnum ((s.heap.push o).push { cls := .type "enumerate", data := .fields #[.none, .bool false, .ref s.heap.objs.size, rawInt 0, .none, .none] }) (s.heap.objs.size + 1) s.heap.objs.size 0 .none := by
    have z := Heap.get?_push_size (s.heap.push o) (o := { cls := .type "enumerate", data := .fields #[.none, .bool false, .ref s.heap.objs.size, rawInt 0, .none, .none] }) rfl
    rw [hz] at z
    exact z
  exact ⟨⟨_, he, rfl⟩, h _ he (Heap.get?_push_of_some _ (Heap.get?_push_size _ B.free)) fun b u x => Heap.get?_push_of_some _ (Heap.get?_push_of_some _ x)⟩
/-- the tuple at a as it stands, each item in a new pair -/
def ItE (K : PySem.W.Frag) (a : Addr) : It :=
  ⟨fun i H => ∃ (xs : List V) (x : V), SqT K H a xs ∧ xs[i]? = some x, fun i H v H' => ∃ T x, v = .ref T ∧ H T = none ∧ H' = upd H T (.tup [.int (i : Nat), x]) ∧ ∀ xs, SqT K H a xs → xs[i]? = some x, fun i H => ∃ xs : List V, SqT K H a xs ∧ xs.length = i⟩
theorem turn_enumT {P : Program} {w : World} {K : PySem.W.Frag} {elts : List Expr} {kk : Nat} {tpos : Pos} (a e it : Addr) (its : Array Value) (hat : a ≠ it) (hae : a ≠ e) (hne : e ≠ it) :
    Turn P w K (.Tuple elts kk tpos) (ItE K a) [e, it] e (fun i h => (∃ old, IsEnum h e it ((i : Nat) : Int) old) ∧ h.IsTupleIter it a i) where
  mem := by simp
  obj := fun i h st b hb => by
    obtain ⟨⟨old, he⟩, ⟨o, ho, hc, hd⟩⟩ := st
    have e' : b = e ∨ b = it := by simpa using hb
    rcases e' with z | z
    · rw [z]
      exact ⟨_, he, fun v q => nomatch q⟩
    · rw [z]
      exact ⟨o, ho, fun v q => by rw [hd] at q; cases q⟩
  keep := fun i h h' st k => let ⟨⟨old, he⟩, hi⟩ := st; ⟨⟨old, k e (by simp) _ he⟩, hi.at fun o q => k it (by simp) o q⟩
  item := by
    intro X hP hw hK hc i pins s σ H E I hf st hg
    subst hP hw hK
    obtain ⟨⟨old, he⟩, hit⟩ := st
    obtain ⟨xs, x, hq, hx⟩ := hg
    obtain ⟨vs, rv, p, hz⟩ := I.tuple hq
    obtain ⟨u, hu, ru⟩ := rv.get hx
    have hel : e < s.heap.objs.size := Heap.lt_size he
    have hil : it < s.heap.objs.size := by
      obtain ⟨_, q, _⟩ := hit
      exact Heap.lt_size q
    have D := Draws.tuple (prog := X.prog) (w := X.w) (A := X.A.in1) (I.ok.hd hc) it a hat vs.toArray
    have lt : i < vs.toArray.size := by
      rw [List.size_toArray]
      exact (List.getElem?_eq_some_iff.mp hu).1
    refine wpAny_pyNext_enum_itemD D he ⟨hit, p⟩ lt hne (by simpa using ⟨hne, Ne.symm hae⟩) fun x' h' tk hp ho hs' hT hsz hk => ?_
    have ex : x' = u := by
      have z : vs.toArray[i]? = some x' := hp
      rw [show vs.toArray[i]? = vs[i]? by simp, hu] at z
      exact (Option.some.inj z).symm
    subst ex
    refine ⟨_, rfl, wpAny_letOwnedTupleGo_enum (s := { s with heap := h', toks := tk + 1 }) ho fun h'' he' sb => ?_⟩
    have hT2 : h''.get? s.heap.objs.size = some { cls := .type "tuple", data := .seq #[.int i tk, x'] } := (sb.2 _ (Nat.ne_of_gt hel)).trans hT
    have new : ObjOk X.prog X.w (upd H s.heap.objs.size (.tup [.int (i : Nat), x])) h'' s.heap.objs.size (.tup [.int (i : Nat), x]) :=
      ⟨by show 2 ≤ sizeLine; decide, [.int i tk, x'], .cons ⟨_, rfl⟩ (.cons ru .nil), ⟨_, hT2, rfl, _, rfl⟩⟩
    have I1 : Inv X pins σ (upd H s.heap.objs.size (.tup [.int (i : Nat), x])) { s with heap := h'', toks := tk + 1 } :=
      I.turnedNew (ch := [e, it]) (fun b ob hb q => (sb.2 b (fun z => hb (by simp [z]))).trans (hk b ob (fun z => hb (by simp [z])) (fun z => hb (by simp [z])) q)) hf (Nat.le_refl _) new
    refine ⟨.ref s.heap.objs.size, _, I1, rfl, ⟨_, x, rfl, I.hok.fresh (Nat.le_refl _), rfl, fun ys hy => by rw [I.tuple_inj hy hq]; exact hx⟩, ⟨⟨x', ?_⟩, hs'.1.at fun o q => (sb.2 it (Ne.symm hne)).trans q⟩, fun b hb => ?_⟩
    · have e1 : ((i + 1 : Nat) : Int) = (i : Int) + 1 := by omega
      rw [e1]
      exact he'
    · have hb' : b < s.heap.objs.size := by
        have e' : b = e ∨ b = it := by simpa using hb
        rcases e' with z | z
        · rw [z]
          exact hel
        · rw [z]
          exact hil
      rw [upd_ne (Nat.ne_of_lt hb')]
      exact (hf b hb).1
  done := by
    intro X hP hw hK hc i pins s σ H E I hf st hg
    subst hP hw hK
    obtain ⟨⟨old, he⟩, hit⟩ := st
    obtain ⟨xs, hq, hx⟩ := hg
    obtain ⟨vs, rv, p, hz⟩ := I.tuple hq
    obtain ⟨f0, f1, f2, f3, f4, f5⟩ := hf it (by simp)
    have hl := rv.length
    have D := Draws.tuple (prog := X.prog) (w := X.w) (A := X.A.in1) (I.ok.hd hc) it a hat vs.toArray
    have en : vs.toArray.size = i := by
      rw [List.size_toArray, ← hl, hx]
    refine wpAny_pyNext_enum_endD D he ⟨by rw [en]; exact hit, p⟩ fun h' eb => ⟨rfl, I.turned (t' := s.toks) (fun b o hb q => eb b o hb q) f0 f1 f3 f4 f5⟩
  self := fun A i s Q E st h => let ⟨⟨_, he⟩, _⟩ := st; wpAny_pyIter_enum he h
def iEnumT (K : PySem.W.Frag) (ta : TA) : TI := fun σ H R => ta σ H fun vs H1 => ∃ a xs, vs = [.ref a] ∧ SqT K H1 a xs ∧ R (ItE K a) H1
theorem pi_enumT {X : Cx} {e : Expr} {ta : TA} {p pos tpos : Pos} {elts : List Expr} {kk : Nat} (hg : Gl X "enumerate") (hm : X.mg "enumerate" = none) (ha : PA X [e] ta) (hs : starEach [e] X.env = [(false, eval e X.env)] := by rfl) :
    PI X (.Tuple elts kk tpos) (.Call (.Name "enumerate" p) [e] [] pos) (iEnumT X.K ta) := by
  refine ⟨fun pins s σ H R I h => ?_⟩
  refine Call_ (ld_blt I hg hm boot_enumerate (PyProof.Rows.callWith_type1 (thn (ha.run pos pins s σ H _ I h) fun us s1 hh => ?_) hs rfl))
  obtain ⟨vs, H1, I1, r1, a, xs, ex, hq, q⟩ := hh
  subst ex
  cases r1 with
  | cons r rr =>
    cases rr
    cases r
    obtain ⟨its, rv, p', hz⟩ := I1.tuple hq
    have pT : s1.heap.IsTuple a its.toArray := p'
    refine enum1 (begins_tuple a its.toArray) pT fun h' he hit hk => wpAny_pyIter_enum he ?_
    have I2 : Inv X pins σ H1 { s1 with heap := h' } := I1.kept (t' := s1.toks) hk
    have hlt : a < s1.heap.objs.size := by
      obtain ⟨o, e, _⟩ := pT
      exact Heap.lt_size e
    refine ⟨s1.heap.objs.size + 1, [s1.heap.objs.size + 1, s1.heap.objs.size], _, _, H1, rfl, I2, turn_enumT a (s1.heap.objs.size + 1) s1.heap.objs.size its.toArray (Nat.ne_of_lt hlt) (Nat.ne_of_lt (Nat.lt_succ_of_lt hlt)) (Nat.succ_ne_self _), ⟨⟨.none, he⟩, ⟨_, hit, rfl, rfl⟩⟩, fun b hb => ?_, q⟩
    have e' : b = s1.heap.objs.size + 1 ∨ b = s1.heap.objs.size := by simpa using hb
    have hle : s1.heap.objs.size ≤ b := by
      rcases e' with z | z
      · rw [z]
        exact Nat.le_add_right _ _
      · rw [z]
        exact Nat.le_refl _
    exact I1.fpOk hle (I1.hok.fresh hle)
theorem for_enumT {K : PySem.W.Frag} {a : Addr} {xs : List V} {g : TG} {tb : TS} {D : Ends} {σ : L2.St} {H : Hp} (Pv : Nat → L2.St → Hp → Prop) (h0 : Pv 0 σ H) (hl : ∀ i σ H, i ≤ xs.length → Pv i σ H → SqT K H a xs)
    (hs : ∀ i x T σ H, xs[i]? = some x → H T = none → Pv i σ H → g (.ref T) σ (upd H T (.tup [.int (i : Nat), x])) fun σ2 H2 => tb { D with nx := Pv (i + 1), ct := Pv (i + 1), bk := D.nx } σ2 H2) (hd : ∀ σ H, Pv xs.length σ H → D.nx σ H) :
    ∃ W : Nat → Nat → L2.St → Hp → Prop, (∃ m, W 0 m σ H) ∧ ∀ i m σ H, W i m σ H →
      ((ItE K a).stop i H ∧ D.nx σ H) ∨ ((ItE K a).go i H ∧ ∃ N : L2.St → Hp → Prop, (∀ σ' H', N σ' H' → ∃ m', m' < m ∧ W (i + 1) m' σ' H') ∧ ∀ x H', (ItE K a).yld i H x H' → g x σ H' fun σ2 H2 => tb { D with nx := N, ct := N, bk := D.nx } σ2 H2) := by
  refine ⟨fun i m σ H => m = xs.length - i ∧ i ≤ xs.length ∧ Pv i σ H, ⟨xs.length, by simp, Nat.zero_le _, h0⟩, ?_⟩
  rintro i m σ H ⟨em, hi, p⟩
  subst em
  have sq := hl i σ H hi p
  rcases Nat.lt_or_eq_of_le hi with lt | e
  · refine .inr ⟨⟨xs, xs[i], sq, by simp [lt]⟩, Pv (i + 1), fun σ' H' p' => ⟨xs.length - (i + 1), by omega, rfl, lt, p'⟩, fun x H' y => ?_⟩
    obtain ⟨T, z, e1, e2, e3, e4⟩ := y
    subst e1 e3
    exact hs i z T σ H (e4 xs sq) e2 p
  · subst e
    exact .inl ⟨⟨xs, sq, rfl⟩, hd σ H p⟩
end Wn
namespace Wn
open PySem PySem.Spec PyProof.Rows L2
local macro_rules | `(tactic| walk_at "vc") => `(tactic| simp only [cxK, cxK2, start1, start2, start3, tRet, tRetN, tSeq, tNext, tIfS, tAsg, gName, tDrop, tVar, tC, tOp, tUn, tTest, tB, tNot, tAnd, tOr, tAndV, tOrV, tNotV, tIf, tCons, tNil, tCB, tCall, tChain, tAug, ipI, rI, rI0, rU, rIs, rGcd, rEq, rNe, scal,
  List.getElem?_cons_zero, List.getElem?_cons_succ, List.set_cons_zero, List.set_cons_succ, Option.some.injEq, List.cons.injEq, V.int.injEq, V.bl.injEq, V.ref.injEq, V.str.injEq, and_true, true_and, exists_eq_left, exists_eq_left', exists_and_left, exists_and_right, List.append_nil, List.nil_append, List.cons_append, exists_eq_right, exists_eq_right', and_assoc, exists_const, V.ty.injEq, ↓reduceIte, Bool.false_eq_true, Bool.not_true, Bool.not_false, decide_eq_true_eq])

section
variable {P : Program} {w : World} {K : PySem.W.Frag} {mg : Str → Option Value} {base : Heap}

def sp_law_power : Sp := fun vs H Q _ => ∃ b k : Nat, vs = [.int b, .int k] ∧ (b ≤ 1000 ∧ k ≤ 100000) ∧ Q (.int (b ^ k : Nat)) H
theorem rms_len0 : True := trivial

theorem per_le' {b n L : Nat} (hn : 1 ≤ n) (g : Nat.gcd b n = 1) (h : IsPer b n L) : L ≤ n := by
  obtain ⟨d, hd, hd'⟩ := per_exists hn g
  rw [h.uniq hd']
  exact hd
theorem spc_one (b n x L : Nat) : spc b n x 1 L = rl b n x L := by
  unfold spc rl
  simp
def sp_wheel : Sp := fun vs H Q _ => ∃ (b x n L : Nat) (a : Addr), vs = [.int b, .ref a] ∧ H a = some (.tup [.int x, .int n]) ∧ PF b x n ∧ IsPer b n L ∧
  ∀ t H', Gr [] H H' → H' t = some (.tup (vn (rl b n x L))) → Q (.ref t) H'
theorem ok_wheel (T : Txt K mg) : FnOk P w K mg base CX0 6 T.d_wheel.f T.d_wheel.fd ["base", "fraction"] sp_wheel := by
  refine T.d_wheel.F.ok sc_wheel (fun vs H Q E h => ?_) (fun cdv A outer s H vs Q E hr h => ?_)
  · obtain ⟨b, x, n, L, a, rfl, _⟩ := h; rfl
  · have hu := hu_of hr
    refine ⟨_, (pss_cons (ps_expr (pe_call (ok_need_pure_fraction T) (hr.mono (by decide)) (by rfl) T.d_need_pure_fraction.m T.d_need_pure_fraction.F.kp T.d_need_pure_fraction.b .nil pass0 (pa_cons (pv 0) (pa_cons (pv 1) pa_nil))))
      (pss_one (ps_ret (pe_call (ok_spaced T) (hr.mono (by decide)) (by rfl) T.d_spaced.m T.d_spaced.F.kp T.d_spaced.b .nil pass0 (pa_cons (pv 0) (pa_cons (pv 1) (pa_cons pe_int (pa_cons (pe_call (ok_period T) (hr.mono (by decide)) (by rfl) T.d_period.m T.d_period.F.kp T.d_period.b .nil pass0 (pa_cons (pv 0) (pa_cons (pe_ix (r := rIxT K) ix_tup (pv 1) pe_int (fun _ _ => rfl)) pa_nil))) pa_nil)))))))), ?_⟩
    obtain ⟨b, x, n, L, a, rfl, ha, hf, hP, q⟩ := h
    obtain ⟨⟨hb1, hb2, hn1, hn2⟩, hx, hg, hp⟩ := id hf
    have hLn := per_le' hn1 hp hP
    refine ⟨_, rfl, _, rfl, b, x, n, a, rfl, ha, hf, ?_⟩
    refine ⟨_, rfl, _, rfl, _, rfl, _, rfl, a, _, _, .int n, rfl, rfl, sq_tup ha, atI_nat (j := 1) rfl, b, n, rfl, ⟨hb1, hb2, hn1, hn2⟩, fun p d hp' hd' => ?_⟩
    have ep : p = n := hp'.uniq (IsPure.self hp)
    subst ep
    rw [hd'.uniq hP]
    refine ⟨b, x, p, 1, L, a, rfl, ha, ⟨hn1, hn2, hx, by omega⟩, fun t H1 g1 h1 => ?_⟩
    rw [spc_one] at h1
    exact q t H1 g1 h1

/-- a list of bools by what stands at each place -/
def MetL (b n L k : Nat) (ms : List V) : Prop := ms.length = n ∧ ∀ r, r < n → ∃ c : Bool, ms[r]? = some (.bl c) ∧ (c = true ↔ Met b n L k r)
def MetS (b n L k i : Nat) (ms : List V) : Prop := ms.length = n ∧ ∀ r, r < n → ∃ c : Bool, ms[r]? = some (.bl c) ∧ (c = true ↔ (Met b n L k r ∨ ∃ j, j < i ∧ rem b n k j = r))
def sp_wheels : Sp := fun vs H Q _ => ∃ (b n L : Nat), vs = [.int b, .int n] ∧ BN b n ∧ Nat.gcd b n = 1 ∧ IsPer b n L ∧
  ∀ t H', Gr [] H H' → H' t = some (.tup (vn (wl b n L))) → Q (.ref t) H'
theorem ixN_nat {n j : Nat} (h : j < n) : ixN n (j : Int) = some j := by
  unfold ixN
  rw [if_pos (by omega), if_pos (by omega)]
  simp
theorem ok_wheels (T : Txt K mg) : FnOk P w K mg base CX0 7 T.d_wheels.f T.d_wheels.fd ["base", "denominator"] sp_wheels := by
  refine T.d_wheels.F.ok sc_wheels (fun vs H Q E h => ?_) (fun cdv A outer s H vs Q E hr h => ?_)
  · obtain ⟨b, n, L, rfl, _⟩ := h; rfl
  · have hu := hu_of hr
    refine ⟨_, (pss_cons (ps_expr (pe_call (ok_need_pure T) (hr.mono (by decide)) (by rfl) T.d_need_pure.m T.d_need_pure.F.kp T.d_need_pure.b .nil pass0 (pa_cons (pv 0) (pa_cons (pv 1) pa_nil))))
      (pss_cons (ps_set (i := 2) sc_wheels.nd rfl (by first | exact .inl rfl | exact .inr rfl) (pe_op op_rep (pe_lst (pa_cons pe_bl pa_nil)) (pv 1)))
      (pss_cons (ps_set (i := 3) sc_wheels.nd rfl (by first | exact .inl rfl | exact .inr rfl) (pe_lst pa_nil))
      (pss_cons (ps_for PassesOwn.never rfl (pi_range1 (by rfl) T.b_range (pa_cons (pv 1) pa_nil)) (pg_name (i := 4) sc_wheels.nd rfl (by first | exact .inl rfl | exact .inr rfl)) (pss_cons (ps_if (PW.pt (pw_or (pt_val (pe_ix (r := rIxL K) ix_list (pv 2) (pv 4) (fun _ _ => rfl))) (pw_or1 (pt_cmpR op_ne (pe_callBfun cr_gcd (by rfl) T.b_gcd (pa_cons (pv 4) (pa_cons (pv 1) pa_nil))) pe_int (nomark _))))) (pss_one ps_continue) pss_nil)
      (pss_cons (ps_expr (pe_bm PySem.F.plainAttrs_list PySem.F.slot_list_append PySem.F.type_list_append mt_append (pv 3) (pa_cons (pv 4) pa_nil)))
      (pss_one (ps_for PassesOwn.never rfl (pi_tup (pe_call (ok_wheel T) (hr.mono (by decide)) (by rfl) T.d_wheel.m T.d_wheel.F.kp T.d_wheel.b .nil pass0 (pa_cons (pv 0) (pa_cons (pe_tup (pa_cons (pv 4) (pa_cons (pv 1) pa_nil))) pa_nil)))) (pg_name (i := 5) sc_wheels.nd rfl (by first | exact .inl rfl | exact .inr rfl)) (pss_one (ps_asg pe_bl (pg_sub (pv 2) (pv 5) set_list))))))))
      (pss_one (ps_ret (pe_callTy (r := rTpO K) call_tpO (by rfl) T.b_tuple (by decide +kernel) (pa_cons (pv 3) pa_nil)))))))), ?_⟩
    obtain ⟨b, n, L, rfl, hbn, hp, hP, q⟩ := h
    obtain ⟨hb1, hb2, hn1, hn2⟩ := id hbn
    have hLn := per_le' hn1 hp hP
    have sz : ∀ {k : Nat}, k ≤ 5000 → k < sizeLine := fun h => Nat.lt_of_lt_of_le (show _ < 6000 by omega) (by decide)
    refine ⟨_, rfl, _, rfl, b, n, rfl, hbn, hp, ?_⟩
    refine ⟨by show 1 ≤ sizeLine; decide, fun l1 nl1 => ?_⟩
    refine ⟨_, rfl, l1, n, _, rfl, rfl, upd_same, by omega, by omega, by rw [Int.toNat_natCast]; show 1 * n ≤ sizeLine; have := sz hn2; omega, fun M nM => ?_⟩
    have g0 : Gr [] H (upd (upd H l1 (.lst [.bl false])) M (.lst (List.replicate (n : Int).toNat [V.bl false]).flatten)) := (Gr.new nl1).trans (Gr.new nM)
    have e0 : (upd (upd H l1 (.lst [.bl false])) M (.lst (List.replicate (n : Int).toNat [V.bl false]).flatten)) M = some (.lst (List.replicate n (V.bl false))) := by
      rw [upd_same, Int.toNat_natCast, List.flatten_replicate_singleton]
    have nM0 : H M = none := by
      cases z : H M with
      | none => rfl
      | some o => 
        have := (Gr.new (W := []) (o := .lst [V.bl false]) nl1) M o (by simp) z
        rw [nM] at this
        cases this
    generalize (upd (upd H l1 (.lst [.bl false])) M (.lst (List.replicate (n : Int).toNat [V.bl false]).flatten)) = H0 at g0 e0 ⊢
    refine ⟨Nat.zero_le _, fun l nl => ?_⟩
    have hMl : M ≠ l := ne_of_none e0 nl
    have nl0 : H l = none := by
      cases z : H l with
      | none => rfl
      | some o =>
        have := g0 l o (by simp) z
        rw [nl] at this
        cases this
    refine ⟨_, rfl, (n : Int), rfl, by omega, by omega, ?_⟩
    refine for_range (lo := 0) (n := (n : Int).toNat) (fun k σ H' => Gr [] H H' ∧ H' l = some (.lst (vn (((List.range n).take k).filter (topB b n L)))) ∧ (∃ ms, H' M = some (.lst ms) ∧ MetL b n L k ms) ∧ ∃ v w, σ = [some (.int b), some (.int n), some (.ref M), some (.ref l), v, w]) ⟨g0.trans (Gr.new nl), upd_same, ⟨_, by rw [upd_ne hMl]; exact e0, ?_⟩, none, none, rfl⟩ ?_ ?_
    · refine ⟨List.length_replicate .., fun r hr => ⟨false, ?_, ?_⟩⟩
      · rw [List.getElem?_replicate, if_pos hr]
      · constructor
        · intro z
          cases z
        · rintro ⟨y, hy, _⟩
          exact absurd hy (Nat.not_lt_zero _)
    · rintro k σ H' hk ⟨G, hL, ⟨ms, hM, hm⟩, v, w, rfl⟩
      rw [Int.toNat_natCast] at hk
      obtain ⟨c, hc, hcm⟩ := hm.2 k hk
      have e1 : (0 : Int) + (k : Int) = ((k : Nat) : Int) := by omega
      refine ⟨_, rfl, _, rfl, M, _, _, .bl c, rfl, by rw [e1], sq_lst hM, atI_nat (j := k) hc, c, rfl, ?_⟩
      have cont : topB b n L k = false → MetL b n L (k + 1) ms ∧ ((List.range n).take (k + 1)).filter (topB b n L) = ((List.range n).take k).filter (topB b n L) := fun z => by
        refine ⟨⟨hm.1, fun r hr => ?_⟩, ?_⟩
        · obtain ⟨c2, h1, h2⟩ := hm.2 r hr
          exact ⟨c2, h1, h2.trans (met_skip hp hP hk z).symm⟩
        · rw [wl_take_succ hk, z]
          simp
      have nt : Nat.gcd k n = 1 → (topB b n L k = false ↔ c = true) := fun gk => by
        rw [not_top hp hP hk gk, hcm]
        rfl
      cases c with
      | true =>
        have z : topB b n L k = false := by
          by_cases gk : Nat.gcd k n = 1
          · exact (nt gk).mpr rfl
          · cases t : topB b n L k with
            | false => rfl
            | true => exact absurd (top_iff.mp t).1 gk
        obtain ⟨h1, h2⟩ := cont z
        refine iteT ⟨G, by rw [h2]; exact hL, ⟨ms, hM, h1⟩, _, _, rfl⟩
      | false =>
        refine iteF ⟨_, rfl, _, rfl, k, n, by rw [e1], rfl, _, rfl, ?_⟩
        by_cases gk : Nat.gcd k n = 1
        · have z : topB b n L k = true := by
            cases t : topB b n L k with
            | true => rfl
            | false => exact absurd ((nt gk).mp t) (by decide)
          have e : (!decide (V.int ((Nat.gcd (k : Int).natAbs (n : Int).natAbs : Nat) : Int) = V.int 1)) = false := by
            rw [Int.natAbs_natCast, Int.natAbs_natCast, gk]
            rfl
          rw [e]
          refine iteF ?_
          refine ⟨_, rfl, .inl ⟨rfl, _, sq_lst hL⟩, _, rfl, l, _, _, rfl, by rw [e1], hL, ?_, ?_⟩
          · rw [vn_len]
            exact sz (Nat.le_trans (List.length_filter_le _ _) (Nat.le_trans (List.length_take_le ..) (by omega)))
          rw [vn_snoc]
          have hL2 : (upd H' l (.lst (vn (((List.range n).take k).filter (topB b n L) ++ [k])))) l = some (.lst (vn (((List.range n).take (k + 1)).filter (topB b n L)))) := by
            rw [upd_same, wl_take_succ hk, if_pos z]
          have gL : Gr [] H (upd H' l (.lst (vn (((List.range n).take k).filter (topB b n L) ++ [k])))) := fun u o _ e => by
            rw [upd_ne (ne_of_none e nl0)]
            exact G u o (by simp) e
          have hM2 : (upd H' l (.lst (vn (((List.range n).take k).filter (topB b n L) ++ [k])))) M = some (.lst ms) := by
            rw [upd_ne hMl]
            exact hM
          generalize (upd H' l (.lst (vn (((List.range n).take k).filter (topB b n L) ++ [k])))) = H2 at hL2 gL hM2 ⊢
          refine ⟨_, rfl, _, rfl, _, rfl, by show 2 ≤ sizeLine; decide, fun p np => ?_⟩
          have g3 : Gr [] H2 (upd H2 p (.tup [.int (0 + (k : Nat)), .int n])) := Gr.new np
          have e3 : (upd H2 p (.tup [.int (0 + (k : Nat)), .int n])) p = some (.tup [.int (k : Nat), .int n]) := by
            rw [upd_same, e1]
          generalize (upd H2 p (.tup [.int (0 + (k : Nat)), .int n])) = H3 at g3 e3 ⊢
          refine ⟨b, k, n, L, p, rfl, e3, ⟨hbn, hk, gk, hp⟩, hP, fun t H4 g4 h4 => ?_⟩
          have gA := (gL.trans g3).trans g4
          have hL4 := g4 l _ (by simp) (g3 l _ (by simp) hL2)
          have hM4 := g4 M _ (by simp) (g3 M _ (by simp) hM2)
          refine ⟨t, rfl, ⟨_, sq_tup h4⟩, ?_⟩
          have htM : t ≠ M := fun z => by
            rw [z, hM4] at h4
            cases h4
          have hlt : l ≠ t := fun z => by
            rw [← z, hL4] at h4
            cases h4
          refine for_tup (K := K) (a := t) (xs := vn (rl b n k L)) (fun i σ H' => Gr [] H H' ∧ H' l = some (.lst (vn (((List.range n).take (k + 1)).filter (topB b n L)))) ∧ H' t = some (.tup (vn (rl b n k L))) ∧ (∃ ms, H' M = some (.lst ms) ∧ MetS b n L k i ms) ∧ ∃ w, σ = [some (.int b), some (.int n), some (.ref M), some (.ref l), some (.int (k : Nat)), w]) ⟨gA, hL4, h4, ⟨ms, hM4, hm.1, fun r hr => ?_⟩, _, by rw [e1]; rfl⟩ (fun i σ H' _ z => sq_tup z.2.2.1) ?_ ?_
          · obtain ⟨c2, h1, h2⟩ := hm.2 r hr
            refine ⟨c2, h1, h2.trans ⟨.inl, ?_⟩⟩
            rintro (x | ⟨j, hj, _⟩)
            · exact x
            · exact absurd hj (Nat.not_lt_zero _)
          · rintro i y σ H5 hy ⟨G5, hL5, hT5, ⟨ms5, hM5, hm5⟩, w5, rfl⟩
            obtain ⟨hi, rfl⟩ := vn_get hy
            have hi' : i < L := by rw [rl_len] at hi; exact hi
            have eg : (rl b n k L)[i] = rem b n k i := by simp [rl]
            rw [eg]
            have hr := rem_lt (b := b) (n := n) (x := k) (i := i) hn1
            refine ⟨_, rfl, _, rfl, M, _, _, _, rfl, rfl, hM5, ixN_nat (by rw [hm5.1]; exact hr), ?_⟩
            refine ⟨fun u o _ e => ?_, ?_, ?_, ⟨_, upd_same, by rw [List.length_set]; exact hm5.1, fun r hr2 => ?_⟩, _, rfl⟩
            · rw [upd_ne (ne_of_none e nM0)]
              exact G5 u o (by simp) e
            · rw [upd_ne (Ne.symm hMl)]
              exact hL5
            · rw [upd_ne htM]
              exact hT5
            · obtain ⟨c2, h1, h2⟩ := hm5.2 r hr2
              by_cases er : rem b n k i = r
              · refine ⟨true, ?_, ?_⟩
                · rw [← er, List.getElem?_set_self (by rw [hm5.1]; exact hr)]
                · exact ⟨fun _ => .inr ⟨i, Nat.lt_succ_self _, er⟩, fun _ => rfl⟩
              · refine ⟨c2, ?_, h2.trans ⟨?_, ?_⟩⟩
                · rw [List.getElem?_set_ne er]
                  exact h1
                · rintro (x | ⟨j, hj, x⟩)
                  · exact .inl x
                  · exact .inr ⟨j, by omega, x⟩
                · rintro (x | ⟨j, hj, x⟩)
                  · exact .inl x
                  · rcases Nat.lt_or_eq_of_le (show j ≤ i by omega) with y | y
                    · exact .inr ⟨j, y, x⟩
                    · subst y
                      exact absurd x er
          · rintro σ H5 ⟨G5, hL5, hT5, ⟨ms5, hM5, hm5⟩, w5, rfl⟩
            refine ⟨G5, hL5, ⟨ms5, hM5, hm5.1, fun r hr => ?_⟩, _, _, rfl⟩
            obtain ⟨c2, h1, h2⟩ := hm5.2 r hr
            refine ⟨c2, h1, h2.trans ?_⟩
            rw [met_succ, vn_len, rl_len]
            constructor
            · rintro (x | ⟨j, hj, x⟩)
              · exact .inl x
              · exact .inr ⟨gk, j, hj, x⟩
            · rintro (x | ⟨_, j, hj, x⟩)
              · exact .inl x
              · exact .inr ⟨j, hj, x⟩
        · have z : topB b n L k = false := by
            cases t : topB b n L k with
            | false => rfl
            | true => exact absurd (top_iff.mp t).1 gk
          have e : (!decide (V.int ((Nat.gcd (k : Int).natAbs (n : Int).natAbs : Nat) : Int) = V.int 1)) = true := by
            rw [Int.natAbs_natCast, Int.natAbs_natCast, decide_eq_false (fun z => gk (by have := V.int.inj z; omega))]
            rfl
          rw [e]
          obtain ⟨h1, h2⟩ := cont z
          exact iteT ⟨G, by rw [h2]; exact hL, ⟨ms, hM, h1⟩, _, _, rfl⟩
    rintro σ H2 ⟨G, hL, _, v, w, rfl⟩
    rw [Int.toNat_natCast, List.take_of_length_le (by simp)] at hL
    refine ⟨_, rfl, l, _, rfl, .inl ⟨sq_lst hL, fun t nt => ?_⟩⟩
    exact q t _ (G.trans (Gr.new nt)) upd_same

def sp_are_digits : Sp := fun vs H Q _ => ∃ (a : Addr) (b lo : Nat) (ds : List Nat), vs = [.int b, .ref a, .int lo] ∧ H a = some (.tup (vn ds)) ∧ (∀ d ∈ ds, d < b) ∧ (lo ≤ ds.length ∧ ds.length ≤ 400) ∧ ∀ H', Gr [] H H' → Q (.bl true) H'
theorem ok_are_digits (T : Txt K mg) : FnOk P w K mg base CX0 3 T.d_are_digits.f T.d_are_digits.fd ["base", "value", "least"] sp_are_digits := by
  refine T.d_are_digits.F.ok sc_are_digits (fun vs H Q E h => ?_) (fun cdv A outer s H vs Q E hr h => ?_)
  · obtain ⟨a, b, lo, ds, rfl, _⟩ := h; rfl
  · have hu := hu_of hr
    refine ⟨_, (pss_cons (ps_if (PW.pt (pw_or (pt_not (pt_val (pe_callB (r := rIs K) call_is (by rfl) T.b_isinstance (by decide +kernel) (pa_cons (pv 1) (pa_cons (pe_bltn (v := .ty "tuple") (by rfl) T.b_tuple (by decide +kernel) rfl) pa_nil))))) (pw_or1 (pt_not (pt_chain op_le op_le (pv 2) (pe_callB (r := rLn K) call_ln (by rfl) T.b_len PySem.boot_len (pa_cons (pv 1) pa_nil)) (pe_glob (v := .int 400) (by rfl) T.c_MOST_DIGITS ⟨_, rfl⟩)))))) (pss_one (ps_ret pe_bl)) pss_nil)
      (pss_one (ps_ret (pe_callB (r := rAll K) (cr_all rfl) (by rfl) T.b_all (by decide +kernel) (pa_cons (pe_lc (own := [("digit", 3)]) (g := gName 3) (tt := tYes) rfl sc_are_digits.nd (pi_tup (pv 1)) (blkOk_by (own := [("digit", 3)]) (N := ["base", "value", "least", "digit"]) (sc := defScope s_are_digits) (by decide +kernel)) (fun _ _ _ _ _ => (pg_name (i := 3) sc_are_digits.nd rfl (by first | exact .inl rfl | exact .inr rfl))) (fun _ _ _ _ _ => pts_nil) (fun _ _ _ _ _ => (pe_call (ok_is_within T) (hr.mono (by decide)) (by rfl) T.d_is_within.m T.d_is_within.F.kp T.d_is_within.b .nil pass0 (pa_cons (pv 3) (pa_cons pe_int (pa_cons (pe_op op_sub (pv 0) pe_int) pa_nil)))))) pa_nil))))), ?_⟩
    obtain ⟨a, b, lo, ds, rfl, ha, hds, ⟨h1, h2⟩, q⟩ := h
    refine ⟨_, rfl, _, "tuple", rfl, "tuple", ⟨ty_tup ha, by decide, by decide⟩, true, rfl, ?_⟩
    refine iteF ⟨_, rfl, _, rfl, a, _, rfl, .inr (sq_tup ha), ?_⟩
    rw [vn_len]
    refine ⟨_, _, rfl, rfl, _, rfl, iteTb (decide_eq_true (by omega)) ⟨_, _, rfl, rfl, _, rfl, iteFb ?_ ?_⟩⟩
    · rw [decide_eq_true (show (ds.length : Int) ≤ 400 by omega)]
      rfl
    refine ⟨_, rfl, a, rfl, ⟨_, sq_tup ha⟩, fun D nD => ?_⟩
    refine lc_tup (K := K) (a := a) (xs := vn ds) (fun j H2 => Gr [] H H2 ∧ H2 D = some (.lst ((List.replicate j true).map V.bl))) ⟨Gr.new nD, upd_same⟩ (fun i H2 _ z => sq_tup (z.1 a _ (by simp) ha)) ?_ ?_
    · rintro j y H2 hy ⟨G2, hD⟩
      obtain ⟨hj, rfl⟩ := vn_get hy
      have hk := hds _ (List.getElem_mem hj)
      refine ⟨rfl, ?_⟩
      dsimp only [tYes]
      refine iteT ⟨_, rfl, _, rfl, _, 1, rfl, rfl, _, _, _, rfl, ⟨by omega, by omega⟩, _, hD, ?_, ?_, ?_⟩
      · rw [List.length_map, List.length_replicate]
        exact Nat.lt_of_lt_of_le (show j < 6000 by omega) (by decide)
      · intro u o _ e
        rw [upd_ne (ne_of_none e nD)]
        exact G2 u o (by simp) e
      · rw [upd_same, List.replicate_succ', List.map_append]
        rfl
    rintro H2 ⟨G2, hD⟩
    refine ⟨D, _, rfl, sq_lst hD, ?_⟩
    have e : (List.replicate (vn ds).length true).all id = true := by
      rw [List.all_eq_true]
      intro x hx
      rw [List.eq_of_mem_replicate hx]
      rfl
    rw [e]
    exact q _ G2

def sp_need_digits : Sp := fun vs H Q _ => ∃ (a : Addr) (b : Nat) (ds : List Nat), vs = [.int b, .ref a] ∧ H a = some (.tup (vn ds)) ∧ (2 ≤ b ∧ b ≤ 1000) ∧ (∀ d ∈ ds, d < b) ∧ (1 ≤ ds.length ∧ ds.length ≤ 400) ∧ ∀ H', Gr [] H H' → Q (.ref a) H'
theorem ok_need_digits (T : Txt K mg) : FnOk P w K mg base CX0 4 T.d_need_digits.f T.d_need_digits.fd ["base", "value"] sp_need_digits := by
  refine T.d_need_digits.F.ok sc_need_digits (fun vs H Q E h => ?_) (fun cdv A outer s H vs Q E hr h => ?_)
  · obtain ⟨a, b, ds, rfl, _⟩ := h; rfl
  · have hu := hu_of hr
    refine ⟨_, (pss_cons (ps_expr (pe_call (ok_need_base T) (hr.mono (by decide)) (by rfl) T.d_need_base.m T.d_need_base.F.kp T.d_need_base.b .nil pass0 (pa_cons (pv 0) pa_nil)))
      (pss_cons (ps_if (pt_not (pt_val (pe_call (ok_are_digits T) (hr.mono (by decide)) (by rfl) T.d_are_digits.m T.d_are_digits.F.kp T.d_are_digits.b .nil pass0 (pa_cons (pv 0) (pa_cons (pv 1) (pa_cons pe_int pa_nil)))))) (pss_one ps_never) pss_nil)
      (pss_one (ps_ret (pv 1))))), ?_⟩
    obtain ⟨a, b, ds, rfl, ha, ⟨hb1, hb2⟩, hds, ⟨h1, h2⟩, q⟩ := h
    refine ⟨_, rfl, b, rfl, ⟨by omega, by omega⟩, ?_⟩
    refine ⟨_, rfl, _, rfl, a, b, 1, ds, rfl, ha, hds, ⟨h1, h2⟩, fun H1 g1 => ⟨_, rfl, iteF ?_⟩⟩
    exact ⟨_, rfl, q _ g1⟩

def sp_rotated : Sp := fun vs H Q _ => ∃ (a : Addr) (b by_ : Nat) (ds : List Nat), vs = [.int b, .ref a, .int by_] ∧ H a = some (.tup (vn ds)) ∧ (2 ≤ b ∧ b ≤ 1000) ∧ (∀ d ∈ ds, d < b) ∧ (1 ≤ ds.length ∧ ds.length ≤ 400) ∧ by_ ≤ 10 ^ 30 ∧ ∀ t H', Gr [] H H' → H' t = some (.tup (vn (rotL ds (by_ % ds.length)))) → Q (.ref t) H'
theorem vn_drop (ds : List Nat) (k : Nat) : (vn ds).drop k = vn (ds.drop k) := by
  unfold vn
  rw [List.map_drop]
theorem vn_take (ds : List Nat) (k : Nat) : (vn ds).take k = vn (ds.take k) := by
  unfold vn
  rw [List.map_take]
theorem vn_app (xs ys : List Nat) : vn xs ++ vn ys = vn (xs ++ ys) := by
  unfold vn
  rw [List.map_append]
theorem vn_nil {xs : List Nat} (h : vn xs = []) : xs = [] := List.map_eq_nil_iff.mp h

def sp_law_turned : Sp := fun vs H Q _ => ∃ (a : Addr) (by_ : Nat) (ds : List Nat), vs = [.ref a, .int by_] ∧ H a = some (.tup (vn ds)) ∧ (1 ≤ ds.length ∧ ds.length ≤ 5000) ∧ ∀ t H', Gr [] H H' → H' t = some (.tup (vn (rotL ds (by_ % ds.length)))) → Q (.ref t) H'

def DG (b : Nat) (ds : List Nat) : Prop := (2 ≤ b ∧ b ≤ 1000) ∧ (∀ d ∈ ds, d < b) ∧ (1 ≤ ds.length ∧ ds.length ≤ 400)
def sp_value_of : Sp := fun vs H Q _ => ∃ (a : Addr) (b : Nat) (ds : List Nat), vs = [.int b, .ref a] ∧ H a = some (.tup (vn ds)) ∧ DG b ds ∧ ∀ H', Gr [] H H' → Q (.int (wrt b ds : Nat)) H'
theorem pow_bits {b k : Nat} (hb : b ≤ 1000) : b ^ k < 2 ^ (10 * k + 1) := by
  refine Nat.lt_of_le_of_lt (Nat.pow_le_pow_left (show b ≤ 2 ^ 10 by omega) k) ?_
  rw [← Nat.pow_mul]
  exact Nat.pow_lt_pow_right (by decide) (by omega)
theorem wrt_bits {b : Nat} {ds : List Nat} (hb : b ≤ 1000) (h : ∀ d ∈ ds, d < b) : wrt b ds < 2 ^ (10 * ds.length + 1) := Nat.lt_trans (wrt_lt h) (pow_bits hb)
theorem catA_of {K : PySem.W.Frag} {H : Hp} {p1 p2 : Addr} {xs ys : List V} {Q : VK} (h1 : H p1 = some (.tup xs)) (h2 : H p2 = some (.tup ys)) (hz : xs.length + ys.length ≤ 6000) (q : ∀ p H', Gr [] H H' → H' p = some (.tup (xs ++ ys)) → Q (.ref p) H') : rCatA K (.ref p1) (.ref p2) H Q :=
  ⟨p1, p2, xs, ys, rfl, rfl, sq_tup h1, sq_tup h2, Nat.le_trans hz (by decide), fun z => q p2 H (Gr.refl _ _) (by rw [z]; exact h2), fun _ z => q p1 H (Gr.refl _ _) (by rw [z, List.append_nil]; exact h1), fun _ _ p np => q p _ (Gr.new np) upd_same⟩
theorem ok_value_of (T : Txt K mg) : FnOk P w K mg base CX0 5 T.d_value_of.f T.d_value_of.fd ["base", "digits"] sp_value_of := by
  refine T.d_value_of.F.ok sc_value_of (fun vs H Q E h => ?_) (fun cdv A outer s H vs Q E hr h => ?_)
  · obtain ⟨a, b, ds, rfl, _⟩ := h; rfl
  · have hu := hu_of hr
    refine ⟨_, (pss_one (ps_ret (pe_call (ok_number_of T) (hr.mono (by decide)) (by rfl) T.d_number_of.m T.d_number_of.F.kp T.d_number_of.b .nil pass0 (pa_cons (pv 0) (pa_cons (pe_call (ok_need_digits T) (hr.mono (by decide)) (by rfl) T.d_need_digits.m T.d_need_digits.F.kp T.d_need_digits.b .nil pass0 (pa_cons (pv 0) (pa_cons (pv 1) pa_nil))) pa_nil))))), ?_⟩
    obtain ⟨a, b, ds, rfl, ha, ⟨⟨hb1, hb2⟩, hds, hl⟩, q⟩ := h
    refine ⟨_, rfl, _, rfl, _, rfl, a, b, ds, rfl, ha, ⟨hb1, hb2⟩, hds, hl, fun H1 g1 => ?_⟩
    exact ⟨b, a, ds, rfl, g1 a _ (by simp) ha, hb2, q H1 g1⟩

/-- where y stands in the row of x -/
def rotV (b n x y L : Nat) : V := if topI b n x y L < L then .int (topI b n x y L : Nat) else .non
def sp_rotation : Sp := fun vs H Q _ => ∃ (b x y n L : Nat) (a c : Addr), vs = [.int b, .ref a, .ref c] ∧ H a = some (.tup [.int x, .int n]) ∧ H c = some (.tup [.int y, .int n]) ∧ PF b x n ∧ PF b y n ∧ IsPer b n L ∧
  ∀ H', Gr [] H H' → Q (rotV b n x y L) H'
theorem ok_rotation (T : Txt K mg) : FnOk P w K mg base CX0 7 T.d_rotation.f T.d_rotation.fd ["base", "fraction", "other"] sp_rotation := by
  refine T.d_rotation.F.ok sc_rotation (fun vs H Q E h => ?_) (fun cdv A outer s H vs Q E hr h => ?_)
  · obtain ⟨b, x, y, n, L, a, c, rfl, _⟩ := h; rfl
  · have hu := hu_of hr
    refine ⟨_, (pss_cons (ps_expr (pe_call (ok_need_pure_fraction T) (hr.mono (by decide)) (by rfl) T.d_need_pure_fraction.m T.d_need_pure_fraction.F.kp T.d_need_pure_fraction.b .nil pass0 (pa_cons (pv 0) (pa_cons (pv 1) pa_nil))))
      (pss_cons (ps_expr (pe_call (ok_need_pure_fraction T) (hr.mono (by decide)) (by rfl) T.d_need_pure_fraction.m T.d_need_pure_fraction.F.kp T.d_need_pure_fraction.b .nil pass0 (pa_cons (pv 0) (pa_cons (pv 2) pa_nil))))
      (pss_cons (ps_if (pt_cmpR op_ne (pe_ix (r := rIxT K) ix_tup (pv 2) pe_int (fun _ _ => rfl)) (pe_ix (r := rIxT K) ix_tup (pv 1) pe_int (fun _ _ => rfl)) (nomark _)) (pss_one ps_never) pss_nil)
      (pss_cons (ps_for PassesOwn.never rfl (pi_enumT (by rfl) T.b_enumerate (pa_cons (pe_call (ok_wheel T) (hr.mono (by decide)) (by rfl) T.d_wheel.m T.d_wheel.F.kp T.d_wheel.b .nil pass0 (pa_cons (pv 0) (pa_cons (pv 1) pa_nil))) pa_nil)) (pg_tup (by rfl) (pgs_cons (pg_name (i := 3) sc_rotation.nd rfl (by first | exact .inl rfl | exact .inr rfl)) (pgs_cons (pg_name (i := 4) sc_rotation.nd rfl (by first | exact .inl rfl | exact .inr rfl)) pgs_nil))) (pss_one (ps_if (pt_cmpR op_eq (pv 4) (pe_ix (r := rIxT K) ix_tup (pv 2) pe_int (fun _ _ => rfl)) (nomark _)) (pss_one (ps_ret (pv 3))) pss_nil)))
      (pss_one (ps_ret pe_non)))))), ?_⟩
    obtain ⟨b, x, y, n, L, a, c, rfl, ha, hc, hf, hf2, hP, q⟩ := h
    refine ⟨_, rfl, _, rfl, b, x, n, a, rfl, ha, hf, ?_⟩
    refine ⟨_, rfl, _, rfl, b, y, n, c, rfl, hc, hf2, ?_⟩
    refine ⟨_, rfl, c, _, _, .int n, rfl, rfl, sq_tup hc, atI_nat (j := 1) rfl, _, rfl, a, _, _, .int n, rfl, rfl, sq_tup ha, atI_nat (j := 1) rfl, rfl, _, rfl, iteFb (by rw [decide_eq_true rfl]; rfl) ?_⟩
    refine ⟨_, rfl, _, rfl, b, x, n, L, a, rfl, ha, hf, hP, fun t H1 g1 h1 => ?_⟩
    have hc1 := g1 c _ (by simp) hc
    refine ⟨t, _, rfl, sq_tup h1, ?_⟩
    refine for_enumT (K := K) (a := t) (xs := vn (rl b n x L)) (fun i σ H' => Gr [] H1 H' ∧ (∀ j, j < i → rem b n x j ≠ y) ∧ ∃ v w, σ = [some (.int b), some (.ref a), some (.ref c), v, w]) ⟨Gr.refl _ _, fun j hj => absurd hj (Nat.not_lt_zero _), none, none, rfl⟩ (fun i σ H' _ z => sq_tup (z.1 t _ (by simp) h1)) ?_ ?_
    · rintro i v0 T0 σ H' hy nT ⟨G, no, v, w, rfl⟩
      obtain ⟨hi, rfl⟩ := vn_get hy
      have hiL : i < L := by rw [rl_len] at hi; exact hi
      have eg : (rl b n x L)[i] = rem b n x i := by simp [rl]
      rw [eg]
      have g2 : Gr [] H' (upd H' T0 (.tup [.int (i : Nat), .int (rem b n x i : Nat)])) := Gr.new nT
      have e2 : (upd H' T0 (.tup [.int (i : Nat), .int (rem b n x i : Nat)])) T0 = some (.tup [.int (i : Nat), .int (rem b n x i : Nat)]) := upd_same
      have hc2 := g2 c _ (by simp) (G c _ (by simp) hc1)
      have G2 := G.trans g2
      generalize (upd H' T0 (.tup [.int (i : Nat), .int (rem b n x i : Nat)])) = H2 at g2 e2 hc2 G2 ⊢
      refine ⟨T0, _, rfl, sq_tup e2, rfl, _, _, rfl, _, _, rfl, rfl, ?_⟩
      refine ⟨_, rfl, _, rfl, c, _, _, .int y, rfl, rfl, sq_tup hc2, atI_nat (j := 0) rfl, rfl, _, rfl, ?_⟩
      by_cases he : rem b n x i = y
      · rw [decide_eq_true (show V.int ((rem b n x i : Nat) : Int) = V.int (y : Int) by rw [he])]
        refine iteT ⟨_, rfl, ?_⟩
        have z := q H2 (g1.trans G2)
        unfold rotV at z
        rw [topI_hit hiL he no, if_pos hiL] at z
        exact z
      · rw [decide_eq_false (show ¬ V.int ((rem b n x i : Nat) : Int) = V.int (y : Int) from fun z => he (by have := V.int.inj z; omega))]
        refine iteF ⟨G2, fun j hj => ?_, _, _, rfl⟩
        rcases Nat.lt_or_eq_of_le (show j ≤ i by omega) with z | z
        · exact no j z
        · rw [z]
          exact he
    rintro σ H' ⟨G, no, v, w, rfl⟩
    rw [vn_len, rl_len] at no
    have z := q H' (g1.trans G)
    unfold rotV at z
    rw [topI_miss no, if_neg (Nat.lt_irrefl _)] at z
    exact z

end
end Wn
namespace Wn
open PySem PySem.Spec PyProof.Rows L2
local macro_rules | `(tactic| walk_at "vc") => `(tactic| simp only [cxK, cxK2, start1, start2, start3, tRet, tRetN, tSeq, tNext, tIfS, tAsg, gName, tDrop, tVar, tC, tOp, tUn, tTest, tB, tNot, tAnd, tOr, tAndV, tOrV, tNotV, tIf, tCons, tNil, tCB, tCall, tChain, tAug, ipI, rI, rI0, rU, rIs, rGcd, rEq, rNe, scal,
  List.getElem?_cons_zero, List.getElem?_cons_succ, List.set_cons_zero, List.set_cons_succ, Option.some.injEq, List.cons.injEq, V.int.injEq, V.bl.injEq, V.ref.injEq, V.str.injEq, and_true, true_and, exists_eq_left, exists_eq_left', exists_and_left, exists_and_right, List.append_nil, List.nil_append, List.cons_append, exists_eq_right, exists_eq_right', and_assoc, exists_const, V.ty.injEq, ↓reduceIte, Bool.false_eq_true, Bool.not_true, Bool.not_false, decide_eq_true_eq])

section
variable {P : Program} {w : World} {K : PySem.W.Frag} {mg : Str → Option Value} {base : Heap}

def sp_multipliers : Sp := fun vs H Q _ => ∃ (a : Addr) (b : Nat) (ds : List Nat), vs = [.int b, .ref a] ∧ H a = some (.tup (vn ds)) ∧ DG b ds ∧ (1 ≤ wrt b ds → Few b ds) ∧
  (1 ≤ wrt b ds → ∀ (ms : List Nat) t H', Gr [] H H' → ms.Pairwise (· < ·) → (∀ k, k ∈ ms ↔ IsMul b ds k) → H' t = some (.tup (vn ms)) → Q (.ref t) H') ∧ 1 ≤ wrt b ds
theorem ok_multipliers (T : Txt K mg) : FnOk P w K mg base CX0 6 T.d_multipliers.f T.d_multipliers.fd ["base", "digits"] sp_multipliers := by
  refine T.d_multipliers.F.ok sc_multipliers (fun vs H Q E h => ?_) (fun cdv A outer s H vs Q E hr h => ?_)
  · obtain ⟨a, b, ds, rfl, _⟩ := h; rfl
  · have hu := hu_of hr
    refine ⟨_, (pss_cons (ps_set (i := 2) sc_multipliers.nd rfl (by first | exact .inl rfl | exact .inr rfl) (pe_call (ok_value_of T) (hr.mono (by decide)) (by rfl) T.d_value_of.m T.d_value_of.F.kp T.d_value_of.b .nil pass0 (pa_cons (pv 0) (pa_cons (pv 1) pa_nil))))
      (pss_cons (ps_if (pt_cmpR op_eq (pv 2) pe_int (nomark _)) (pss_one ps_never) pss_nil)
      (pss_cons (ps_set (i := 3) sc_multipliers.nd rfl (by first | exact .inl rfl | exact .inr rfl) (pe_op op_sub (pe_call (ok_power T) (hr.mono (by decide)) (by rfl) T.d_power.m T.d_power.F.kp T.d_power.b .nil pass0 (pa_cons (pv 0) (pa_cons (pe_callB (r := rLn K) call_ln (by rfl) T.b_len PySem.boot_len (pa_cons (pv 1) pa_nil)) pa_nil))) pe_int))
      (pss_cons (ps_set (i := 4) sc_multipliers.nd rfl (by first | exact .inl rfl | exact .inr rfl) (pe_lst pa_nil))
      (pss_cons (ps_set (i := 5) sc_multipliers.nd rfl (by first | exact .inl rfl | exact .inr rfl) (pv 2))
      (pss_cons (ps_for PassesOwn.never rfl (pi_tup (pv 1)) (pg_name (i := 6) sc_multipliers.nd rfl (by first | exact .inl rfl | exact .inr rfl)) (pss_cons (ps_if (pt_cmpR op_eq (pe_op op_mod (pv 5) (pv 2)) pe_int (nomark _)) (pss_one (ps_expr (pe_bm PySem.F.plainAttrs_list PySem.F.slot_list_append PySem.F.type_list_append mt_append (pv 4) (pa_cons (pe_op op_fdivW (pv 5) (pv 2)) pa_nil)))) pss_nil)
      (pss_one (ps_set (i := 5) sc_multipliers.nd rfl (by first | exact .inl rfl | exact .inr rfl) (pe_op op_sub (pe_op op_mul (pv 5) (pv 0)) (pe_op op_mul (pv 6) (pv 3)))))))
      (pss_one (ps_ret (pe_callTy (r := rTpO K) call_tpO (by rfl) T.b_tuple (by decide +kernel) (pa_cons (pe_callB (cr_sortedSet rfl) (by rfl) T.b_sorted (by decide +kernel) (pa_cons (pe_callTy (r := rSetL K _) (call_setL rfl) (by rfl) T.b_set (by decide +kernel) (pa_cons (pv 4) pa_nil)) pa_nil)) pa_nil)))))))))), ?_⟩
    obtain ⟨a, b, ds, rfl, ha, hD, few, q, hv1⟩ := h
    obtain ⟨⟨hb1, hb2⟩, hds, ⟨h1, h2⟩⟩ := id hD
    refine ⟨_, rfl, _, rfl, a, b, ds, rfl, ha, hD, fun H1 g1 => ?_⟩
    refine ⟨_, rfl, rfl, _, rfl, ?_⟩
    have hv : wrt b ds ≠ 0 := by omega
    rw [decide_eq_false (show ¬ V.int ((wrt b ds : Nat) : Int) = V.int 0 from fun z => hv (by have := V.int.inj z; omega))]
    refine iteF ?_
    have few := few hv1
    have q := q hv1
    have ha1 := g1 a _ (by simp) ha
    refine ⟨_, rfl, _, rfl, a, _, rfl, .inr (sq_tup ha1), b, ds.length, ?_, ⟨by omega, by omega⟩, _, _, rfl, rfl, ?_⟩
    · rw [vn_len]
      rfl
    refine ⟨Nat.zero_le _, fun l nl => ?_⟩
    have hl0 : (upd H1 l (.lst [])) l = some (.lst []) := upd_same
    have g2 : Gr [] H1 (upd H1 l (.lst [])) := Gr.new nl
    have ha2 := g2 a _ (by simp) ha1
    generalize hH2 : upd H1 l (.lst []) = H2 at hl0 g2 ha2 ⊢
    refine ⟨_, rfl, ?_⟩
    have rb : ∀ i, wrt b (rotL ds i) < 2 ^ 8000 := fun i => by
      refine Nat.lt_of_lt_of_le (wrt_bits hb2 (ds := rotL ds i) fun d hd => hds d (mem_rotL hd)) (Nat.pow_le_pow_right (by decide) ?_)
      rw [rotL_len]
      omega
    have vb : wrt b ds < 2 ^ 8000 := by
      have := rb 0
      rwa [rotL_zero] at this
    refine ⟨_, rfl, a, rfl, ⟨_, sq_tup ha2⟩, ?_⟩
    refine for_tup (K := K) (a := a) (xs := vn ds) (fun i σ H' => Gr [] H1 H' ∧ H' l = some (.lst (vn (mulL b ds i))) ∧ H' a = some (.tup (vn ds)) ∧ ∃ v, σ = [some (.int b), some (.ref a), some (.int (wrt b ds : Nat)), some (.int (((b ^ ds.length : Nat) : Int) - 1)), some (.ref l), some (.int (wrt b (rotL ds i) : Nat)), v]) ⟨g2, hl0, ha2, none, ?_⟩ (fun i σ H' _ z => sq_tup z.2.2.1) ?_ ?_
    · rw [rotL_zero]
      rfl
    · rintro i y σ H' hy ⟨G, hL, hA, v, rfl⟩
      obtain ⟨hi, rfl⟩ := vn_get hy
      have next : ∀ {σ0 : L2.St} {H3 : Hp}, Gr [] H1 H3 → H3 l = some (.lst (vn (mulL b ds (i + 1)))) → H3 a = some (.tup (vn ds)) → True := fun _ _ _ => trivial
      have step := wrt_rot (b := b) hi (by omega)
      refine ⟨_, rfl, _, rfl, _, _, rfl, rfl, (show (0 : Int) < ((wrt b ds : Nat) : Int) by omega), rfl, _, rfl, ?_⟩
      by_cases hm : wrt b (rotL ds i) % wrt b ds = 0
      · refine iteTb (decide_eq_true (show V.int (((wrt b (rotL ds i) : Nat) : Int) % ((wrt b ds : Nat) : Int)) = V.int 0 by rw [← Int.natCast_emod, hm]; rfl)) ⟨_, rfl, .inl ⟨rfl, _, sq_lst hL⟩, _, rfl, _, rfl, _, _, rfl, rfl, wide_div (b := 8000) (by omega) (by rw [Int.natAbs_natCast]; exact vb) (by decide) (by decide), l, _, _, rfl, rfl, hL, ?_, ?_⟩
        · rw [vn_len]
          have := mulL_len b ds i
          exact Nat.lt_of_lt_of_le (show _ < 6000 by omega) (by decide)
        dsimp only
        rw [← Int.natCast_ediv, vn_snoc]
        refine ⟨_, rfl, _, rfl, _, _, rfl, rfl, .inr ⟨by omega, by omega⟩, _, rfl, _, rfl, _, _, rfl, rfl, .inl ⟨by have := hds _ (List.getElem_mem hi); omega, by have := hds _ (List.getElem_mem hi); omega⟩, _, _, rfl, rfl, ?_⟩
        dsimp only
        refine ⟨fun u o _ e => ?_, ?_, ?_, some (.int (ds[i] : Nat)), ?_⟩
        · have nu : u ≠ l := fun z => by
            rw [z, nl] at e
            cases e
          rw [upd_ne nu]
          exact G u o (by simp) e
        · rw [upd_same, mulL_succ, if_pos hm]
        · rw [upd_ne (ne_of hA hL (by intro z; cases z))]
          exact hA
        · rw [← step]
          rfl
      · refine iteFb (decide_eq_false (show ¬ V.int (((wrt b (rotL ds i) : Nat) : Int) % ((wrt b ds : Nat) : Int)) = V.int 0 from fun z => hm (by rw [← Int.natCast_emod] at z; have := V.int.inj z; omega))) ?_
        refine ⟨_, rfl, _, rfl, _, _, rfl, rfl, .inr ⟨by omega, by omega⟩, _, rfl, _, rfl, _, _, rfl, rfl, .inl ⟨by have := hds _ (List.getElem_mem hi); omega, by have := hds _ (List.getElem_mem hi); omega⟩, _, _, rfl, rfl, ?_⟩
        dsimp only
        refine ⟨G, ?_, hA, some (.int (ds[i] : Nat)), ?_⟩
        · rw [mulL_succ, if_neg hm, List.append_nil]
          exact hL
        · rw [← step]
          rfl
    rintro σ H3 ⟨G, hL, hA, v, rfl⟩
    rw [vn_len] at hL
    have hlen := mulL_len b ds ds.length
    refine ⟨_, rfl, l, ni (mulL b ds ds.length), rfl, by rw [← vn_ni]; exact sq_lst hL, by unfold ni; rw [List.length_map]; omega, fun s ks ns nd mk => ?_⟩
    have nonneg : ∀ k ∈ ks, (0 : Int) ≤ k := fun k hk => by
      obtain ⟨z, _, rfl⟩ := List.mem_map.mp ((mk k).mp hk)
      omega
    obtain ⟨kn, rfl⟩ := ni_of nonneg
    have memk : ∀ k, k ∈ kn ↔ IsMul b ds k := fun k => by
      rw [← mem_ni, mk, mem_ni, mem_mulL hv1]
      rfl
    have ndk : kn.Nodup := by
      unfold ni at nd
      exact (List.pairwise_map.mp nd).imp fun h e => h (by rw [e])
    have lt64 : (ni kn).length < 64 := by
      unfold ni
      rw [List.length_map]
      exact few kn ndk fun k hk => (memk k).mp hk
    refine ⟨s, _, _, rfl, upd_same, lt64, fun ns p asc mem hn np => ?_⟩
    have nonneg2 : ∀ k ∈ ns, (0 : Int) ≤ k := fun k hk => by
      have := (mem k).mp hk
      rw [decide_eq_true_eq] at this
      obtain ⟨z, _, rfl⟩ := List.mem_map.mp this
      omega
    obtain ⟨ms, rfl⟩ := ni_of nonneg2
    have g4 : Gr [] H3 (upd (upd H3 s (SetO w s (fun j => decide (j ∈ ni (mulL b ds ds.length))) (ni kn).length)) p (.lst ((ni ms).map V.int))) := (Gr.new ns).trans (Gr.new np)
    have hp : (upd (upd H3 s (SetO w s (fun j => decide (j ∈ ni (mulL b ds ds.length))) (ni kn).length)) p (.lst ((ni ms).map V.int))) p = some (.lst (vn ms)) := by rw [upd_same, vn_ni]
    refine ⟨p, _, rfl, .inl ⟨sq_lst hp, fun t nt => ?_⟩⟩
    refine q ms t _ (((g1.trans G).trans g4).trans (Gr.new nt)) ?_ (fun k => ?_) upd_same
    · unfold ni at asc
      rw [List.pairwise_map] at asc
      exact asc.imp fun h => by omega
    · rw [← mem_ni, mem, decide_eq_true_eq, mem_ni, mem_mulL hv1]
      rfl

def di (xs : List Nat) : PyData := .tuple ((ni xs).map PyData.int)
theorem sm_ni {xs : List Nat} {m : Nat} (h : ∀ k ∈ xs, k < 8192) (hm : xs.length ≤ m) : Sm (di xs) 13 1 (m * 14) := by
  refine Sm.tup (W := 13) m (fun d hd => ?_) (by unfold ni; rw [List.length_map, List.length_map]; exact hm)
  obtain ⟨z, hz, rfl⟩ := List.mem_map.mp hd
  obtain ⟨k, hk, rfl⟩ := List.mem_map.mp hz
  exact Sm.int (by decide) (by rw [Int.natAbs_natCast]; exact h k hk) (by decide)
theorem sml_ni {xs : List Nat} {m : Nat} (h : ∀ k ∈ xs, k < 8192) (hm : xs.length ≤ m) : Sm (.list ((ni xs).map PyData.int)) 13 1 (m * 14) := by
  refine Sm.lst (W := 13) m (fun d hd => ?_) (by unfold ni; rw [List.length_map, List.length_map]; exact hm)
  obtain ⟨z, hz, rfl⟩ := List.mem_map.mp hd
  obtain ⟨k, hk, rfl⟩ := List.mem_map.mp hz
  exact Sm.int (by decide) (by rw [Int.natAbs_natCast]; exact h k hk) (by decide)
theorem dp_vnT {K : PySem.W.Frag} {H : Hp} {t : Addr} {xs : List Nat} (h : H t = some (.tup (vn xs))) : Dp K H (.ref t) (di xs) := by
  rw [vn_ni] at h
  exact dp_tup h (dpAll_ints _)
theorem dp_vnL {K : PySem.W.Frag} {H : Hp} {t : Addr} {xs : List Nat} (h : H t = some (.lst (vn xs))) : Dp K H (.ref t) (.list ((ni xs).map PyData.int)) := by
  rw [vn_ni] at h
  exact dp_lst h (dpAll_ints _)

/-- 1 .. n -/
def upto (n : Nat) : List Nat := (List.range n).map (1 + ·)
theorem rgV_upto (n : Nat) : rgV 1 ((n : Int) + 1) = vn (upto n) := by
  unfold rgV vn upto
  rw [List.map_map, show ((n : Int) + 1 - 1).toNat = n by omega]
  apply List.map_congr_left
  intro i _
  exact congrArg V.int (by show (1 : Int) + (i : Nat) = ((1 + i : Nat) : Int); omega)
theorem upto_len (n : Nat) : (upto n).length = n := by simp [upto]
theorem eqvAll_ni : ∀ xs ys : List Nat, PyData.eqvAll ((ni xs).map PyData.int) ((ni ys).map PyData.int) = decide (xs = ys)
  | [], [] => rfl
  | [], _ :: _ => rfl
  | _ :: _, [] => rfl
  | x :: xs, y :: ys => by
    have ih := eqvAll_ni xs ys
    show (PyData.eqv (.int x) (.int y) && PyData.eqvAll ((ni xs).map PyData.int) ((ni ys).map PyData.int)) = _
    rw [ih]
    apply Bool.eq_iff_iff.mpr
    rw [Bool.and_eq_true, decide_eq_true_eq, decide_eq_true_eq]
    constructor
    · rintro ⟨h1, h2⟩
      have h1' : ((x : Nat) : Int) = (y : Int) := by simpa [PyData.eqv] using h1
      rw [h2, show x = y by omega]
    · intro h
      injection h with h1 h2
      refine ⟨?_, h2⟩
      rw [h1]
      simp [PyData.eqv]
theorem eqv_di (xs ys : List Nat) : PyData.eqv (di xs) (di ys) = decide (xs = ys) := by
  unfold di
  rw [PyData.eqv]
  exact eqvAll_ni xs ys
theorem eqv_dl (xs ys : List Nat) : PyData.eqv (.list ((ni xs).map PyData.int)) (.list ((ni ys).map PyData.int)) = decide (xs = ys) := by
  rw [PyData.eqv]
  exact eqvAll_ni xs ys
theorem smW_ni {xs : List Nat} {m : Nat} (h : ∀ k ∈ xs, k < 2 ^ 1900) (hm : xs.length ≤ m) : Sm (di xs) 600 1 m := by
  have := Sm.tup (xs := (ni xs).map PyData.int) (B := 600) (D := 0) (W := 0) m (fun d hd => by
    obtain ⟨z, hz, rfl⟩ := List.mem_map.mp hd
    obtain ⟨k, hk, rfl⟩ := List.mem_map.mp hz
    exact Sm.intW (by rw [Int.natAbs_natCast]; exact h k hk)) (by unfold ni; rw [List.length_map, List.length_map]; exact hm)
  unfold di
  simpa using this
/-- ascending, all multipliers -/
def MS (b : Nat) (ds ms : List Nat) : Prop := ms.Pairwise (· < ·) ∧ ∀ k, k ∈ ms ↔ IsMul b ds k
theorem MS.uniq {b : Nat} {ds ms ms' : List Nat} (h : MS b ds ms) (h' : MS b ds ms') : ms = ms' := ascN_eq h.1 h'.1 fun k => (h.2 k).trans (h'.2 k).symm
theorem MS.bits {b : Nat} {ds ms : List Nat} (h : MS b ds ms) (hD : DG b ds) (hl : ds.length ≤ 94) (hv : 1 ≤ wrt b ds) : ∀ k ∈ ms, k < 2 ^ 1900 := fun k hk => by
  obtain ⟨j, hj, e⟩ := (h.2 k).mp hk
  have h1 := wrt_bits (ds := rotL ds j) hD.1.2 fun d hd => hD.2.1 d (mem_rotL hd)
  rw [rotL_len, e] at h1
  refine Nat.lt_of_le_of_lt (Nat.le_mul_of_pos_right k hv) (Nat.lt_of_lt_of_le h1 (Nat.pow_le_pow_right (by decide) (by omega)))
theorem MS.few {b : Nat} {ds ms : List Nat} (h : MS b ds ms) (f : Few b ds) : ms.length < 64 := f ms (h.1.imp fun h => Nat.ne_of_lt h) fun k hk => (h.2 k).mp hk
/-- the multipliers -/
noncomputable def msOf (b : Nat) (ds : List Nat) : List Nat := Classical.epsilon (MS b ds)
theorem MS.is {b : Nat} {ds ms : List Nat} (h : MS b ds ms) : msOf b ds = ms := (Classical.epsilon_spec (p := MS b ds) ⟨ms, h⟩ : MS b ds (msOf b ds)).uniq h
noncomputable def cycB (b : Nat) (ds : List Nat) : Bool := decide (1 ≤ wrt b ds) && decide (2 ≤ ds.length) && decide (msOf b ds = upto ds.length)
def sp_is_cyclic : Sp := fun vs H Q _ => ∃ (a : Addr) (b : Nat) (ds : List Nat), vs = [.int b, .ref a] ∧ H a = some (.tup (vn ds)) ∧ DG b ds ∧ ds.length ≤ 94 ∧ (1 ≤ wrt b ds → Few b ds) ∧ ∀ H', Gr [] H H' → Q (.bl (cycB b ds)) H'
theorem ok_is_cyclic (T : Txt K mg) : FnOk P w K mg base CX0 7 T.d_is_cyclic.f T.d_is_cyclic.fd ["base", "digits"] sp_is_cyclic := by
  refine T.d_is_cyclic.F.ok sc_is_cyclic (fun vs H Q E h => ?_) (fun cdv A outer s H vs Q E hr h => ?_)
  · obtain ⟨a, b, ds, rfl, _⟩ := h; rfl
  · have hu := hu_of hr
    refine ⟨_, (pss_cons (ps_if (PW.pt (pw_or (pt_cmpR op_eq (pe_call (ok_value_of T) (hr.mono (by decide)) (by rfl) T.d_value_of.m T.d_value_of.F.kp T.d_value_of.b .nil pass0 (pa_cons (pv 0) (pa_cons (pv 1) pa_nil))) pe_int (nomark _)) (pw_or1 (pt_cmpR op_lt (pe_callB (r := rLn K) call_ln (by rfl) T.b_len PySem.boot_len (pa_cons (pv 1) pa_nil)) pe_int (nomark _))))) (pss_one (ps_ret pe_bl)) pss_nil)
      (pss_one (ps_ret (pe_cmpR (r := rEqD K) (op_eqD hr.units) (pe_call (ok_multipliers T) (hr.mono (by decide)) (by rfl) T.d_multipliers.m T.d_multipliers.F.kp T.d_multipliers.b .nil pass0 (pa_cons (pv 0) (pa_cons (pv 1) pa_nil))) (pe_tupRg rfl (by rfl) T.b_tuple (prg_2 (by rfl) T.b_range pe_int (pe_op op_add (pe_callB (r := rLn K) call_ln (by rfl) T.b_len PySem.boot_len (pa_cons (pv 1) pa_nil)) pe_int))) (nomark _))))), ?_⟩
    obtain ⟨a, b, ds, rfl, ha, hD, hl, few, q⟩ := h
    have q1 : (wrt b ds = 0 ∨ ds.length < 2) → ∀ H', Gr [] H H' → Q (.bl false) H' := fun z H' g => by
      have e : cycB b ds = false := by
        unfold cycB
        rcases z with z | z
        · rw [decide_eq_false (show ¬ 1 ≤ wrt b ds by omega)]
          rfl
        · rw [decide_eq_false (show ¬ 2 ≤ ds.length by omega), Bool.and_false]
          rfl
      exact e ▸ q H' g
    have q2 : 1 ≤ wrt b ds → 2 ≤ ds.length → ∀ ms H', MS b ds ms → Gr [] H H' → Q (.bl (decide (ms = upto ds.length))) H' := fun z1 z2 ms H' hM g => by
      have e : cycB b ds = decide (ms = upto ds.length) := by
        unfold cycB
        rw [decide_eq_true z1, decide_eq_true z2, hM.is]
        rfl
      exact e ▸ q H' g
    refine ⟨_, rfl, _, rfl, a, b, ds, rfl, ha, hD, fun H1 g1 => ?_⟩
    have ha1 := g1 a _ (by simp) ha
    refine ⟨rfl, _, rfl, ?_⟩
    by_cases hv : wrt b ds = 0
    · exact iteTb (decide_eq_true (by rw [hv]; rfl)) (iteT (q1 (.inl hv) H1 g1))
    refine iteFb (decide_eq_false (fun z => hv (by have := V.int.inj z; omega))) ?_
    refine ⟨_, rfl, a, _, rfl, .inr (sq_tup ha1), _, _, rfl, rfl, _, rfl, ?_⟩
    rw [vn_len]
    by_cases h2 : ds.length < 2
    · exact iteTb (decide_eq_true (by omega)) (q1 (.inr h2) H1 g1)
    refine iteFb (decide_eq_false (by omega)) ?_
    refine ⟨_, rfl, _, rfl, a, b, ds, rfl, ha1, hD, few, fun _ ms t H2 g2 asc mem ht => ?_, by omega⟩
    have hM : MS b ds ms := ⟨asc, mem⟩
    have ha2 := g2 a _ (by simp) ha1
    refine ⟨_, rfl, a, _, rfl, .inr (sq_tup ha2), ?_⟩
    rw [vn_len]
    refine ⟨_, _, rfl, rfl, _, _, rfl, rfl, RgOk.of_le (by decide) (by omega) (by decide) (by omega), fun u nu => ?_⟩
    rw [rgV_upto]
    have g3 : Gr [] H2 (upd H2 u (.tup (vn (upto ds.length)))) := Gr.new nu
    have s1 := smW_ni (m := 64) (xs := ms) (hM.bits hD hl (by omega)) (Nat.le_of_lt (hM.few (few (by omega))))
    have s2 := smW_ni (m := 94) (xs := upto ds.length) (fun k hk => by
      obtain ⟨i, hi, rfl⟩ := List.mem_map.mp hk
      have := List.mem_range.mp hi
      exact Nat.lt_of_lt_of_le (show 1 + i < 2 ^ 10 by omega) (Nat.pow_le_pow_right (by decide) (by decide))) (by rw [upto_len]; omega)
    refine ⟨_, _, dp_vnT (g3 t _ (by simp) ht), dp_vnT upd_same, s1.shaped, s2.shaped, ?_⟩
    rw [eqv_di]
    exact q2 (by omega) (by omega) ms _ hM ((g1.trans g2).trans g3)

end
end Wn
namespace Wn
open PySem PySem.Spec PyProof.Rows L2
local macro_rules | `(tactic| walk_at "vc") => `(tactic| simp only [cxK, cxK2, start1, start2, start3, tRet, tRetN, tSeq, tNext, tIfS, tAsg, gName, tDrop, tVar, tC, tOp, tUn, tTest, tB, tNot, tAnd, tOr, tAndV, tOrV, tNotV, tIf, tCons, tNil, tCB, tCall, tChain, tAug, ipI, rI, rI0, rU, rIs, rGcd, rEq, rNe, scal,
  List.getElem?_cons_zero, List.getElem?_cons_succ, List.set_cons_zero, List.set_cons_succ, Option.some.injEq, List.cons.injEq, V.int.injEq, V.bl.injEq, V.ref.injEq, V.str.injEq, and_true, true_and, exists_eq_left, exists_eq_left', exists_and_left, exists_and_right, List.append_nil, List.nil_append, List.cons_append, exists_eq_right, exists_eq_right', and_assoc, exists_const, V.ty.injEq, ↓reduceIte, Bool.false_eq_true, Bool.not_true, Bool.not_false, decide_eq_true_eq])

section
variable {P : Program} {w : World} {K : PySem.W.Frag} {mg : Str → Option Value} {base : Heap}

theorem due_le {b n L : Nat} (hL : 1 ≤ L) : (dueL b n L).length ≤ L := by
  unfold dueL splitsL
  refine Nat.le_trans (List.length_filter_le _ _) (Nat.le_trans (List.length_filter_le _ _) ?_)
  rw [from2_len]
  omega
theorem splits_le (L : Nat) : (splitsL L).length ≤ L - 1 := by
  unfold splitsL
  refine Nat.le_trans (List.length_filter_le _ _) ?_
  rw [from2_len]
  exact Nat.le_refl _
theorem per_pos {b n L : Nat} (h : IsPer b n L) : 1 ≤ L := h.1
/-- a period of 2 or more is one of a denominator of 2 or more -/
theorem per_n {b n L : Nat} (hn : 1 ≤ n) (h : IsPer b n L) (h2 : 2 ≤ L) : 2 ≤ n := by
  rcases Nat.lt_or_ge n 2 with z | z
  · have : n = 1 := by omega
    subst this
    exact absurd (by rw [Nat.mod_one, Nat.mod_one]) (h.2.2 1 (Nat.le_refl _) h2)
  · exact z
def sp_cuts : Sp := fun vs H Q _ => ∃ b n L : Nat, vs = [.int b, .int n] ∧ BN b n ∧ Nat.gcd b n = 1 ∧ IsPer b n L ∧ ∀ t H', Gr [] H H' → H' t = some (.tup (vn (dueL b n L))) → Q (.ref t) H'
theorem ok_cuts (T : Txt K mg) : FnOk P w K mg base CX0 6 T.d_cuts.f T.d_cuts.fd ["base", "denominator"] sp_cuts := by
  refine T.d_cuts.F.ok sc_cuts (fun vs H Q E h => ?_) (fun cdv A outer s H vs Q E hr h => ?_)
  · obtain ⟨b, n, L, rfl, _⟩ := h; rfl
  · have hu := hu_of hr
    refine ⟨_, (pss_cons (ps_expr (pe_call (ok_need_pure T) (hr.mono (by decide)) (by rfl) T.d_need_pure.m T.d_need_pure.F.kp T.d_need_pure.b .nil pass0 (pa_cons (pv 0) (pa_cons (pv 1) pa_nil))))
      (pss_cons (ps_set (i := 2) sc_cuts.nd rfl (by first | exact .inl rfl | exact .inr rfl) (pe_call (ok_period T) (hr.mono (by decide)) (by rfl) T.d_period.m T.d_period.F.kp T.d_period.b .nil pass0 (pa_cons (pv 0) (pa_cons (pv 1) pa_nil))))
      (pss_cons (ps_setLc (i := 3) (own := [("cut", 4)]) (g := gName 4) (tt := _) rfl sc_cuts.nd rfl rfl (sw_true rfl rfl rfl (by decide +kernel)) (pi_range2 (by rfl) T.b_range (pa_cons pe_int (pa_cons (pe_op op_add (pv 2) pe_int) pa_nil))) (blkOk_by (own := [("cut", 4)]) (N := ["base", "denominator", "size", "divisors", "cut"]) (sc := defScope s_cuts) (by decide +kernel)) (fun _ _ _ _ _ => (pg_name (i := 4) sc_cuts.nd rfl (by first | exact .inl rfl | exact .inr rfl))) (fun _ _ _ _ _ => (pts_one (pt_cmpR op_eq (pe_op op_mod (pv 2) (pv 4)) pe_int (nomark _)))) (fun _ _ _ _ _ => (pv 4)))
      (pss_one (ps_ret (pe_callTy (r := rTpO K) call_tpO (by rfl) T.b_tuple (by decide +kernel) (pa_cons (pe_lc (own := [("cut", 4)]) (g := gName 4) (tt := _) rfl sc_cuts.nd (pi_list (pv 3)) (blkOk_by (own := [("cut", 4)]) (N := ["base", "denominator", "size", "divisors", "cut"]) (sc := defScope s_cuts) (by decide +kernel)) (fun _ _ _ _ _ => (pg_name (i := 4) sc_cuts.nd rfl (by first | exact .inl rfl | exact .inr rfl))) (fun _ _ _ _ _ => (pts_one (pt_val (pe_call (ok_is_balanced_with T) (hr.mono (by decide)) (by rfl) T.d_is_balanced_with.m T.d_is_balanced_with.F.kp T.d_is_balanced_with.b .nil pass0 (pa_cons (pv 0) (pa_cons (pv 1) (pa_cons (pe_op op_fdiv (pv 2) (pv 4)) (pa_cons (pv 4) pa_nil)))))))) (fun _ _ _ _ _ => (pv 4))) pa_nil))))))), ?_⟩
    obtain ⟨b, n, L, rfl, hbn, hg, hP, q⟩ := h
    obtain ⟨hb1, hb2, hn1, hn2⟩ := id hbn
    have hL1 := hP.1
    have hLn := per_le hn1 hg hP
    refine ⟨_, rfl, _, rfl, b, n, rfl, hbn, hg, ?_⟩
    refine ⟨_, rfl, _, rfl, b, n, rfl, hbn, fun p d hp hd => ?_⟩
    have ep : p = n := hp.uniq (IsPure.self hg)
    subst ep
    have ed : d = L := hd.uniq hP
    subst ed
    refine ⟨_, rfl, _, _, rfl, rfl, 2, _, rfl, ⟨by omega, by omega, by omega, by omega⟩, fun D nD => ?_⟩
    have en : ((d : Int) + 1 - 2).toNat = d - 1 := by omega
    rw [en]
    refine lc_range (lo := 2) (n := d - 1) (fun i H' => Gr [] H H' ∧ H' D = some (.lst (vn (((from2 (d - 1)).take i).filter fun c => decide (d % c = 0))))) ⟨Gr.new nD, upd_same⟩ ?_ ?_
    · rintro i H' hi ⟨G, hD⟩
      have ei : (2 : Int) + (i : Int) = ((2 + i : Nat) : Int) := by omega
      rw [ei]
      refine ⟨rfl, ?_⟩
      have hfl : i < (from2 (d - 1)).length := by rw [from2_len]; exact hi
      have fg := from2_get hi
      have e0 : ((d : Nat) : Int) % ((2 + i : Nat) : Int) = ((d % (2 + i) : Nat) : Int) := by rw [← Int.natCast_emod]
      refine ⟨_, rfl, _, rfl, _, _, rfl, rfl, (show (0 : Int) < ((2 + i : Nat) : Int) by omega), rfl, ?_⟩
      have ex : ∀ {o : HO}, Gr [] H (upd H' D o) := fun {o} c u _ e => by
        rw [upd_ne (ne_of_none e nD)]
        exact G c u (by simp) e
      by_cases h1 : d % (2 + i) = 0
      · rw [decide_eq_true (show V.int ((d : Int) % ((2 + i : Nat) : Int)) = V.int 0 by rw [e0, h1]; rfl)]
        refine ⟨_, rfl, iteT ⟨_, rfl, _, hD, ?_, ex, ?_⟩⟩
        · rw [vn_len]
          refine small5 (Nat.le_trans (List.length_filter_le _ _) ?_)
          rw [List.length_take]
          omega
        · rw [upd_same, vn_snoc, filt_yes hfl (by rw [fg]; exact decide_eq_true h1), fg]
      · rw [decide_eq_false (fun z : V.int ((d : Int) % ((2 + i : Nat) : Int)) = V.int 0 => h1 (by rw [e0] at z; have := V.int.inj z; omega))]
        refine ⟨_, rfl, iteF ⟨G, ?_⟩⟩
        rw [filt_no hfl (by rw [fg]; exact decide_eq_false h1)]
        exact hD
    rintro H1 ⟨g1, hD⟩
    rw [List.take_of_length_le (by rw [from2_len]; exact Nat.le_refl _)] at hD
    have hLs := splits_le d
    refine ⟨_, rfl, D, rfl, ⟨_, sq_lst hD⟩, fun F nF => ?_⟩
    refine lc_list (K := K) (a := D) (xs := vn (splitsL d)) (fun i H' => Gr [] H1 H' ∧ H' F = some (.lst (vn (((splitsL d).take i).filter fun c => bal b p (d / c) c)))) ⟨Gr.new nF, upd_same⟩ (fun i H' _ z => sq_lst (z.1 D _ (by simp) hD)) ?_ ?_
    · rintro i y H' hy ⟨G, hF⟩
      obtain ⟨hi, rfl⟩ := vn_get hy
      have hm := (mem_splits hL1).mp (List.getElem_mem hi)
      generalize hc : (splitsL d)[i] = c at hm ⊢
      have hcL := Nat.le_of_dvd hL1 hm.2
      refine ⟨rfl, ?_⟩
      refine ⟨_, rfl, _, rfl, _, rfl, _, rfl, _, _, rfl, rfl, ⟨by omega, by omega⟩, _, rfl, b, p, d / c, c, ?_, ⟨?_, by omega, by omega⟩, fun H2 g2 => ?_⟩
      · dsimp only
        rw [← Int.natCast_ediv]
        rfl
      · exact per_n hn1 hP (by omega)
      have G2 := G.trans g2
      have hF2 := g2 F _ (by simp) hF
      have ex : ∀ {o : HO}, Gr [] H1 (upd H2 F o) := fun {o} c u _ e => by
        rw [upd_ne (ne_of_none e nF)]
        exact G2 c u (by simp) e
      refine ⟨_, rfl, ?_⟩
      by_cases h1 : bal b p (d / c) c = true
      · rw [h1]
        refine iteT ⟨_, rfl, _, hF2, ?_, ex, ?_⟩
        · rw [vn_len]
          refine small5 (Nat.le_trans (List.length_filter_le _ _) ?_)
          rw [List.length_take]
          omega
        · rw [upd_same, vn_snoc, filt_yes hi (by rw [hc]; exact h1), hc]
      · have h1 := Bool.eq_false_iff.mpr h1
        rw [h1]
        refine iteF ⟨G2, ?_⟩
        rw [filt_no hi (by rw [hc]; exact h1)]
        exact hF2
    rintro H2 ⟨g2, hF⟩
    rw [List.take_of_length_le (by rw [vn_len]; exact Nat.le_refl _)] at hF
    refine ⟨F, _, rfl, .inl ⟨sq_lst hF, fun t nt => ?_⟩⟩
    exact q t _ ((g1.trans g2).trans (Gr.new nt)) upd_same

def sp_is_balanced : Sp := fun vs H Q _ => ∃ b n L k c : Nat, vs = [.int b, .int n, .int c] ∧ BN b n ∧ Nat.gcd b n = 1 ∧ 2 ≤ n ∧ CT b n L k c ∧ ∀ H', Gr [] H H' → Q (.bl (bal b n k c)) H'
theorem ok_is_balanced (T : Txt K mg) : FnOk P w K mg base CX0 7 T.d_is_balanced.f T.d_is_balanced.fd ["base", "denominator", "cut"] sp_is_balanced := by
  refine T.d_is_balanced.F.ok sc_is_balanced (fun vs H Q E h => ?_) (fun cdv A outer s H vs Q E hr h => ?_)
  · obtain ⟨b, n, L, k, c, rfl, _⟩ := h; rfl
  · have hu := hu_of hr
    refine ⟨_, (pss_cons (ps_expr (pe_call (ok_need_pure T) (hr.mono (by decide)) (by rfl) T.d_need_pure.m T.d_need_pure.F.kp T.d_need_pure.b .nil pass0 (pa_cons (pv 0) (pa_cons (pv 1) pa_nil))))
      (pss_one (ps_ret (pe_call (ok_is_balanced_with T) (hr.mono (by decide)) (by rfl) T.d_is_balanced_with.m T.d_is_balanced_with.F.kp T.d_is_balanced_with.b .nil pass0 (pa_cons (pv 0) (pa_cons (pv 1) (pa_cons (pe_call (ok_piece_size T) (hr.mono (by decide)) (by rfl) T.d_piece_size.m T.d_piece_size.F.kp T.d_piece_size.b .nil pass0 (pa_cons (pv 0) (pa_cons (pv 1) (pa_cons (pv 2) pa_nil)))) (pa_cons (pv 2) pa_nil)))))))), ?_⟩
    obtain ⟨b, n, L, k, c, rfl, hbn, hg, hn, hC, q⟩ := h
    obtain ⟨hb1, hb2, hn1, hn2⟩ := id hbn
    obtain ⟨hP, hc2, hk1, hL⟩ := id hC
    obtain ⟨cd, ce⟩ := hC.d
    have hLn := per_le hn1 hg hP
    have hcL : c ≤ L := Nat.le_of_dvd hP.1 cd
    refine ⟨_, rfl, _, rfl, b, n, rfl, hbn, hg, ?_⟩
    refine ⟨_, rfl, _, rfl, _, rfl, _, rfl, _, rfl, b, n, L, c, rfl, hbn, hg, hP, ⟨hc2, cd⟩, ?_⟩
    refine ⟨_, rfl, b, n, k, c, by rw [ce]; rfl, ⟨hn, hn2, by omega⟩, fun H1 g1 => ?_⟩
    exact q H1 g1


end
end Wn
/-! errors of one's own, over any built-in one: made, kept as values, looked at -/
namespace Wn
open PySem PySem.Spec PyProof.Rows L2
/-! the first store to such an error -/
section
open PySem.W PySem.HandSPX Builtin Builtin.ObjectAttr
variable {prog : Program} {w : World} {A : Around} {E : Value → Shared → Prop} {s : Shared} {K : PySem.W.Frag} {C : Addr} {B : String} {bmB : List Value}
theorem osa_one {x t : Addr} {name : Str} {tk : Tok} {v : Value} {R : Result → Shared → Prop} (SF : StoreFacts B bmB "object.__setattr__" "object") (X : K.In s.heap) (hx : s.heap.get? x = some (PySem.W.excObj C t none .none))
    (hp : PySem.W.excOver K C bmB = true) (ht : PySem.W.takerIn K C name = some none) (hh : PySem.W.hasDictIn K C = true)
    (h : ∀ dx h' tk', (∀ b o, b ≠ x → s.heap.get? b = some o → h'.get? b = some o) → s.heap.objs.size ≤ dx → dx ≠ x → h'.get? x = some (PySem.W.excObj C t (some dx) .none) → h'.Ns1 dx (fun y => if y = name then some v else none) → R (.ok (.ret .none)) { s with heap := h', toks := tk' }) :
    codeAny (model prog w) A (.call (.builtin "object.__setattr__") ⟨[.ref x, .str name tk, v], []⟩) R s := by
  have hlt := Heap.lt_size hx
  have hne : s.heap.objs.size ≠ x := Nat.ne_of_gt hlt
  refine osa_openX (od := none) SF X ⟨hx, rfl, rfl, trivial⟩ hp ht fun b => ?_
  obtain ⟨cd, hc, hd⟩ := any_some hh
  refine wpAny_bind (wpAny_pure (wpAny_bind (instanceDict_exc hx (looks_clsIn X hc) hd ?_)))
  have e1 : (s.heap.push (dictOf [] 0)).get? x = some (PySem.W.excObj C t none .none) := Heap.get?_push_of_some _ hx
  obtain ⟨G, hG⟩ : ∃ G, G = (s.heap.push (dictOf [] 0)).update x (fun o => { o with dict := some s.heap.objs.size }) := ⟨_, rfl⟩
  have gx : G.get? x = some (PySem.W.excObj C t (some s.heap.objs.size) .none) := by
    rw [hG]
    exact Heap.get?_update_self _ e1 rfl
  have go : ∀ b, b ≠ x → G.get? b = (s.heap.push (dictOf [] 0)).get? b := fun b hb => by
    rw [hG]
    exact Heap.get?_update_ne _ _ _ _ hb
  have gd : G.Ns s.heap.objs.size (fun _ => none) := by
    refine ⟨_, #[], 0, (go _ hne).trans (Heap.get?_push_size _ rfl), rfl, fun e he => ?_, fun _ => rfl⟩
    exact absurd he (by simp)
  rw [← hG]
  show wpAny (model prog w) A.in1 (storeInDict s.heap.objs.size (.str name tk) name v) _ _ { s with heap := G }
  obtain ⟨hp0, g, d, tt, os⟩ := s
  refine store_in_new gd fun h' tk' hn hs => ?_
  refine h _ h' tk' (fun b o hb e => ?_) (Nat.le_refl _) hne ((hs.2 x hne.symm).trans gx) hn
  have hbs : b ≠ hp0.objs.size := Nat.ne_of_lt (Heap.lt_size e)
  exact (hs.2 b hbs).trans ((go b hb).trans (Heap.get?_push_of_some _ e))
end
/-- what the text says of an error's class: C, over the built-in B, with the field f and its own __init__ at fI -/
structure ErrC (K : PySem.W.Frag) (C fI : Addr) (f : Str) (B newId initId : String) (bmB : List Value) : Prop where
  F : ExcBaseFacts B newId initId bmB
  SF : StoreFacts B bmB "object.__setattr__" "object"
  ini : PySem.W.excInitIn K C bmB newId = true
  ov : PySem.W.excOver K C bmB = true
  hd : PySem.W.hasDictIn K C = true
  sa : PySem.W.findIn K (.ref C) "__setattr__" = some (some (.builtin "object.__setattr__"))
  exC : PySem.W.subIn K (.ref C) (.type "BaseException") = some true
  tyC : PySem.W.typeIn K (.ref C) = some (.type "type")
  kC : PySem.W.keepIn K (.ref C) = true
  tk : PySem.W.takerIn K C f = some none
  no : PySem.W.findIn K (.ref C) f = some none
  iC : PySem.W.findIn K (.ref C) "__init__" = some (some (.ref fI))
  tI : PySem.W.typeIn K (.ref fI) = some (.type "function")
  ga : PySem.W.findIn K (.ref C) "__getattribute__" = some (some (.builtin "BaseException.__getattribute__"))
  gg : PySem.W.findIn K (.ref C) "__getattr__" = some none
  ha : PySem.W.findIn K (.ref C) "__class__" = some (some (.builtin "object.__class__"))
  mr : PySem.W.mroIn K C (.type "object") = some true
section
variable {X : Cx} {pins : List (Addr × Obj)} {σ : L2.St} {H : Hp} {s : Shared} {a C fI dx : Addr} {f : Str} {y : V} {u : Value} {B newId initId : String} {bmB : List Value} {A : Around} {E : Value → Shared → Prop}
theorem ErrC.xf {K : PySem.W.Frag} (T : ErrC K C fI f B newId initId bmB) : XfC K C := ⟨T.ga, T.gg, T.exC, T.hd⟩
/-- self.f = y, the first one -/
theorem ostE {Q : Unit → Shared → Prop} (T : ErrC X.K C fI f B newId initId bmB) (I : Inv X pins σ H s) (e : H a = some (exo a C none)) (ry : RelV y u)
    (h : ∀ dx s', H dx = none → dx ≠ a → Inv X pins σ (upd (upd H dx (exd dx [(f, y)])) a (exo a C (some dx))) s' → Q () s') : wpAny (model X.prog X.w) A (setAttr (.ref a) f u) Q E s := by
  obtain ⟨t1, ho⟩ := exo_at I.hok e
  refine PySem.W.set_plain I.kIn (od := none) ⟨ho, rfl, rfl, trivial⟩ T.sa ?_
  refine osa_one (s := { s with toks := s.toks + 1 }) T.SF I.kIn ho T.ov T.tk T.hd fun d2 G tk2 keep lo ne gx gn => ?_
  have free2 : H d2 = none := I.hok.fresh lo
  have lt2 : ∀ {b : Addr} {o : Obj}, s.heap.get? b = some o → b ≠ d2 := fun z => Nat.ne_of_lt (Nat.lt_of_lt_of_le (Heap.lt_size z) lo)
  have nA : ∀ {b : Addr}, H b = none → b ≠ a := fun z w => by
    rw [w, e] at z
    cases z
  have un : Un X.fs [] H (upd (upd H d2 (exd d2 [(f, y)])) a (exo a C (some d2))) s.heap G := by
    constructor
    · exact fun b o q n _ _ => keep b o (nA n) q
    · exact fun b o q n _ _ => ⟨o.slots, keep b o (nA n) q⟩
    · intro b o q n _
      rw [upd_ne (nA n), upd_ne (lt2 q)]
      exact n
    · intro b o q _
      by_cases w : b = a
      · subst w
        exact ⟨_, gx⟩
      · exact ⟨o, keep b o w q⟩
    · intro b xs q
      rw [upd_ne (at_ne e q exo_tup), upd_ne (ne_of_none q free2)]
      exact q
    · intro b o v q
      rw [upd_ne (at_ne e q exo_frz), upd_ne (ne_of_none q free2)]
      exact q
    · intro b ps q
      refine ⟨#[], ?_⟩
      rw [upd_ne (at_ne e q exo_tbl), upd_ne (ne_of_none q free2), q]
      simp
  refine h d2 _ free2 ne (I.un (t' := tk2) un fun b o q => ?_)
  by_cases w : b = a
  · subst w
    rw [upd_same] at q
    cases q
    exact exo_ok gx
  rw [upd_ne w] at q
  by_cases w2 : b = d2
  · subst w2
    rw [upd_same] at q
    cases q
    exact exd_ok gn (relO_put (fs := []) ry fun g => True.intro)
  rw [upd_ne w2] at q
  refine (I.hok b o q).stay (fun c v hc z => keep c v ?_ z) (fun c hc => ?_) (fun c xs hc => ?_)
  · rcases hc with hc | hc
    · rw [hc]
      exact w
    · exact at_ne e hc exo_own
  · rw [upd_ne (at_ne e hc exo_own), upd_ne (ne_of_none hc free2)]
    exact hc
  · rw [upd_ne (at_ne e hc exo_tup), upd_ne (ne_of_none hc free2)]
    exact hc
/-- the built-in's __init__: nothing of it is told -/
theorem oinitE {us : List Value} {Q : Value → Shared → Prop} (T : ErrC X.K C fI f B newId initId bmB) (I : Inv X pins σ H s) (e : H a = some (exo a C none)) (hl : us.length ≤ sizeLine) (h : ∀ s', Inv X pins σ H s' → Q .none s') :
    wpAny (model X.prog X.w) A (call (.builtin initId) (.ref a :: us)) Q E s := by
  obtain ⟨t1, ho⟩ := exo_at I.hok e
  obtain ⟨nm, N, qn, bs, bm, hdct, sn, sub, ab, col, dd, k0, k1, k2, k3, k5, hC, hT⟩ := PySem.W.excInit_of I.kIn T.ini
  obtain ⟨hp, g, d, t, os⟩ := s
  refine wpAny_call (PySem.HandSPX.init_base T.F hT hC ho hl fun G t2 k gx => ?_)
  have J := I.write (t' := t) (x := a) (e := a) (o := exo a C none) (by rw [e]; exact True.intro) (.inl rfl) k ⟨_, gx⟩ (exo_ok gx)
  rw [show upd H a (exo a C none) = H from funext fun b => by
    by_cases w : b = a
    · rw [w, upd_same, e]
    · rw [upd_ne w]] at J
  exact h _ J
end
/-- W.__init__(self, ..), W one's own class or a built-in one -/
def tInitE (K : PySem.W.Frag) (C : Addr) (ta : TA) : TE := fun σ H Q => ta σ H fun vs H1 => ∃ (a : Addr) (ws : List V), vs = .ref a :: ws ∧ ws.length ≤ 1000 ∧ H1 a = some (exo a C none) ∧ Q .non H1
/-- self.f = e -/
def tOstE (K : PySem.W.Frag) (C : Addr) (f : Str) (to te : TE) : TS := fun D σ H => te σ H fun y H1 => to σ H1 fun x H2 => ∃ a : Addr, x = .ref a ∧ H2 a = some (exo a C none) ∧ ∀ dx, H2 dx = none → dx ≠ a → D.nx σ (upd (upd H2 dx (exd dx [(f, y)])) a (exo a C (some dx)))
section
variable {X : Cx} {o e : Expr} {es : List Expr} {to te : TE} {ta : TA} {f : Str} {p p' p1 p2 pos : Pos} {C fI W : Addr} {B newId initId : String} {bmB : List Value} {mc : Value} {wn : Str}
theorem call_initE {pl : Sem Bool} (T : ErrC X.K C fI f B newId initId bmB) (ha : PA X (e :: es) ta) {pins : List (Addr × Obj)} {s : Shared} {σ : L2.St} {H : Hp} {Q : VK} (I : Inv X pins σ H s) (h : tInitE X.K C ta σ H Q)
    (he : starEach (e :: es) X.env = (false, eval e X.env) :: starEach es X.env := by rfl) (hpl : (backTo pos (starEach es X.env)).any (·.1) = false := by rfl) :
    wpAny (model X.prog X.w) X.A (callWith pos (Value.builtin initId) [] (backTo pos (starEach (e :: es) X.env)) []) (EP X pins σ Q) X.xe s := by
  refine PyProof.Rows.callWith_method1 (thn (ha.run pos pins s σ H _ I h) fun us s1 ⟨vs, H1, I1, r1, a, ws, ev, hl, ea, q⟩ => ?_) he hpl
  subst ev
  cases r1 with
  | @cons _ u0 _ ur ra rw' =>
    obtain rfl : u0 = Value.ref a := ra
    have hlen : ur.length ≤ sizeLine := by
      rw [← Paired.length rw', sizeLine_eq]
      omega
    exact oinitE T I1 ea hlen fun s' J => ⟨.non, H1, J, rfl, q⟩
/-- a class of one's own: its name holds W, whose __init__ is the built-in's -/
theorem pe_initW {pl : Sem Bool} (T : ErrC X.K C fI f B newId initId bmB) (hg : Gl X wn) (hm : X.mg wn = some (.ref W)) (r : ClX.CRead X.K W mc) (at_ : PySem.W.findCls X.K (.ref W) mc "__init__" = some (.val (.builtin initId))) (hh : PySem.W.handedIn (.builtin initId) = true) (ha : PA X (e :: es) ta)
    (hc : eval (.Call (.Attribute (.Name wn p1) "__init__" p2) (e :: es) [] pos) X.env = (do
      let ov ← eval (.Name wn p1) X.env
      standAt p2.atName
      let (f, first) ← holding [ov] (getMethod ov "__init__" pl)
      callWith pos f first (backTo pos (starEach (e :: es) X.env)) (backToKw pos (keywordEach [] X.env))) := by rfl)
    (hdb : (wn == ("__debug__" : Str)) = false := by decide)
    (he : starEach (e :: es) X.env = (false, eval e X.env) :: starEach es X.env := by rfl) (hpl : (backTo pos (starEach es X.env)).any (·.1) = false := by rfl) :
    PE X (.Call (.Attribute (.Name wn p1) "__init__" p2) (e :: es) [] pos) (tInitE X.K C ta) := by
  refine ⟨fun pins s σ H Q I h => ?_⟩
  refine PySem.W.methodCall_KW (ld_glob I hg hm ?_ hdb) hc
  refine PySem.W.method_cls I.kIn r.ga ?_
  refine PySem.W.cls_value I.kIn r.rd at_ hh ?_
  show wpAny _ _ (callWith pos (Value.builtin initId) [] (backTo pos (starEach (e :: es) X.env)) []) _ _ _
  exact call_initE (pl := pl) T ha (I.tok _) h he hpl
end
end Wn
namespace Wn
open PySem PySem.Spec PyProof.Rows L2
/-! C(e): the error made by its own __init__, which keeps sp -/
section
variable {X : Cx} {e : Expr} {es : List Expr} {ta : TA} {f : Str} {p pos : Pos} {C fI : Addr} {B newId initId : String} {bmB : List Value}
theorem pmkE {CX : CXT} {x : Str} {k : Nat} {fd : FuncData} {ps : List Str} {sp : Sp} (T : ErrC X.K C fI f B newId initId bmB) (F1 : FnOk X.prog X.w X.K X.mg X.base CX k fI fd ps sp) (hr : Room (k + 1) X.A) (hb : Binds X.K fd ps []) (hx : Passes CX X (fun _ _ _ => False))
    (hg : Gl X x) (hm : X.mg x = some (.ref C)) (ha : PA X (e :: es) ta)
    (hdb : (x == ("__debug__" : Str)) = false := by decide) (he : starEach (e :: es) X.env = (false, eval e X.env) :: starEach es X.env := by rfl) (hpl : (backTo pos (starEach es X.env)).any (·.1) = false := by rfl) :
    PMk X (.Call (.Name x p) (e :: es) [] pos) (tMkO C sp [] ta) := by
  intro pins s σ H Q I h
  refine wpAny_Call_Name_kw (ld_glob I hg hm ?_ hdb)
  refine PySem.W.callWith_K (h₀ := X.base) I.ok.mod.kin T.kC (thn (ha.run pos pins s σ H _ I h) fun us s1 hh => ?_) he hpl
  obtain ⟨vs, H1, I1, r1, hz, q1⟩ := hh
  refine ⟨I1.kIn, ?_⟩
  show wpAny _ _ (call (.ref C) us) _ _ _
  obtain ⟨nm, N, qn, bs, bm, hdct, sn, sub, ab, col, dd, k0, k1, k2, k3, k5, hC, hT⟩ := PySem.W.excInit_of I1.kIn T.ini
  obtain ⟨h0, g, dr, tk, os⟩ := s1
  obtain ⟨a, haa⟩ : ∃ a, a = h0.objs.size + 1 := ⟨_, rfl⟩
  have lo : h0.objs.size ≤ a := by rw [haa]; exact Nat.le_succ _
  have fresh : H1 a = none := I1.hok.fresh lo
  obtain ⟨G, hG⟩ : ∃ G, G = (h0.push (PySem.W.kdv_tup us)).push (PySem.HandSPX.excO C h0.objs.size) := ⟨_, rfl⟩
  have keep : ∀ b o, h0.get? b = some o → G.get? b = some o := fun b o z => by
    rw [hG]
    exact Heap.get?_push_of_some _ (Heap.get?_push_of_some _ z)
  have gA : G.get? a = some (PySem.HandSPX.excO C h0.objs.size) := by
    rw [hG, haa]
    heap_get
  have I2 : Inv X pins σ (upd H1 a (exo a C none)) ⟨G, g, dr, tk, os⟩ := I1.laid (t' := tk) (a := a) (o := exo a C none) (h' := G) keep lo (exo_ok gA)
  have want := q1 a fresh
  have r2 : Vals (V.ref a :: (vs ++ [])) (Value.ref a :: us) := .cons rfl (by rw [List.append_nil]; exact r1)
  have cnt : (Value.ref a :: us ++ []).length = ps.length := by
    rw [← F1.len _ _ _ _ want, List.append_nil]
    exact r2.length.symm
  have b2 := hb ⟨G, g, dr, tk, os⟩ (Value.ref a :: us) I2.kIn cnt
  rw [List.append_nil] at b2
  have few : us.length ≤ sizeLine := by
    rw [← Paired.length r1, sizeLine_eq]
    omega
  refine wpAny_call (PySem.HandSPX.call_own T.F hT hC (PySem.W.looks_findIn I1.kIn T.iC) (fun self => PySem.W.bind_fn I1.kIn self T.tI) few ?_)
  rw [← hG, ← haa]
  refine codeAny_mono (F1.run _ X.stack _ _ ⟨Value.ref a :: us, []⟩ (Value.ref a :: us) _ _ (fun _ _ _ => False) (hr.make C us []) (I2.env0.make C us []) b2 r2 want) fun r s' back => ?_
  match r, back with
  | .error er, back => exact hx pins σ _ _ er s' I2 back
  | .ok .next, back => exact back.elim
  | .ok .brk, back => exact back.elim
  | .ok .cont, back => exact back.elim
  | .ok (.ret u), back =>
    obtain ⟨v, H2, os2, bare2, un2, hok2, rv, ev, d, fs, ea, ed, hd1, q2⟩ := back
    subst ev
    obtain ⟨h2, g2, d2, t2, os'⟩ := s'
    exact ⟨rv, mk_end (raises_own T.exC T.tyC) I1 lo keep un2 hok2 os2 bare2 ea ed hd1 q2⟩
end
/-! an error kept as a value: its class, its own dict -/
def ExV (cls : Value) (d : Option Addr) (a : Addr) : HO := .ext fun h => ∃ (oe : Obj) (vs : Array Value), h.get? a = some oe ∧ Zc cls d oe ∧ oe.data = .fields vs
theorem exV_ok {P : Program} {w : World} {H : Hp} {h : Heap} {a : Addr} {cls : Value} {d : Option Addr} {oe : Obj} {vs : Array Value} (e : h.get? a = some oe) (z : Zc cls d oe) (hd : oe.data = .fields vs) : ObjOk P w H h a (ExV cls d a) :=
  ⟨⟨oe, vs, e, z, hd⟩, ⟨oe, e⟩, fun _ _ ⟨o, v, q, r⟩ k => ⟨o, v, k o q, r⟩⟩
theorem exV_at {P : Program} {w : World} {H : Hp} {h : Heap} {a : Addr} {cls : Value} {d : Option Addr} (hok : HOk P w H h) (e : H a = some (ExV cls d a)) : ∃ (oe : Obj) (vs : Array Value), h.get? a = some oe ∧ Zc cls d oe ∧ oe.data = .fields vs := by
  have x : ObjOk P w H h a (.ext fun h => ∃ (oe : Obj) (vs : Array Value), h.get? a = some oe ∧ Zc cls d oe ∧ oe.data = .fields vs) := hok a _ e
  exact x.1
section
variable {X : Cx} {pins : List (Addr × Obj)} {σ σ0 : L2.St} {H H0 : Hp} {s s0 : Shared} {a : Addr} {o : HO}
/-- what stands there, and was not there before, is tracked from now on -/
theorem track (I : Inv X pins σ H s) (I0 : Inv X pins σ0 H0 s0) (n0 : s0.heap.get? a = none) (hn : H a = none) (new : ObjOk X.prog X.w (upd H a o) s.heap a o) : Inv X pins σ (upd H a o) s := by
  have nb : ∀ {b : Addr} {u : Obj}, s0.heap.get? b = some u → b ≠ a := fun z w => by
    rw [w, n0] at z
    cases z
  have nt : ∀ {b : Addr} {u : HO}, H b = some u → b ≠ a := fun z => ne_of_none z hn
  refine ⟨I.ok, I.os, I.bare, ⟨I.base.keep, I.base.slot, fun b u z n hx => ?_, I.base.there, fun b xs z => ?_, fun b u v z => ?_, fun b ps z => ?_⟩, I.loc, I.cell, ?_, fun x c z => ?_, fun p hp => ?_, fun b u z => ?_, I.len⟩
  · obtain ⟨u', z'⟩ := I0.base.there b u z hx
    rw [upd_ne (nb z')]
    exact I.base.free b u z n hx
  · have := I.base.tups b xs z
    rw [upd_ne (nt this)]
    exact this
  · have := I.base.frzs b u v z
    rw [upd_ne (nt this)]
    exact this
  · obtain ⟨more, this⟩ := I.base.tbls b ps z
    exact ⟨more, by rw [upd_ne (nt this)]; exact this⟩
  · obtain ⟨m, hm, _⟩ := I0.loc
    obtain ⟨ob, _, _, e, _⟩ := hm
    rw [upd_ne (nb e)]
    exact I.free
  · obtain ⟨v, ob, e, _⟩ := I0.cell x c z
    rw [upd_ne (nb e)]
    exact I.freeC x c z
  · obtain ⟨h1, h2, h3⟩ := I.pin p hp
    exact ⟨h1, by rw [upd_ne (nb (I0.pin p hp).1)]; exact h2, h3⟩
  · by_cases w : b = a
    · subst w
      rw [upd_same] at z
      cases z
      exact new
    · rw [upd_ne w] at z
      exact (I.hok b u z).stay (fun c v hc q => q) (fun c hc => by rw [upd_ne (nt hc)]; exact hc) fun c xs hc => by rw [upd_ne (nt hc)]; exact hc
end
/-- C(e) as a value -/
def tVal (t : L2.St → Hp → XK → Prop) : TE := fun σ H Q => t σ H fun cls d H' => ∀ a, H' a = none → Q (.ref a) (upd H' a (ExV cls d a))
theorem pe_mkV {X : Cx} {e : Expr} {t : L2.St → Hp → XK → Prop} (he : PMk X e t) : PE X e (tVal t) := by
  refine ⟨fun pins s σ H Q I h => thn (he pins s σ H _ I h) fun u s1 hh => ?_⟩
  obtain ⟨a, oe, vs, sI, H', cls, d, eu, J, keep, n0, ha, hz, hd, h1, na, os, ag, r, q⟩ := hh
  have J1 := J.landed (B := sI.heap) (fun _ _ z _ => z) keep (Heap.UpToSlots.of_keeps keep) os ag
  subst eu
  exact ⟨.ref a, _, track J1 J n0 na (exV_ok ha hz hd), rfl, q a na⟩
/-! its field, its class -/
def tFldE (K : PySem.W.Frag) (f : Str) (te : TE) : TE := fun σ H Q => te σ H fun x H1 => ∃ (a C d : Addr) (fs : List (Str × V)) (v : V), x = .ref a ∧ XfC K C ∧ PySem.W.findIn K (.ref C) f = some none ∧ H1 a = some (ExV (.ref C) (some d) a) ∧ H1 d = some (.xd fs) ∧ fs.lookup f = some v ∧ Q v H1
theorem pe_fldE {X : Cx} {e : Expr} {te : TE} {pos : Pos} {n : Str} (he : PE X e te) (hb : attributeBase e n X.env (eval e X.env) = eval e X.env := by rfl) : PE X (.Attribute e n pos) (tFldE X.K n te) := by
  refine ⟨fun pins s σ H Q I h => attr_of hb (thn (he.run pins s σ H _ I h) fun u s1 hh => ?_)⟩
  obtain ⟨x, H1, I1, rx, a, C, d, fs, v, ex, T, hno, ea, ed, l, q⟩ := hh
  subst ex
  obtain rfl : u = Value.ref a := rx
  obtain ⟨oe, vs, ha, hz, hd⟩ := exV_at I1.hok ea
  have hx : ObjOk X.prog X.w H1 s1.heap d (.xd fs) := I1.hok d _ ed
  obtain ⟨mA, hns, hr⟩ := hx
  obtain ⟨od, ho, hl⟩ := lookIn_ns hns
  obtain ⟨u, hu, ru⟩ := RelO.some_of (v := v) (o := mA n) (by rw [← l]; exact hr n)
  have J : PySem.W.InstAt s1.heap a oe C (some od) := by
    refine ⟨ha, hz.1, ?_, ?_⟩
    · unfold PySem.W.notCls
      rw [hd]
    · rw [hz.2]
      exact ho
  exact PySem.HandSPX.exc_get I1.kIn J T.ga T.gg T.exC (PySem.W.findObj_own T.hdC hno rfl (by rw [hl, hu])) (handed_of ru) ⟨v, H1, I1.tok _, ru, q⟩
end Wn
/-! errors caught and kept; isinstance of such -/
namespace Wn
open PySem PySem.Spec PyProof.Rows L2
/-- what isinstance asks of the class C of an error -/
structure IsC (K : PySem.W.Frag) (C : Addr) : Prop where
  cl : (PySem.W.clsIn K C).isSome = true
  ga : PySem.W.findIn K (.ref C) "__getattribute__" = some (some (.builtin "BaseException.__getattribute__"))
  gg : PySem.W.findIn K (.ref C) "__getattr__" = some none
  exC : PySem.W.subIn K (.ref C) (.type "BaseException") = some true
  ha : PySem.W.findIn K (.ref C) "__class__" = some (some (.builtin "object.__class__"))
  hn : PySem.W.specialIn K (.builtin "object.__class__") "__get__" = some (some (.builtin "getset_descriptor.__get__"))
  ht : PySem.W.takesIn K (.builtin "object.__class__") = some true
  mr : PySem.W.mroIn K C (.type "object") = some true
def rIsV (K : PySem.W.Frag) : List V → Hp → VK → Prop := fun xs H Q => ∃ (a C d : Addr) (fs : List (Str × V)) (c : V) (cv : Value) (b : Bool), xs = [.ref a, c] ∧ IsC K C ∧ H a = some (ExV (.ref C) (some d) a) ∧ H d = some (.xd fs) ∧ (∀ u, RelV c u → u = cv) ∧ PySem.W.kitOne K (.ref C) cv = some b ∧ Q (.bl b) H
theorem call_isV {X : Cx} : CallR X (.builtin "isinstance") (rIsV X.K) := by
  intro pins s σ H xs us Q I r h
  obtain ⟨a, C, d, fs, c, cv, b, rfl, T, ea, ed, hcv, e, q⟩ := h
  obtain ⟨oe, vs, ha, hz, hd⟩ := exV_at I.hok ea
  have hx : ObjOk X.prog X.w H s.heap d (.xd fs) := I.hok d _ ed
  obtain ⟨mA, hns, hr⟩ := hx
  obtain ⟨od, ho, hl⟩ := lookIn_ns hns
  have J : PySem.W.InstAt s.heap a oe C (some od) := by
    refine ⟨ha, hz.1, ?_, ?_⟩
    · unfold PySem.W.notCls
      rw [hd]
    · rw [hz.2]
      exact ho
  cases r with
  | cons rx rr =>
    cases rr with
    | cons rt rr =>
      cases rr
      cases rx
      have ec := hcv _ rt
      subst ec
      exact PySem.W.kia_one (PySem.W.kitx_exc T.cl T.ga T.gg T.exC T.ha T.hn T.ht T.mr) I.kIn J e (fun z => nomatch z) fun tk => ⟨.bl b, H, I.kept (t' := tk) fun _ _ z => z, rfl, q⟩
/-! try: body, except (A, B, C) as n: m = n; what was caught is kept in m -/
/-- what the three names of a tuple of classes hold -/
structure Names3 (X : Cx) (x1 x2 x3 : Str) (c1 c2 c3 : Addr) : Prop where
  n1 : Gl X x1 ∧ (x1 == ("__debug__" : Str)) = false ∧ X.mg x1 = some (.ref c1)
  n2 : Gl X x2 ∧ (x2 == ("__debug__" : Str)) = false ∧ X.mg x2 = some (.ref c2)
  n3 : Gl X x3 ∧ (x3 == ("__debug__" : Str)) = false ∧ X.mg x3 = some (.ref c3)
def wKeep (K : PySem.W.Frag) (cs : List Value) (i j : Nat) (D : Ends) : WX := fun cls d σ H =>
  PySem.W.exmAny K cls cs = some true ∧ ∀ a, H a = none → D.nx ((σ.set j (some (.ref a))).set i none) (upd H a (ExV cls d a))
theorem flying_keep {B h h' : Heap} {l : List Env} {a : Addr} {Z : Obj → Prop} (k : ∀ b o, h.get? b = some o → h'.get? b = some o) (f : PySem.HandSPX.FlyingZ B l a Z h) : PySem.HandSPX.FlyingZ B l a Z h' := by
  obtain ⟨f1, f2, f3, oe, vs, T, oT, ts, e1, e2, e3, e4, e5, e6, e7, e8, e9⟩ := f
  exact ⟨fun b o z => k b o (f1 b o z), f2, Heap.FunFrames.of_keeps (fun b o z _ => ⟨o, k b o z, rfl⟩) f3, oe, vs, T, oT, ts, k _ _ e1, e2, e3, e4, e5, e6, k _ _ e7, e8, e9⟩
section
variable {X : Cx} {x1 x2 x3 n m : Str} {c1 c2 c3 : Addr} {i j : Nat} {body : List Stmt} {q1 q2 q3 qt qm qn pa pos pos' : Pos} {kt : Nat} {tb : WX → TS}
theorem ps_try_keep (hs : X.stack = X.env :: X.outer) (hf : X.env.frame = some X.env.locals) (hN : X.N.Nodup) (hi : X.N[i]? = some n) (hj : X.N[j]? = some m) (hij : i ≠ j) (hln : X.env.kindOf n = some .local) (hlm : X.env.kindOf m = some .local) (hc : Names3 X x1 x2 x3 c1 c2 c3)
    (hb : ∀ (W : WX) (pn : List (Addr × Obj)) (xe : Value → Shared → Prop), Takes (X.tr pn xe) W → PassesOwn (model X.prog X.w) X.A X.env xe → PSs (X.tr pn xe) body (tb W))
    (hsw : swapsWith (.Name n qn) (some (.Name m qm)) pa.line X.env = pure false := by rfl) (hdn : (n == ("__debug__" : Str)) = false := by decide) (hcn : (n == ("__classdict__" : Str)) = false := by decide) :
    PS X (.Try body [.ExceptHandler (some (.Tuple [.Name x1 q1, .Name x2 q2, .Name x3 q3] kt qt)) (some n) [.Assign [.Name m qm] (.Name n qn) pa] pos'] [] [] pos) (fun D σ H => tb (wKeep X.K [.ref c1, .ref c2, .ref c3] i j D) D σ H) := by
  refine ⟨fun pins s σ H D I h => ?_⟩
  have ok := I.ok
  have hfr : X.A.frames = some (X.env :: X.outer) := by rw [ok.frames, hs]
  have hloc : Loc X.env.scope n := .inl hln
  have hlocm : Loc X.env.scope m := .inl hlm
  refine wpAny_Try_except ?_
  refine wpAny_mono ((hb (wKeep X.K [.ref c1, .ref c2, .ref c3] i j D) (X.pn ++ pins) (fun e s₁ => wpAny (model X.prog X.w) X.A (noteFrame e X.env) (fun _ s₂ => wpAny (model X.prog X.w) X.A (setFlight e none) (fun _ s₃ =>
    wpAny (model X.prog X.w) X.A (handleBy e X.env [.ExceptHandler (some (.Tuple [.Name x1 q1, .Name x2 q2, .Name x3 q3] kt qt)) (some n) [.Assign [.Name m qm] (.Name n qn) pa] pos']) (SP X pins D) X.xe s₃) X.xe s₂) X.xe s₁) (fun u s' xx => ?_) PassesOwn.looking).run [] s σ H D (I.toTry _) h) (fun f s1 hsp => ?_) (fun e s1 he => he)
  · obtain ⟨a, B, sI, pins', σ', H', cls, d, rfl, J', nb, up, sky, na, os, ag, hb1, hyes⟩ := xx
    have J : Inv X pins σ' H' sI := J'.ofTry ok
    have sky2 : Sky B (X.env :: X.outer) a (Zc cls d) X.env.locals s'.heap := by
      rw [← hs]
      exact sky
    show wpAny (model X.prog X.w) X.A (noteFrame (.ref a) X.env) _ _ _
    refine Sky.land Zc.steady hfr hf sky2 fun h3 fl3 up3 => ?_
    have J3 : Inv X pins σ' H' { s' with heap := h3 } := J.landed nb fl3.1 (up.trans up3) os ag
    obtain ⟨oe3, vs3, he3, hz3, hd3⟩ := fl3.there
    have nfr : a ∉ frs (X.env :: X.outer) := fun hm => by
      obtain ⟨_, o', e', hnf⟩ := fl3.2.2.1.mem hm
      rw [he3] at e'
      cases e'
      exact hnf _ hd3
    have nL : a ≠ X.env.locals := fun z => nfr (List.mem_filterMap.mpr ⟨X.env, List.mem_cons_self, by rw [hf, z]⟩)
    have nF : a ∉ X.fs := fun hm => by
      obtain ⟨e, he, q⟩ := List.mem_filterMap.mp hm
      exact nfr (List.mem_filterMap.mpr ⟨e, List.mem_cons_of_mem _ he, q⟩)
    have n0 : sI.heap.get? a = none := by
      cases z : sI.heap.get? a with
      | none => rfl
      | some o =>
        have := nb a o z (by rw [hs]; exact nfr)
        rw [fl3.2.1] at this
        cases this
    have S3 := J3.suite he3 hd3 na nL nF
    refine wpAny_handleBy_cons (codeAny_handlers_test ?_) (by intro q; cases q)
    have LT : PySem.W.Looks (model X.prog X.w) h3 (typeOf (.ref a)) cls := fun A Q E s k q => wpAny_typeOf_ref (k _ _ he3) (by rw [hz3.1]; exact q)
    refine wpAny_Tuple ?_
    refine wpAny_items_cons (ld_glob (X := X.suite a ((a, oe3) :: (X.pn ++ pins))) S3 hc.n1.1 hc.n1.2.2 ?_ hc.n1.2.1)
    refine wpAny_items_cons (ld_glob (X := X.suite a ((a, oe3) :: (X.pn ++ pins))) S3 hc.n2.1 hc.n2.2.2 ?_ hc.n2.2.1)
    refine wpAny_items_cons (ld_glob (X := X.suite a ((a, oe3) :: (X.pn ++ pins))) S3 hc.n3.1 hc.n3.2.2 ?_ hc.n3.2.1)
    refine wpAny_items_nil ⟨by size_fits, ?_⟩
    obtain ⟨G, hG⟩ : ∃ G, G = h3.push { cls := .type "tuple", data := .seq [.ref c1, .ref c2, .ref c3].toArray } := ⟨_, rfl⟩
    have kp : ∀ b o, h3.get? b = some o → G.get? b = some o := fun _ _ z => by
      rw [hG]
      exact Heap.get?_push_of_some _ z
    have gt : G.get? h3.objs.size = some { cls := .type "tuple", data := .seq [.ref c1, .ref c2, .ref c3].toArray } := by
      rw [hG]
      exact Heap.get?_push_size h3 rfl
    rw [← hG]
    refine (PySem.W.exm_tup3 (M := model X.prog X.w) (J3.kIn.keeps kp) (LT.keeps kp) gt hb1).here ?_
    have fl4 := flying_keep kp fl3
    have upG : h3.UpToSlots G := Heap.UpToSlots.of_keeps kp
    refine codeAny_handlers_suite_as ?_
    refine PySem.HandSPX.lands_againZ fl4 fun h4 fl5 up4 => ?_
    have J4 : Inv X pins σ' H' { s' with heap := h4 } := J.landed nb fl5.1 (((up.trans up3).trans upG).trans up4) os ag
    obtain ⟨oe4, vs4, he4, hz4, hd4⟩ := fl5.there
    have S4 := J4.suite he4 hd4 na nL nF
    refine store_ok (X := X.suite a ((a, oe4) :: (X.pn ++ pins))) (v := .ref a) S4 hN hi hloc rfl (fun s5 S5 => ?_) (.inr hln)
    have hp : PSs (X.suite a ((a, oe4) :: (X.pn ++ pins))) [.Assign [.Name m qm] (.Name n qn) pa] (tSeq (tAsg (tVar i) (gName j)) tNext) :=
      pss_cons (ps_set (X := X.suite a ((a, oe4) :: (X.pn ++ pins))) hN hj hlocm (pe_var (X := X.suite a ((a, oe4) :: (X.pn ++ pins))) hi (.inl hln) hdn hcn) hsw (.inr hlm)) pss_nil
    have hlen : i < σ'.length := by
      rw [J4.len]
      exact (List.getElem?_eq_some_iff.mp hi).1
    refine wpAny_mono (hp.run [] s5 _ H' { nx := fun σ6 H6 => H6 = H' ∧ σ6 = (σ'.set i (some (.ref a))).set j (some (.ref a)), rt := fun _ _ => False } S5 ⟨_, List.getElem?_set_self hlen, rfl, rfl⟩) (fun f s6 hsp => ?_) (fun _ _ z => False.elim z)
    cases f with
    | next =>
      obtain ⟨σ6, H6, S6, rfl, rfl⟩ := hsp
      have gA := (S6.pin (a, oe4) (List.mem_append_left _ List.mem_cons_self)).1
      have J6 := track (S6.unsuite ok) J n0 na (exV_ok (cls := cls) (d := d) gA hz4 hd4)
      refine gone_ok J6 hN hi hln fun s7 J7 => ⟨_, _, J7, ?_⟩
      have e1 : (((σ'.set i (some (V.ref a))).set j (some (V.ref a))).set i none) = ((σ'.set j (some (V.ref a))).set i none) := by
        rw [List.set_comm _ _ hij, List.set_set]
      rw [e1]
      exact hyes a na
    | brk =>
      obtain ⟨_, _, _, z⟩ := hsp
      exact False.elim z
    | cont =>
      obtain ⟨_, _, _, z⟩ := hsp
      exact False.elim z
    | ret u =>
      obtain ⟨_, _, _, _, _, z⟩ := hsp
      exact False.elim z
  · cases f with
    | next =>
      obtain ⟨σ', H', J', q⟩ := hsp
      exact wpAny_execs_nil ⟨σ', H', J'.ofTry ok, q⟩
    | brk =>
      obtain ⟨σ', H', J', q⟩ := hsp
      exact ⟨σ', H', J'.ofTry ok, q⟩
    | cont =>
      obtain ⟨σ', H', J', q⟩ := hsp
      exact ⟨σ', H', J'.ofTry ok, q⟩
    | ret u =>
      obtain ⟨v, σ', H', J', r, q⟩ := hsp
      exact ⟨v, σ', H', J'.ofTry ok, r, q⟩
end
end Wn
/-! a lambda handed to a def that calls it, without a parameter or with one that has a written default -/
namespace Wn
open PySem PySem.Spec PyProof.Rows L2 LamX
def clos (X : Cx) (scope : Scope) : List (Str × Addr) := cloFrom X.env.cells scope.names []
abbrev lamO (X : Cx) (params : Arguments) (body : Expr) (scope : Scope) (dV doc pm : Value) (c' : Addr) (ctv : Value) : Obj :=
  PySem.W.kdv_obj "<lambda>" (X.env.qual ++ "<lambda>") params (.expr body) scope (clos X scope) dV doc pm c' ctv
/-- the lambda's names: no cell of its own; its own parameter is no name of the def around -/
structure LamD (N : List Str) (sc scope : Scope) : Prop where
  kind : scope.kind = .function
  co : scope.isCoroutine = false
  gen : scope.isGenerator = false
  own : ∀ y ∈ scope.names, y.2 ≠ .cell ∧ (y.2 = .local → y.1 ∉ N)
  free : ∀ y ∈ scope.names, y.2 = .free → sc.names.lookup y.1 = some .cell ∨ sc.names.lookup y.1 = some .free
def lamDB (N : List Str) (sc scope : Scope) : Bool :=
  decide (scope.kind = .function) && !scope.isCoroutine && !scope.isGenerator && scope.names.all fun y => !decide (y.2 = .cell) && (!decide (y.2 = .local) || !decide (y.1 ∈ N)) && (!decide (y.2 = .free) || decide (sc.names.lookup y.1 = some .cell) || decide (sc.names.lookup y.1 = some .free))
theorem lamD_by {N : List Str} {sc scope : Scope} (h : lamDB N sc scope = true) : LamD N sc scope := by
  unfold lamDB at h
  simp only [Bool.and_eq_true, Bool.or_eq_true, Bool.not_eq_true', decide_eq_true_eq, decide_eq_false_iff_not, List.all_eq_true] at h
  obtain ⟨⟨⟨h1, h2⟩, h3⟩, h4⟩ := h
  refine ⟨h1, h2, h3, fun y hy => ⟨(h4 y hy).1.1, fun e => ?_⟩, fun y hy e => ?_⟩
  · rcases (h4 y hy).1.2 with z | z
    · exact absurd e z
    · exact z
  · rcases (h4 y hy).2 with (z | z) | z
    · exact absurd e z
    · exact .inl z
    · exact .inr z
theorem LamD.has {X : Cx} {scope : Scope} (L : LamD X.N X.env.scope scope) (ok : X.Ok) : ∀ y ∈ scope.names, y.2 = .free → ∃ c, X.env.cells.lookup y.1 = some c := fun y hy e =>
  (L.free y hy e).elim (fun k => ok.has _ (.inl k)) (fun k => ok.has _ (.inr k))
section
variable {X : Cx} {pins : List (Addr × Obj)} {σ : L2.St} {H : Hp} {s : Shared}
/-- the function is made: its code object is new, or found in the table -/
theorem mk_tail {M : Model} {A : Around} {T : List (Addr × Str)} {c P : Addr} {params : Arguments} {body : Expr} {scope : Scope} {pos : Pos} {dV : Value} {E : Value → Shared → Prop} {Q : Value → Shared → Prop} (I : Inv X pins σ H s) (TB : TabB X.base X.mg c P) (hcode : X.env.code = .ref c)
    (hm : (P, X.env.qual ++ "<lambda>") ∈ T) (hu : ∀ p ∈ T, p.1 = P → p.2 = X.env.qual ++ "<lambda>") (hT : Tabs T H) (hfree : ∀ y ∈ scope.names, y.2 = .free → ∃ c, X.env.cells.lookup y.1 = some c)
    (h : ∀ (f c' : Addr) (doc pm ctv : Value) (H1 : Hp) (s' : Shared), Inv X pins σ H1 s' → ExtN H H1 → Tabs T H1 → (∀ b o, b ≠ P → s.heap.get? b = some o → s'.heap.get? b = some o) → (∀ b, H b = none → b < s.heap.objs.size → H1 b = none) →
      s'.heap.get? f = some (lamO X params body scope dV doc pm c' ctv) → H1 f = none → f ∉ frs X.stack → H1 c' = some (CodeO c' (X.env.qual ++ "<lambda>")) → Q (.ref f) s') :
    wpAny M A (makeTail "<lambda>" (X.env.qual ++ "<lambda>") params (.expr body) scope X.env dV .none none pos pos.line) Q E s := by
  obtain ⟨ps, hP, ht, ha⟩ := hT _ hm
  have bP : s.heap.BuiltinsAt X.mg P := TB.bm.keeps I.bk
  have gP : s.heap.get? P = some { cls := .none, data := .fields ps } := I.hok P _ hP
  have off : ∀ f, s.heap.objs.size ≤ f → f ∉ frs X.stack := fun f hf z => by
    rcases List.mem_cons.mp (I.stkSub _ z) with e | e
    · have h1 := I.lt
      rw [← e] at h1
      exact Nat.lt_irrefl _ (Nat.lt_of_lt_of_le h1 hf)
    · exact I.nofs hf e
  cases hc : codeAmong pos ps.toList with
  | some cv =>
    obtain ⟨c', e, hco⟩ := ha pos cv hc
    subst e
    refine PySem.W.kdv_makeTailHit (mg := X.mg) (c := c) (P := P) (ps := ps) (closure_ok hfree) I.ok.glob (I.mod.glob.keeps I.bk) hcode (TB.code.keeps I.bk) gP ht hc bP fun ctv doc h' tk hx hsz => ?_
    have I1 : Inv X pins σ H { s with heap := h'.push (lamO X params body scope dV doc ((X.mg "__name__").getD .none) c' ctv), toks := tk } := I.kept fun b o e => Heap.get?_push_of_some _ (hx b o e)
    exact h h'.objs.size c' doc ((X.mg "__name__").getD .none) ctv H _ I1 (ExtN.refl H) hT (fun b o _ e => Heap.get?_push_of_some _ (hx b o e)) (fun b z _ => z) (Heap.get?_push_size _ rfl) (I.hok.fresh hsz) (off _ hsz) hco
  | none =>
    refine PySem.W.kdv_makeTail (mg := X.mg) (c := c) (P := P) (ps := ps) (closure_ok hfree) I.ok.glob (I.mod.glob.keeps I.bk) hcode (TB.code.keeps I.bk) gP ht hc TB.gP bP fun c' ctv doc h' tk hx hge hlt hrec htb => ?_
    obtain ⟨c2, oc, vs, t, e2, hoc, hd, hv⟩ := hrec
    cases e2
    have grow : s.heap.objs.size ≤ h'.objs.size := Nat.le_trans hge (Nat.le_of_lt hlt)
    have nC : H c' = none := I.hok.fresh hge
    obtain ⟨F0, hF0⟩ : ∃ F0, F0 = lamO X params body scope dV doc ((X.mg "__name__").getD .none) c' ctv := ⟨_, rfl⟩
    have I1 := inv_table (t' := tk) (more := #[rawInt pos.line, rawInt pos.col, .ref c']) (h' := h'.push F0) I hP
      (fun b o hb e => Heap.get?_push_of_some _ (hx b o hb e)) (Heap.get?_push_of_some _ htb) hge ⟨oc, vs, t, Heap.get?_push_of_some _ hoc, hd, hv⟩
    have far : ∀ {b : Addr} {o : HO}, H b = some o → (∀ ps, o ≠ .tbl ps) → b ≠ P := fun e n z => by
      rw [z, hP] at e
      exact n ps (Option.some.inj e).symm
    have ext : ExtN H (upd (upd H P (.tbl (ps ++ #[rawInt pos.line, rawInt pos.col, .ref c']))) c' (CodeO c' (X.env.qual ++ "<lambda>"))) := fun b o e n => by
      rw [upd_ne (ne_of_none e nC), upd_ne (far e n)]
      exact e
    have lst : (ps ++ #[rawInt pos.line, rawInt pos.col, .ref c']).toList = ps.toList ++ [rawInt pos.line, rawInt pos.col, .ref c'] := by simp
    subst hF0
    refine h h'.objs.size c' doc ((X.mg "__name__").getD .none) ctv _ _ I1 ext (fun p hp => ?_) (fun b o hb e => Heap.get?_push_of_some _ (hx b o hb e)) (fun b z lt => ?_) (Heap.get?_push_size _ rfl) ?_ (off _ grow) upd_same
    · by_cases hb : p.1 = P
      · rw [hu p hp hb, hb]
        refine ⟨_, by rw [upd_ne (ne_of_none hP nC), upd_same], by rw [lst]; exact PySem.TriplesOk_snoc _ _ _ _ ht, fun p' cv hcv => ?_⟩
        rw [lst] at hcv
        rcases among_app _ ht hcv with z | z
        · obtain ⟨c0, e1, e2⟩ := ha p' cv z
          exact ⟨c0, e1, ext _ _ e2 codeO_ne⟩
        · exact ⟨c', z, upd_same⟩
      · obtain ⟨ps', a1, a2, a3⟩ := hT p hp
        refine ⟨ps', by rw [upd_ne (ne_of_none a1 nC), upd_ne hb]; exact a1, a2, fun p' cv hcv => ?_⟩
        obtain ⟨c0, e1, e2⟩ := a3 p' cv hcv
        exact ⟨c0, e1, ext _ _ e2 codeO_ne⟩
    · have n1 : b ≠ c' := Nat.ne_of_lt (Nat.lt_of_lt_of_le lt hge)
      have n2 : b ≠ P := fun w => by
        rw [w, hP] at z
        cases z
      rw [upd_ne n1, upd_ne n2]
      exact z
    · have n1 : h'.objs.size ≠ c' := Nat.ne_of_gt hlt
      have n2 : h'.objs.size ≠ P := Nat.ne_of_gt (Nat.lt_of_lt_of_le (Heap.lt_size gP) grow)
      rw [upd_ne n1, upd_ne n2]
      exact I.hok.fresh grow
/-- what is made of the lambda: objects that stay, the function at f among them -/
structure Made (X : Cx) (H1 : Hp) (s' : Shared) (params : Arguments) (body : Expr) (scope : Scope) (f c' : Addr) (dV doc pm ctv : Value) (D : List (Addr × Obj)) : Prop where
  at_ : (f, lamO X params body scope dV doc pm c' ctv) ∈ D
  there : ∀ p ∈ D, s'.heap.get? p.1 = some p.2 ∧ H1 p.1 = none ∧ p.1 ∉ frs X.stack
  code : H1 c' = some (CodeO c' (X.env.qual ++ "<lambda>"))
  binds : ∃ bs : List (Str × Value), (∀ s2 : Shared, (∀ p ∈ D, s2.heap.get? p.1 = some p.2) → BindsTo s2 (PySem.W.kdv_fn "<lambda>" (X.env.qual ++ "<lambda>") params (.expr body) scope (clos X scope) dV doc pm (.ref c') ctv) ⟨[], []⟩ bs) ∧ ∀ y ∈ bs, scope.names.lookup y.1 = some .local
/-- lambda: e -/
theorem lam_plain {T : List (Addr × Str)} {c P : Addr} {params : Arguments} {body : Expr} {scope : Scope} {pos : Pos} {E : Value → Shared → Prop} {Q : Value → Shared → Prop} (I : Inv X pins σ H s) (TB : TabB X.base X.mg c P) (hcode : X.env.code = .ref c)
    (hm : (P, X.env.qual ++ "<lambda>") ∈ T) (hu : ∀ p ∈ T, p.1 = P → p.2 = X.env.qual ++ "<lambda>") (hT : Tabs T H) (hdef : defaultsOf params X.env = ([], [])) (hfree : ∀ y ∈ scope.names, y.2 = .free → ∃ c, X.env.cells.lookup y.1 = some c)
    (hbind : ∀ (q : Str) (cl : List (Str × Addr)) (doc pm cv ctv : Value), bindArgs (PySem.W.kdv_fn "<lambda>" q params (.expr body) scope cl .none doc pm cv ctv) ⟨[], []⟩ = pure [])
    (h : ∀ (f c' : Addr) (dV doc pm ctv : Value) (D : List (Addr × Obj)) (H1 : Hp) (s' : Shared), Inv X pins σ H1 s' → ExtN H H1 → Tabs T H1 → Made X H1 s' params body scope f c' dV doc pm ctv D → Q (.ref f) s') :
    wpAny (model X.prog X.w) X.A (eval (.Lambda params body scope pos) X.env) Q E s := by
  refine PySem.W.kla_eval hdef ?_
  rw [makeFunction_eq]
  simp only [List.zip_nil_right, List.filterMap_nil, List.isEmpty_nil, if_true, pure_bind]
  refine mk_tail I TB hcode hm hu hT hfree fun f c' doc pm ctv H1 s' I1 eN T1 _ _ hf hfn hfr hco => ?_
  refine h f c' .none doc pm ctv [(f, lamO X params body scope .none doc pm c' ctv)] H1 s' I1 eN T1 ⟨List.mem_cons_self, fun p hp => ?_, hco, [], fun s2 _ => .of_eq (hbind _ _ _ _ _ _), fun y hy => absurd hy (by simp)⟩
  rw [List.mem_singleton] at hp
  subst hp
  exact ⟨hf, hfn, hfr⟩
/-- lambda a=0: e -/
theorem lam_dflt {T : List (Addr × Str)} {c P : Addr} {params : Arguments} {body : Expr} {scope : Scope} {pos p0 : Pos} {j0 : Nat} {n : Int} {x : Str} {E : Value → Shared → Prop} {Q : Value → Shared → Prop} (I : Inv X pins σ H s) (TB : TabB X.base X.mg c P) (hcode : X.env.code = .ref c)
    (hm : (P, X.env.qual ++ "<lambda>") ∈ T) (hu : ∀ p ∈ T, p.1 = P → p.2 = X.env.qual ++ "<lambda>") (hT : Tabs T H) (hkw : params.kwonlyargs = []) (hdef : defaultsOf params X.env = ([eval (.Constant (.int n) j0 p0) X.env], [])) (hfree : ∀ y ∈ scope.names, y.2 = .free → ∃ c, X.env.cells.lookup y.1 = some c)
    (hbind : ∀ (q : Str) (cl : List (Str × Addr)) (T0 : Addr) (doc pm cv ctv v : Value), ∃ k, bindArgs (PySem.W.kdv_fn "<lambda>" q params (.expr body) scope cl (.ref T0) doc pm cv ctv) ⟨[], []⟩ = seqItems? (.ref T0) >>= k ∧ k (some #[v]) = pure [(x, v)]) (hloc : scope.names.lookup x = some .local)
    (hE : ∀ e s, X.xe e s → E e s)
    (h : ∀ (f c' : Addr) (dV doc pm ctv : Value) (D : List (Addr × Obj)) (H1 : Hp) (s' : Shared), Inv X pins σ H1 s' → ExtN H H1 → Tabs T H1 → Made X H1 s' params body scope f c' dV doc pm ctv D → Q (.ref f) s') :
    wpAny (model X.prog X.w) X.A (eval (.Lambda params body scope pos) X.env) Q E s := by
  rw [arm_eval_Lambda, hdef]
  show wpAny _ _ (do let dv ← evalAll [eval (.Constant (.int n) j0 p0) X.env]; let kdv ← holding dv (evalAllOpt []); makeFunction "<lambda>" (X.env.qual ++ "<lambda>") params (.expr body) scope X.env dv kdv [] pos pos.line) Q E s
  have hc : PE X (.Constant (.int n) j0 p0) (tC (.int n)) := pe_int
  refine wpAny_bind ?_
  unfold evalAll
  refine wpAny_bind (wpAny_mono (hc.run pins s σ H (fun v H' => v = .int n ∧ H' = H) I ⟨rfl, rfl⟩) (fun u s1 hh => ?_) hE)
  obtain ⟨v, H', I1, r1, rfl, rfl⟩ := hh
  unfold evalAll
  refine wpAny_bind (wpAny_holding (wpAny_pure (wpAny_pure (wpAny_bind (wpAny_holding (wpAny_pure ?_))))))
  rw [makeFunction_eq, hkw]
  simp only [List.zip_nil_right, List.zip_nil_left, List.filterMap_nil, List.isEmpty_nil, List.isEmpty_cons, if_true, Bool.false_eq_true, if_false, pure_bind]
  refine wpAny_bind (wpAny_newTextTuple ?_)
  obtain ⟨T0, hT0⟩ : ∃ T0, T0 = s1.heap.objs.size := ⟨_, rfl⟩
  have I2 : Inv X pins σ H' { s1 with heap := s1.heap.push (PySem.W.kdv_tup [u]) } := I1.kept fun b o e => Heap.get?_push_of_some _ e
  have g0 : (s1.heap.push (PySem.W.kdv_tup [u])).get? T0 = some (PySem.W.kdv_tup [u]) := by
    rw [hT0]
    exact Heap.get?_push_size _ rfl
  have z0 : H' T0 = none := I1.hok.fresh (Nat.le_of_eq hT0.symm)
  have nf : T0 ∉ frs X.stack := fun z => by
    rcases List.mem_cons.mp (I1.stkSub _ z) with e | e
    · have h1 := I1.lt
      rw [← e, hT0] at h1
      exact Nat.lt_irrefl _ h1
    · exact I1.nofs (Nat.le_of_eq hT0.symm) e
  rw [← hT0]
  obtain ⟨ps, hP, _, _⟩ := hT _ hm
  have nP : T0 ≠ P := fun w => by
    rw [w, hP] at z0
    cases z0
  refine mk_tail I2 TB hcode hm hu hT hfree fun f c' doc pm ctv H1 s' I3 eN T1 kp low hf hfn hfr hco => ?_
  have g1 := kp T0 _ nP g0
  have z1 : H1 T0 = none := low T0 z0 (by
    show T0 < (s1.heap.push _).objs.size
    rw [Heap.size_push, hT0]
    exact Nat.lt_succ_self _)
  refine h f c' (.ref T0) doc pm ctv [(f, lamO X params body scope (.ref T0) doc pm c' ctv), (T0, PySem.W.kdv_tup [u])] H1 s' I3 eN T1 ⟨List.mem_cons_self, fun p hp => ?_, hco, [(x, u)], fun s2 k2 => ?_, fun y hy => ?_⟩
  · rcases List.mem_cons.mp hp with e | e
    · subst e
      exact ⟨hf, hfn, hfr⟩
    · rw [List.mem_singleton] at e
      subst e
      exact ⟨g1, z1, nf⟩
  · obtain ⟨k, b1, b2⟩ := hbind (X.env.qual ++ "<lambda>") (clos X scope) T0 doc pm (.ref c') ctv u
    exact BindsTo.of_defaults (o := PySem.W.kdv_tup [u]) rfl (k2 (T0, _) (by simp)) rfl b1 b2
  · rw [List.mem_singleton] at hy
    subst hy
    exact hloc
end
end Wn
namespace Wn
open PySem PySem.Spec PyProof.Rows L2 LamX
section
variable {X : Cx} {pins : List (Addr × Obj)} {σ : L2.St} {H HZ : Hp} {s s1 : Shared}
/-- the lambda's body begins: bs its own names -/
theorem lamW_start {A : Around} {outer : List Env} {E : XK} {scope : Scope} {f c' : Addr} {h1 : Heap} {tk : Nat} {bs : List (Str × Value)} (I : Inv X pins σ H s) (L : LamD X.N X.env.scope scope) (e0 : Env0 X.prog X.w X.K X.mg X.base A outer s1 HZ) (hd : A.handled = none)
    (un : Un (frs X.stack) [] H HZ s.heap s1.heap) (hns : h1.Ns s1.heap.objs.size fun y => bs.reverse.lookup y) (kp : ∀ b o, s1.heap.get? b = some o → h1.get? b = some o) :
    Inv (lamCx X A outer s1 HZ E scope f c') [] σ HZ { s1 with heap := h1, toks := tk } := by
  have hfree := L.has I.ok
  have up : ∀ {y c}, (cloFrom X.env.cells scope.names []).lookup y = some c → X.env.cells.lookup y = some c := fun {y c} e => by
    rcases cloFrom_mem (PySem.mem_of_lookup e) with z | ⟨z1, z2⟩
    · cases z
    · obtain ⟨c1, hc⟩ := hfree _ z1 rfl
      have hc : X.env.cells.lookup y = some c1 := hc
      rw [show c = c1 by rw [z2, hc] <;> rfl]
      exact hc
  have down : ∀ {y}, scope.names.lookup y = some .free → ∃ c, (cloFrom X.env.cells scope.names []).lookup y = some c := fun {y} hl => by
    have hy : (y, NameKind.free) ∈ scope.names := PySem.mem_of_lookup hl
    exact mem_lookup (cloFrom_has (cells := X.env.cells) (acc := []) hy)
  have cellK : ∀ {c : Addr} {v : Option Value}, H c = none → s.heap.IsCell c v → h1.IsCell c v := fun {c v} n ⟨o, ho, hd⟩ => by
    obtain ⟨sl, q⟩ := un.any ho n (by simp)
    exact ⟨_, kp _ _ q, hd⟩
  have ex0 : ∀ b : Addr, b ∉ (lamCx X A outer s1 HZ E scope f c').ex := fun b z => absurd (show b ∈ ([] : List Addr) from z) (by simp)
  refine ⟨⟨e0.mod, L.kind, rfl, rfl, Nat.le_refl _, fun y z c e1 e2 => I.ok.inj y z c (up e1) (up e2), fun y hy => ?_, fun y c z _ => ?_, fun _ => hd, Around.frames_deeper e0.frames, .inr ⟨rfl, rfl⟩, fun b z => absurd z (ex0 b), e0.bs, e0.bsz, fun b _ _ => ex0 b,
      fun b z => absurd z (ex0 b), e0.funs, e0.frf⟩,
    rfl, e0.bare, Un.kept kp, ⟨_, hns, fun i y v e1 e2 e3 => ?_⟩, fun y c e => ?_, e0.hok.fresh (Nat.le_refl _), fun y c e => ?_, fun q hq => absurd (show q ∈ ([] : List (Addr × Obj)) ++ [] from hq) (by simp), e0.hok.kept kp, I.len⟩
  · have hy : scope.names.lookup y = some .cell ∨ scope.names.lookup y = some .free := hy
    rcases hy with hy | hy
    · exact absurd rfl (L.own _ (PySem.mem_of_lookup hy)).1
    · exact down hy
  · have z : false = true := z
    cases z
  · have e3 : Vis scope y := e3
    rcases e3 with k | k | k
    · exact absurd (List.mem_iff_getElem?.mpr ⟨i, e1⟩) ((L.own _ (PySem.mem_of_lookup k)).2 rfl)
    · exact absurd rfl (L.own _ (PySem.mem_of_lookup k)).1
    · obtain ⟨m, hn, hl⟩ := I.loc
      have hvis : Vis X.env.scope y := (L.free _ (PySem.mem_of_lookup k) rfl).elim (fun k => .inr (.inl k)) (fun k => .inr (.inr k))
      obtain ⟨w', r, q⟩ := hl i y v e1 e2 hvis
      obtain ⟨c2, h2⟩ := down k
      refine ⟨w', r, .inr ⟨.inr k, c2, h2, ?_⟩⟩
      have c1 := up h2
      rcases q with ⟨k', _⟩ | ⟨_, c3, e', z⟩
      · have k' : X.env.scope.names.lookup y = some .local := k'
        rcases L.free _ (PySem.mem_of_lookup k) rfl with k2 | k2 <;> rw [show X.env.scope.names.lookup y = _ from k2] at k' <;> cases k'
      · rw [c1] at e'
        cases e'
        exact cellK (I.freeC y _ c1) z
  · obtain ⟨w', z⟩ := I.cell y c (up e)
    exact ⟨w', cellK (I.freeC y c (up e)) z⟩
  · obtain ⟨v, o, ho, hd⟩ := I.cell y c (up e)
    exact un.free c o ho (I.freeC y c (up e)) (by simp)
/-- x(), in the def that got the lambda; what is raised is wished for at its slots -/
theorem pe_actW {CXg : CXT} {Eg : XK} {Ng : List Str} {qg : Str} {sg : Scope} {g f c' : Addr} {cdg dV doc pm ctv : Value} {params : Arguments} {body : Expr} {scope : Scope} {D : List (Addr × Obj)} {k i : Nat} {a : Str} {pn : List (Addr × Obj)} {xe : Value → Shared → Prop} {W : WX} {tb : XK → TE} {p1 p2 : Pos}
    (I : Inv X pins σ H s) (L : LamD X.N X.env.scope scope) (M : Made X H s params body scope f c' dV doc pm ctv D)
    (tk : Takes ((cxOf CXg X.prog X.w X.K X.mg X.base Ng qg sg g cdg X.A X.stack s H Eg).tr pn xe) W) (hr : Room (k + 1) (X.A.deeper (envOfC qg sg s.heap.objs.size g cdg)))
    (hbody : ∀ (A : Around) (outer : List Env) (s : Shared) (H : Hp) (E : XK), Room k (A.deeper (lamEnv X scope s.heap.objs.size f c')) → PE (lamCx X A outer s H E scope f c') body (tb E))
    (hN : Ng[i]? = some a) (hv : Vis sg a) (hd : (a == ("__debug__" : Str)) = false := by decide) (hcd : (a == ("__classdict__" : Str)) = false := by decide) :
    PE ((cxOf CXg X.prog X.w X.K X.mg X.base Ng qg sg g cdg X.A X.stack s H Eg).tr pn xe) (.Call (.Name a p1) [] [] p2)
      (fun σZ HZ Q => σZ[i]? = some (some (.ref f)) ∧ HZ c' = some (CodeO c' (X.env.qual ++ "<lambda>")) ∧ ∃ E : XK, (∀ cls d H', E cls d H' → W cls d σZ H') ∧ tb E σ HZ Q) := by
  refine ⟨fun pinsZ sZ σZ HZ Q IZ h => ?_⟩
  obtain ⟨hs, hc, E, hW, ht⟩ := h
  refine wpAny_Call_Name_kw (thn ((pe_var (pos := p1) (i := i) hN hv hd hcd).run pinsZ sZ σZ HZ (fun v H1 => v = .ref f ∧ H1 = HZ) IZ ⟨.ref f, hs, rfl, rfl⟩) fun u s1 hh => ?_)
  obtain ⟨v, H1, I1, r1, ev, eH⟩ := hh
  subst ev
  rw [eH] at I1
  obtain rfl : u = Value.ref f := r1
  have un : Un (frs X.stack) [] H HZ s.heap s1.heap := I1.base
  have stay : ∀ p ∈ D, s1.heap.get? p.1 = some p.2 := fun p hp => un.keep _ _ (M.there p hp).1 (M.there p hp).2.1 (M.there p hp).2.2 (by simp)
  have of1 := stay _ M.at_
  refine PySem.W.callWith_F0 ⟨_, _, _, _, of1⟩ ?_
  obtain ⟨⟨oc, vs, t, hoc, hdc, hvc⟩, _, _⟩ := I1.hok c' _ hc
  obtain ⟨bs, hbind, hloc⟩ := M.binds
  have rc : codeAny (model X.prog X.w) (X.A.deeper (envOfC qg sg s.heap.objs.size g cdg)) (.call (.ref f) ⟨[], []⟩) (CR (L2.CX X.prog X.w) (envOfC qg sg s.heap.objs.size g cdg :: X.stack) X.prog X.w HZ s1 Q E) s1 := by
    refine PySem.W.kla_callFunE hr.depth of1 rfl L.co L.gen rfl ⟨c', oc, vs, t, rfl, hoc, hdc, hvc⟩ (hbind s1 stay _ _ _ _ ?_)
    refine wpAny_newFunctionEnv (fun y hy => (L.own y hy).1) hloc (fun h1 hns hsb => ⟨I1.nolimit.fresh _ hsb, ?_⟩) L.kind
    show codeAny _ _ (.expr body (lamEnv X scope s1.heap.objs.size f c')) _ _
    have kp : ∀ b o, s1.heap.get? b = some o → h1.get? b = some o := fun b o e => hsb.extBut b o (Nat.ne_of_lt (Heap.lt_size e)) (Heap.get?_push_of_some _ e)
    have J : Inv (lamCx X (X.A.deeper (envOfC qg sg s.heap.objs.size g cdg)) (envOfC qg sg s.heap.objs.size g cdg :: X.stack) s1 HZ E scope f c') [] σ HZ { s1 with heap := h1, toks := s1.toks + bs.length } :=
      lamW_start I L I1.env0 hr.hd un hns kp
    refine PySem.W.kla_codeExpr (wpAny_mono ((hbody _ _ s1 HZ E (hr.deeper _)).run [] _ _ HZ Q J ht) (fun v s' hq => ?_) fun e s' hq => hq)
    obtain ⟨w', H', J', rv, q⟩ := hq
    exact ⟨w', H', J'.os, J'.bare, J'.base, J'.hok, rv, q⟩
  refine wpAny_call (codeAny_mono rc fun r s' hq => ?_)
  match r, hq with
  | .error e, hq => exact tk e s' (XE.of_call I1 hW hq)
  | .ok (.ret u), hq => exact I1.after hq
  | .ok .next, hq => exact hq.elim
  | .ok .brk, hq => exact hq.elim
  | .ok .cont, hq => exact hq.elim
end
/-- how a lambda is made here -/
def MkLam (X : Cx) (T : List (Addr × Str)) (params : Arguments) (body : Expr) (scope : Scope) (lpos : Pos) : Prop :=
  ∀ (pins : List (Addr × Obj)) (σ : L2.St) (H : Hp) (s : Shared) (Q : Value → Shared → Prop), Inv X pins σ H s → Tabs T H →
    (∀ (f c' : Addr) (dV doc pm ctv : Value) (D : List (Addr × Obj)) (H1 : Hp) (s' : Shared), Inv X pins σ H1 s' → ExtN H H1 → Tabs T H1 → Made X H1 s' params body scope f c' dV doc pm ctv D → Q (.ref f) s') →
    wpAny (model X.prog X.w) X.A (eval (.Lambda params body scope lpos) X.env) Q X.xe s
/-- the def that calls what it got: a calls it; TT: what it makes of the lambda's reading -/
def Gives (X : Cx) (Ng : List Str) (x : Str) (sg : Scope) (g : Addr) (cdg : Value) (bg : List Stmt) (a : Str) (q : Str) (TT : (XK → Hp → VK → Prop) → Hp → VK → Prop) : Prop :=
  ∀ (f c' : Addr) (s : Shared) (H : Hp) (Q : VK) (tl : XK → Hp → VK → Prop), Room 1 (X.A.deeper (envOfC x sg s.heap.objs.size g cdg)) →
    (∀ (W : WX) (pn : List (Addr × Obj)) (xe : Value → Shared → Prop) (p1 p2 : Pos), Takes ((cxOf CX0 X.prog X.w X.K X.mg X.base Ng x sg g cdg X.A X.stack s H E0).tr pn xe) W →
      PE ((cxOf CX0 X.prog X.w X.K X.mg X.base Ng x sg g cdg X.A X.stack s H E0).tr pn xe) (.Call (.Name a p1) [] [] p2) (fun σZ HZ Q => σZ[0]? = some (some (.ref f)) ∧ HZ c' = some (CodeO c' q) ∧ ∃ E : XK, (∀ cls d H', E cls d H' → W cls d σZ H') ∧ tl E HZ Q)) →
    H c' = some (CodeO c' q) → TT tl H Q →
    ∃ t, PSs (cxOf CX0 X.prog X.w X.K X.mg X.base Ng x sg g cdg X.A X.stack s H E0).nox bg t ∧ t { nx := fun _ H' => Q .non H', rt := Q } (L2.start Ng [.ref f]) H
section
variable {X : Cx}
/-- x(lambda: body) -/
theorem pe_outc {T : List (Addr × Str)} {TT : (XK → Hp → VK → Prop) → Hp → VK → Prop} {x a : Str} {g : Addr} {k : Nat} {st : Stmt} {fd : FuncData} {Ng : List Str} {cdg : Value}
    {params : Arguments} {body : Expr} {scope : Scope} {t : XK → TE} {p lpos pos : Pos} (hg : Gl X x) (hm : X.mg x = some (.ref g)) (hk : PySem.W.keepIn X.K (.ref g) = true) (F : Fun X.K x x st g fd) (hcd : fd.code = cdg) (hb : L2.Binds X.K fd [a] []) (Sg : FnScope Ng [a] (defScope st)) (hNg : Ng[0]? = some a) (hva : Vis (defScope st) a)
    (hG : Gives X Ng x (defScope st) g cdg (defBody st) a (X.env.qual ++ "<lambda>") TT) (ML : MkLam X T params body scope lpos) (hr : Room (k + 2) X.A) (L : LamD X.N X.env.scope scope)
    (hbody : ∀ (A : Around) (outer : List Env) (s : Shared) (H : Hp) (E : XK) (f c' : Addr), Room k (A.deeper (lamEnv X scope s.heap.objs.size f c')) → PE (lamCx X A outer s H E scope f c') body (t E))
    (hdb : (x == ("__debug__" : Str)) = false := by decide) (hd : (a == ("__debug__" : Str)) = false := by decide) (hcc : (a == ("__classdict__" : Str)) = false := by decide) :
    PE X (.Call (.Name x p) [.Lambda params body scope lpos] [] pos) (tLam T TT t) := by
  refine ⟨fun pins s σ H Q I h => ?_⟩
  obtain ⟨hT, h⟩ := h
  obtain ⟨oc, od, kV, doc0, pm0, an, cdv, ct, osl, rfl, lk, hcg⟩ := F.ex
  obtain rfl : cdv = cdg := hcd
  refine wpAny_Call_Name_kw (ld_glob I hg hm ?_ hdb)
  refine PySem.W.callWith_K (h₀ := X.base) I.ok.mod.kin hk ?_ (by rfl) (by rfl)
  show wpAny _ _ (spliced ((false, eval (.Lambda params body scope lpos) X.env) :: backTo pos (starEach [] X.env))) _ _ s
  refine Calls.spliced_cons (ML pins σ H s _ I hT fun f c' dV doc pm ctv D H1 s' I1 eN T1 M => ?_)
  refine Calls.spliced_nil ⟨I1.kIn, ?_⟩
  have rc : codeAny (model X.prog X.w) X.A (.call (.ref g) ⟨[.ref f], []⟩) (CR CX0 X.stack X.prog X.w H1 s' Q E0) s' := by
    refine run_ofS (N := Ng) (ps := [a]) (us := [.ref f]) (vs := [.ref f]) lk hcg Sg hr I1.env0 (hb s' [.ref f] I1.kIn rfl) (.cons rfl .nil) rfl fun hr' => ?_
    obtain ⟨t', ht', hq'⟩ := hG f c' s' H1 Q (fun E H' Q' => t E σ H' Q') (hr'.mono (by omega)) (fun W pn xe p1 p2 tk => pe_actW (i := 0) I1 L M tk hr' (fun A outer s H E hr2 => hbody A outer s H E f c' hr2) hNg hva hd hcc) M.code (h H1 eN T1)
    exact ⟨t', ht'.nox, hq'⟩
  refine wpAny_call (codeAny_mono rc fun r s2 hq => ?_)
  match r, hq with
  | .error e, hq => exact (show False from hq).elim
  | .ok (.ret u), hq => exact I1.after hq
  | .ok .next, hq => exact hq.elim
  | .ok .brk, hq => exact hq.elim
  | .ok .cont, hq => exact hq.elim
end
end Wn
/-! a law whose defs make lambdas: the end, by the tables of their code -/
namespace Wn
open PySem PySem.Spec PyProof.Rows L2 LamX
/-- a def by its body, its code told -/
theorem fnGc {P : Program} {w : World} {K : PySem.W.Frag} {mg : Str → Option Value} {base : Heap} {CX : CXT} {k : Nat} {f : Addr} {fd : FuncData} {ps : List Str} {sp : Sp} {x qual : Str} {st : Stmt} {N : List Str} (F : Fun K x qual st f fd) (S : FnScope N ps (defScope st)) (sz : ∀ vs H Q E, sp vs H Q E → vs.length = ps.length)
    (body : ∀ (cdv : Value) (A : Around) (outer : List Env) (s : Shared) (H : Hp) (vs : List V) (Q : VK) (E : XK), fd.code = cdv → (A.deeper (envOfC qual (defScope st) s.heap.objs.size f cdv)).guards = some [] →
      Room k (A.deeper (envOfC qual (defScope st) s.heap.objs.size f cdv)) → sp vs H Q E →
      ∃ t, PSs (cxOf CX P w K mg base N qual (defScope st) f cdv A outer s H E) (defBody st) t ∧ t { nx := fun _ H' => Q .non H', rt := Q } (L2.start N vs) H) : FnG P w K mg base CX (k + 1) f fd ps sp := by
  obtain ⟨oc, od, kV, doc, pm, an, cdv, ct, osl, rfl, lk, hcd⟩ := F.ex
  refine ⟨sz, fun A hgd hr outer s H args us vs Q E e0 hb r h => ?_⟩
  have KI : K.In s.heap := e0.mod.kin.keeps fun b o e => (e0.bs b o e).1
  have NL : s.heap.NoLimit := e0.mod.nolimit.keeps fun b o e => (e0.bs b o e).1
  refine codeAny_call_function hr.depth (KI _ _ lk) rfl S.co S.gen rfl (PySem.W.codeRec_of KI hcd) (hb _ _ _ _ ?_)
  refine wpAny_newFunctionEnv_cells S.kind (fun y hy => ?_) fun env he s1 x => ?_
  · obtain ⟨n, v⟩ := y
    rcases S.par n (List.of_mem_zip hy).1 with q | q
    · exact .inl q
    · exact .inr ⟨q, PySem.W.cellsFrom_some _ _ _ (.inl q)⟩
  · subst he
    refine ⟨NL.keeps x.toInCall.keep, codeAny_func ?_⟩
    obtain ⟨t, ht, hq⟩ := body cdv A outer s H vs Q E rfl hgd (hr.deeper _) h
    refine wpAny_mono (ht.run [] s1 _ H _ (inv_start S hr.hd e0 (sz _ _ _ _ h) r x) hq) (fun fl s' z => ?_) fun e s' z => z
    cases fl with
    | ret u =>
      obtain ⟨v, σ', H', J, rv, q⟩ := z
      exact ⟨v, H', J.os, J.bare, J.base, J.hok, rv, q⟩
    | next =>
      obtain ⟨σ', H', J, q⟩ := z
      exact ⟨.non, H', J.os, J.bare, J.base, J.hok, rfl, q⟩
    | brk =>
      obtain ⟨_, _, _, q⟩ := z
      exact q.elim
    | cont =>
      obtain ⟨_, _, _, q⟩ := z
      exact q.elim
theorem fnGc0 {P : Program} {w : World} {K : PySem.W.Frag} {mg : Str → Option Value} {base : Heap} {k : Nat} {f : Addr} {fd : FuncData} {ps : List Str} {sp : Sp} {x qual : Str} {st : Stmt} {N : List Str} (F : Fun K x qual st f fd) (S : FnScope N ps (defScope st)) (sz : ∀ vs H Q E, sp vs H Q E → vs.length = ps.length)
    (body : ∀ (cdv : Value) (A : Around) (outer : List Env) (s : Shared) (H : Hp) (vs : List V) (Q : VK) (E : XK), fd.code = cdv → (A.deeper (envOfC qual (defScope st) s.heap.objs.size f cdv)).guards = some [] →
      Room k (A.deeper (envOfC qual (defScope st) s.heap.objs.size f cdv)) → sp vs H Q E →
      ∃ t, PSs (cxOf CX0 P w K mg base N qual (defScope st) f cdv A outer s H E).nox (defBody st) t ∧ t { nx := fun _ H' => Q .non H', rt := Q } (L2.start N vs) H) : FnG P w K mg base CX0 (k + 1) f fd ps sp :=
  fnGc F S sz fun cdv A outer s H vs Q E hc g r h => let ⟨t, ht, q⟩ := body cdv A outer s H vs Q E hc g r h; ⟨t, ht.nox, q⟩
/-- the law's call; cs: the code objects and their tables -/
theorem law_callGT {P : Program} {w : World} {K : PySem.W.Frag} {mg mb : Str → Option Value} {CX : CXT} {k : Nat} {fa a : Addr} {cs : List (Addr × Addr)} {fd : FuncData} {x : Str} {sp : Sp} {s1 : Shared} {vs : List Value} {ns : List Int}
    (KX : K.In s1.heap) (hns : s1.heap.Ns mainGlobals mg) (hb : s1.heap.Ns builtinsNs mb) (hbb : ∀ x : Str, x ≠ "__name__" → mb x = bootBuiltins x) (hlim : s1.heap.NoLimit) (hg : s1.gens = #[])
    (hT : ∀ p ∈ cs, s1.heap.get? p.2 = some { cls := .none, data := .fields #[] }) (nT : ∀ p ∈ cs, K.lookup p.2 = none) (C : ∀ p ∈ cs, PySem.W.CodeHd s1.heap p.1 p.2)
    (hbm : ∃ (bm : Addr) (ob : Obj), mg "__builtins__" = some (.ref bm) ∧ bm ≠ builtinsNs ∧ s1.heap.get? bm = some ob ∧ ob.cls = .type "module" ∧ ob.dict = some builtinsNs ∧ ob.data = .plain)
    (ha : s1.heap.get? a = some { cls := .type "list", data := .seq vs.toArray }) (hi : IntsAre vs ns) (hl : ns.length ≤ sizeLine) (hr : Room k callerA)
    (F : ∀ base : Heap, K.In base → base.Ns mainGlobals mg → (∀ p ∈ cs, TabB base mg p.1 p.2) → FnG P w K mg base CX k fa fd [x] sp) (hbind : ∀ (s : Shared) (u : Value), BindsTo s fd ⟨[u], []⟩ [(x, u)])
    (hsp : ∀ H : Hp, (∀ p ∈ cs, H p.2 = some (.tbl #[])) → SqL K H a (ns.map V.int) → sp [.ref a] H (fun v _ => v = .bl true) fun _ _ _ => False)
    (hCX : ∀ H e s', CX [] H s1 (fun _ _ _ => False) e s' → False) :
    codeAny (model P w) callerA (.call (.ref fa) ⟨[.ref a], []⟩) (fun r s' => r = .ok (.ret (.bool true)) ∧ OldK s1.heap s'.heap ∧ s'.os = s1.os ∧ AllBare s'.gens) s1 := by
  obtain ⟨ts, hts⟩ : ∃ ts, ts = cs.map (·.2) := ⟨_, rfl⟩
  have inT : ∀ {p : Addr × Addr}, p ∈ cs → p.2 ∈ ts := fun hp => by
    rw [hts]
    exact List.mem_map.mpr ⟨_, hp, rfl⟩
  have outT : ∀ {b : Addr}, b ∈ ts → s1.heap.get? b = some { cls := .none, data := .fields #[] } ∧ K.lookup b = none := fun hb => by
    rw [hts] at hb
    obtain ⟨p, hp, e⟩ := List.mem_map.mp hb
    rw [← e]
    exact ⟨hT p hp, nT p hp⟩
  have na : a ∉ ts := fun z => by
    have q := (outT z).1
    rw [ha] at q
    cases q
  obtain ⟨H, hH⟩ : ∃ H : Hp, H = fun b => if b ∈ ts then some (.tbl #[]) else if b = a ∧ K.lookup a = none then some (.frz { cls := .type "list", data := .seq vs.toArray } (.lst (ns.map V.int))) else none := ⟨_, rfl⟩
  have at_ : ∀ b u, H b = some u → (b ∈ ts ∧ u = .tbl #[]) ∨ (b = a ∧ K.lookup a = none ∧ u = .frz { cls := .type "list", data := .seq vs.toArray } (.lst (ns.map V.int))) := fun b u z => by
    rw [hH] at z
    dsimp only at z
    split at z
    · rename_i c
      exact .inl ⟨c, (Option.some.inj z).symm⟩
    · split at z
      · rename_i c
        exact .inr ⟨c.1, c.2, (Option.some.inj z).symm⟩
      · cases z
  have off : ∀ b o, s1.heap.get? b = some o → (∀ n, o.data ≠ .seq vs.toArray n) → o.data ≠ .fields #[] → H b = none := fun b o e d d2 => by
    cases z : H b with
    | none => rfl
    | some u =>
      rcases at_ b u z with ⟨w1, _⟩ | ⟨rfl, _, _⟩
      · rw [(outT w1).1] at e
        cases e
        exact absurd rfl d2
      · rw [ha] at e
        cases e
        exact absurd rfl (d _)
  have kb : ∀ b o, K.lookup b = some o → H b = none := fun b o e => by
    cases z : H b with
    | none => rfl
    | some u =>
      rcases at_ b u z with ⟨w1, _⟩ | ⟨rfl, z2, _⟩
      · rw [(outT w1).2] at e
        cases e
      · rw [z2] at e
        cases e
  have ok : HOk P w H s1.heap := fun b u z => by
    rcases at_ b u z with ⟨w1, rfl⟩ | ⟨rfl, _, rfl⟩
    · exact (outT w1).1
    · exact ⟨ha, by rw [List.length_map]; exact hl, vs, _, vals_ints hi, ha⟩
  have sq : SqL K H a (ns.map V.int) := by
    cases z : K.lookup a with
    | none =>
      refine .inl (.inr ⟨{ cls := .type "list", data := .seq vs.toArray }, ?_⟩)
      rw [hH]
      dsimp only
      rw [if_neg na]
      exact if_pos ⟨rfl, z⟩
    | some o =>
      have e := KX a o z
      rw [ha] at e
      cases e
      exact .inr ⟨_, vs.toArray, _, z, rfl, rfl, rfl, by rw [List.size_toArray, hi.length]; exact hl, by simpa using vals_ints hi⟩
  have tabs : ∀ p ∈ cs, H p.2 = some (.tbl #[]) := fun p hp => by
    rw [hH]
    exact if_pos (inT hp)
  have nsB : ∀ {b : Addr} {m : Str → Option Value}, s1.heap.Ns b m → (hidT s1.heap H).Ns b m := fun {b m} ⟨o, es, ep, e, d, r⟩ => ⟨o, es, ep, hidT_get e (off b o e (fun n z => by rw [d] at z; cases z) fun z => by rw [d] at z; cases z), d, r⟩
  have KB : K.In (hidT s1.heap H) := fun b o e => hidT_get (KX b o e) (kb b o e)
  have M : Mod K mg (hidT s1.heap H) := ⟨KB, nsB hns, ⟨mb, nsB hb, hbb⟩, let ⟨mc, h1, h2⟩ := hlim; ⟨mc, nsB h1, h2⟩⟩
  have TB : ∀ p ∈ cs, TabB (hidT s1.heap H) mg p.1 p.2 := fun p hp => by
    have g0 := hT p hp
    refine ⟨?_, ?_, fun z => ?_⟩
    · obtain ⟨o, us, file, tf, flags, tg, inF, text, tt, e1, r1, r2, r3, r⟩ := C p hp
      refine ⟨o, us, file, tf, flags, tg, inF, text, tt, hidT_get e1 (off _ _ e1 (fun n z => ?_) fun z => ?_), r1, r2, r3, r⟩
      · rw [r2] at z
        cases z
      · rw [r2] at z
        cases z
        simp at r3
    · obtain ⟨bm, ob, b1, b2, b3, b4, b5, b6⟩ := hbm
      have nG : bm ≠ mainGlobals := fun q => by
        obtain ⟨o, es, ep, e, hd, _⟩ := hns
        rw [q, e] at b3
        cases b3
        rw [hd] at b6
        cases b6
      have nP : bm ≠ p.2 := fun q => by
        rw [q, g0] at b3
        cases b3
        cases b6
      exact ⟨bm, ob, b1, b2, nG, nP, hidT_get b3 (off _ _ b3 (fun n z => by rw [b6] at z; cases z) fun z => by rw [b6] at z; cases z), b4, b5, b6⟩
    · obtain ⟨o, es, ep, e, hd, _⟩ := hns
      rw [z, g0] at e
      cases e
      cases hd
  have env : Env0 P w K mg (hidT s1.heap H) callerA [] s1 H := ⟨rfl, M, fun b o e => of_hidT e, Nat.le_of_eq (hidT_size _ _), trivial, fun b z => absurd (show b ∈ ([] : List Addr) from z) (by simp), ok, .of_eq hg⟩
  refine codeAny_mono ((F _ KB (nsB hns) TB).go callerA rfl hr [] s1 H ⟨[.ref a], []⟩ [.ref a] [.ref a] _ _ env (hbind s1 (.ref a)) (.cons rfl .nil) (hsp H tabs sq)) fun r s' z => ?_
  match r, z with
  | .error e, z => exact (hCX H e s' z).elim
  | .ok .next, z => exact z.elim
  | .ok .brk, z => exact z.elim
  | .ok .cont, z => exact z.elim
  | .ok (.ret u), z =>
    obtain ⟨v, H', os, bare, un, ok', rv, q⟩ := z
    obtain rfl : v = .bl true := q
    obtain rfl : u = Value.bool true := rv
    have grown : ∀ p ∈ cs, ∃ more : Array Value, s'.heap.get? p.2 = some { cls := .none, data := .fields more } := fun p hp => by
      obtain ⟨more, z⟩ := un.tbls p.2 #[] (tabs p hp)
      exact ⟨_, ok' p.2 _ z⟩
    have same : ∀ b o, b ∉ ts → s1.heap.get? b = some o → s'.heap.get? b = some o := fun b o nb e => by
      cases y : H b with
      | none => exact un.keep b o e y (fun c => absurd (show b ∈ ([] : List Addr) from c) (by simp)) (by simp)
      | some u =>
        rcases at_ b u y with ⟨w1, _⟩ | ⟨rfl, _, rfl⟩
        · exact absurd w1 nb
        · rw [ha] at e
          cases e
          exact (ok' _ _ (un.frzs _ _ _ y)).1
    refine ⟨rfl, ⟨fun b o e => ?_, fun b o e => ?_⟩, os, bare⟩
    · by_cases w1 : b ∈ ts
      · have w2 := w1
        rw [hts] at w2
        obtain ⟨p, hp, ep⟩ := List.mem_map.mp w2
        obtain ⟨more, hm⟩ := grown p hp
        rw [← ep] at e ⊢
        rw [hT p hp] at e
        cases e
        exact .inr (.inl ⟨((C p hp).tab (hT p hp)).isCodeTable, rfl, #[], more, rfl, by rw [Array.empty_append]; exact hm⟩)
      · exact .inl (same b o w1 e)
    · by_cases w1 : b ∈ ts
      · rw [hts] at w1
        obtain ⟨p, hp, ep⟩ := List.mem_map.mp w1
        obtain ⟨more, hm⟩ := grown p hp
        rw [← ep]
        exact ⟨_, hm⟩
      · exact ⟨o, same b o w1 e⟩
theorem walkGT {l : PySem.W.OpenLaw} {n k : Nat} {q : Program} {loose : List Str} {XP : (Str → Option Value) → Heap → Prop} {YP : World → Heap → Prop} {d : DefRec} {K : Params → PySem.W.Frag} {x : Str} {xs : List Str}
    (hn : l.most = some n) (hn2 : n ≤ sizeLine) (hdf : d.params.defaults = []) (hr : Room k callerA) (hxs : xs.all (fun y => ((recsOf q).find? fun e => e.name == y).isSome) = true) (hY : ∀ (w : World) (h : Heap), YP w h → (K w.params).In h)
    (F : ∀ (w : World) (mg : Str → Option Value) (fa : Addr) (h : Heap), (K w.params).In h → h.Ns mainGlobals mg → mg d.name = some (.ref fa) →
      ∃ (fd : FuncData) (cs : List (Addr × Addr)) (sp : Sp), (∀ p ∈ cs, (∃ y ∈ xs, PySem.W.tabIn (K w.params) y = some p) ∧ (K w.params).lookup p.2 = none) ∧ (∀ (s : Shared) (u : Value), BindsTo s fd ⟨[u], []⟩ [(x, u)]) ∧
        (∀ (H : Hp) (a : Addr) (ns : List Int), ns.length ≤ n → (∀ p ∈ cs, H p.2 = some (.tbl #[])) → SqL (K w.params) H a (ns.map V.int) → sp [.ref a] H (fun v _ => v = .bl true) fun _ _ _ => False) ∧
        ∀ base : Heap, (K w.params).In base → base.Ns mainGlobals mg → (∀ p ∈ cs, TabB base mg p.1 p.2) → FnG l.prog w (K w.params) mg base CX0 k fa fd [x] sp) :
    PySem.W.WalkO q loose XP YP l.row.toRowW d [] (fun f vs => PySem.call f vs) :=
  Att.attach_call hn hdf fun w s0 s1 mg mb fa o pm cd doc a vs ns G Y ho hd hcd hmg hobj hints hlen hg => by
    have KX := hY w _ Y
    obtain ⟨fd, cs, sp, hc, hb, hsp, hF⟩ := F w mg fa _ KX G.T.g hmg
    have tab : ∀ p ∈ cs, PySem.W.CodeHd s1.heap p.1 p.2 ∧ s1.heap.get? p.2 = some { cls := .none, data := .fields #[] } := fun p hp => by
      obtain ⟨⟨y, hy, e⟩, _⟩ := hc p hp
      have z := List.all_eq_true.mp hxs y hy
      obtain ⟨d2, e2⟩ := Option.isSome_iff_exists.mp z
      exact PySem.W.tab_of G.T KX e2 e
    exact law_callGT KX G.T.g G.T.b G.T.builtins G.T.nolimit hg (fun p hp => (tab p hp).2) (fun p hp => (hc p hp).2) (fun p hp => (tab p hp).1) G.T.bmain hobj hints (Nat.le_trans hlen hn2) hr hF hb (fun H hT hS => hsp H a ns hlen hT hS) fun H e s' z => z
end Wn
/-! C(e) for an error whose __init__ keeps e in its one field; raise C(e) -/
namespace Wn
open PySem PySem.Spec PyProof.Rows L2
def spInit (C : Addr) (f : Str) : Sp := fun vs H Q _ => ∃ (a : Addr) (v : V), vs = [.ref a, v] ∧ H a = some (exo a C none) ∧ ∀ d, H d = none → d ≠ a → Q .non (upd (upd H d (exd d [(f, v)])) a (exo a C (some d)))
section
variable {X : Cx} {o e : Expr} {to te : TE} {f x : Str} {p p' p1 p2 pos : Pos} {C fI W : Addr} {B newId initId : String} {bmB : List Value} {mc : Value} {wn : Str}
theorem ps_ostE (T : ErrC X.K C fI f B newId initId bmB) (ho : PE X o to) (he : PE X e te) (hs : swapsWith e (some (.Attribute o f p')) pos.line X.env = pure false := by rfl) : PS X (.Assign [.Attribute o f p'] e pos) (tOstE X.K C f to te) := by
  refine ⟨fun pins s σ H D I h => plainObj_wpAny_Assign_Attribute (thn (he.run pins s σ H _ I h) fun v s1 z1 => ?_) hs⟩
  obtain ⟨y, H1, I1, r1, q1⟩ := z1
  refine thn (ho.run pins s1 σ H1 _ I1 q1) fun u s2 z2 => ?_
  obtain ⟨w, H2, I2, r2, a, ew, ea, q⟩ := z2
  subst ew
  obtain rfl : u = Value.ref a := r2
  exact ostE T I2 ea r1 fun dx s' n ne J => ⟨σ, _, J, q dx n ne⟩
/-- the built-in class's own name -/
theorem pe_initB {es : List Expr} {ta : TA} {pl : Sem Bool} (T : ErrC X.K C fI f B newId initId bmB) (hg : Gl X wn) (hm : X.mg wn = none) (hv : bootBuiltins wn = some (.type B)) (hnn : wn ≠ "__name__") (hdb : (wn == ("__debug__" : Str)) = false) (ty : typeOf (.type B) = pure (.type "type")) (stub : Manifest.isStub B = false)
    (at_ : PySem.W.findCls X.K (.type B) (.type "type") "__init__" = some (.val (.builtin initId))) (hh : PySem.W.handedIn (.builtin initId) = true) (ha : PA X (e :: es) ta)
    (hc : eval (.Call (.Attribute (.Name wn p1) "__init__" p2) (e :: es) [] pos) X.env = (do
      let ov ← eval (.Name wn p1) X.env
      standAt p2.atName
      let (f, first) ← holding [ov] (getMethod ov "__init__" pl)
      callWith pos f first (backTo pos (starEach (e :: es) X.env)) (backToKw pos (keywordEach [] X.env))) := by rfl)
    (he : starEach (e :: es) X.env = (false, eval e X.env) :: starEach es X.env := by rfl) (hpl : (backTo pos (starEach es X.env)).any (·.1) = false := by rfl) :
    PE X (.Call (.Attribute (.Name wn p1) "__init__" p2) (e :: es) [] pos) (tInitE X.K C ta) := by
  refine ⟨fun pins s σ H Q I h => ?_⟩
  refine PySem.W.methodCall_KW (ld_blt I hg hm hv ?_ hnn hdb) hc
  obtain ⟨m, fr⟩ := I.fr
  refine PySem.W.method_type fr I.ok.mod.kin ty stub at_ hh ?_
  show wpAny _ _ (callWith pos (Value.builtin initId) [] (backTo pos (starEach (e :: es) X.env)) []) _ _ _
  exact call_initE (pl := pl) T ha (I.tok _) h he hpl
end
/-- what such a making asks, once its one value is there -/
theorem mk1_go {C : Addr} {f : Str} {v : V} {H1 : Hp} {Q : XK} (h : ∀ d, H1 d = none → Q (.ref C) (some d) (upd H1 d (.xd [(f, v)]))) :
    [v].length ≤ 1000 ∧ ∀ a, H1 a = none → spInit C f (.ref a :: ([v] ++ [])) (upd H1 a (exo a C none))
      (fun u H2 => u = .non ∧ ∃ (d : Addr) (fs : List (Str × V)), H2 a = some (exo a C (some d)) ∧ H2 d = some (exd d fs) ∧ H1 d = none ∧ Q (.ref C) (some d) (upd (del H2 a) d (.xd fs))) (fun _ _ _ => False) := by
  refine ⟨by show 1 ≤ 1000; decide, fun a na => ⟨a, v, rfl, upd_same, fun d nd da => ?_⟩⟩
  have nd1 : H1 d = none := by
    rw [upd_ne da] at nd
    exact nd
  refine ⟨rfl, d, [(f, v)], upd_same, ?_, nd1, ?_⟩
  · rw [upd_ne da, upd_same]
  · have e1 : upd (del (upd (upd (upd H1 a (exo a C none)) d (exd d [(f, v)])) a (exo a C (some d))) a) d (.xd [(f, v)]) = upd H1 d (.xd [(f, v)]) := by
      funext b
      by_cases hb : b = d
      · rw [hb, upd_same, upd_same]
      · rw [upd_ne hb, upd_ne hb]
        by_cases ha : b = a
        · rw [ha, del_same, na]
        · rw [del_ne ha, upd_ne ha, upd_ne hb, upd_ne ha]
    rw [e1]
    exact h d nd1
end Wn
/-! what gives data, where lambdas are made on the way: all but the tables of code stays -/
namespace Wn
open PySem PySem.Spec PyProof.Rows L2 LamX
theorem extOf {H H' : Hp} (g : Gr [] H H') : ExtN H H' := fun b o h _ => g b o (by simp) h
theorem tabsGr {T : List (Addr × Str)} {H H' : Hp} (t : Tabs T H) (g : Gr [] H H') : Tabs T H' := fun p hp => (t p hp).ext fun b o e => g b o (by simp) e
theorem kpExt {H H' : Hp} (g : ExtN H H') : Kp H H' := ⟨fun a _ e => g a _ e (fun _ z => by cases z), fun a _ e => g a _ e (fun _ z => by cases z), fun a _ _ e => g a _ e (fun _ z => by cases z)⟩
theorem ExtN.lst {H H' : Hp} {a : Addr} {xs : List V} (g : ExtN H H') (h : H a = some (.lst xs)) : H' a = some (.lst xs) := g a _ h (fun _ z => by cases z)
theorem ExtN.tup {H H' : Hp} {a : Addr} {xs : List V} (g : ExtN H H') (h : H a = some (.tup xs)) : H' a = some (.tup xs) := g a _ h (fun _ z => by cases z)
theorem ExtN.dK {H H' : Hp} {a : Addr} {xs : List (Key × V)} (g : ExtN H H') (h : H a = some (.dK xs)) : H' a = some (.dK xs) := g a _ h (fun _ z => by cases z)
/-- what an error's outcome is: class, field, word -/
def TTg (es : List (Addr × Str × Str)) : (XK → Hp → VK → Prop) → Hp → VK → Prop := fun tl H Q =>
  ∀ (H2 : Hp) (Qn : VK) (E : XK), Gr [] H H2 → (∀ v H3, (∀ p, H3 p = none → Q (.ref p) (upd H3 p (.lst [v]))) → Qn v H3) →
    (∀ (C d : Addr) (f w : Str) (v : V) (H3 : Hp), (C, f, w) ∈ es → H3 d = some (.xd [(f, v)]) → (∀ t H4, Gr [] H3 H4 → H4 t = some (.tup [.str w, v]) → Q (.ref t) H4) → E (.ref C) (some d) H3) → tl E H2 Qn
section
variable {K : PySem.W.Frag} {T : List (Addr × Str)} {σ : L2.St} {H : Hp}
def EvT (K : PySem.W.Frag) (T : List (Addr × Str)) (te : TE) (σ : L2.St) (H : Hp) (d : PyData) : Prop := ∀ H1, ExtN H H1 → Tabs T H1 → ∀ Q : VK, (∀ v H2, ExtN H1 H2 → Tabs T H2 → Dp K H2 v d → Q v H2) → te σ H1 Q
def EvTS (K : PySem.W.Frag) (T : List (Addr × Str)) (ta : TA) (σ : L2.St) (H : Hp) (ds : List PyData) : Prop := ∀ H1, ExtN H H1 → Tabs T H1 → ∀ Q : List V → Hp → Prop, (∀ vs H2, ExtN H1 H2 → Tabs T H2 → DpAll K H2 vs ds → Q vs H2) → ta σ H1 Q
def EvTL (K : PySem.W.Frag) (T : List (Addr × Str)) (te : TE) (σ : L2.St) (H : Hp) (ds : List PyData) : Prop := ∀ H1, ExtN H H1 → Tabs T H1 → ∀ Q : VK, (∀ p xs H2, ExtN H1 H2 → Tabs T H2 → H2 p = some (.lst xs) → DpAll K H2 xs ds → Q (.ref p) H2) → te σ H1 Q
theorem EvTL.d {te : TE} {ds : List PyData} (h : EvTL K T te σ H ds) : EvT K T te σ H (.list ds) := fun H1 g t Q q => h H1 g t Q fun p xs H2 g2 t2 e a => q _ H2 g2 t2 (dp_lst e a)
/-- what makes no lambda, whatever stands -/
theorem et_of {te : TE} {d : PyData} (h : ∀ H, EvD K te σ H d) : EvT K T te σ H d := fun H1 _ t Q q => h H1 H1 (Gr.refl _ _) Q fun v H2 g2 a => q v H2 (extOf g2) (tabsGr t g2) a
theorem el_of {te : TE} {ds : List PyData} (h : ∀ H, EvL K te σ H ds) : EvTL K T te σ H ds := fun H1 _ t Q q => h H1 H1 (Gr.refl _ _) Q fun p xs H2 g2 e a => q p xs H2 (extOf g2) (tabsGr t g2) e a
theorem et_var {i : Nat} {v : V} {d : PyData} (e : σ[i]? = some (some v)) (h : Dp K H v d) : EvT K T (tVar i) σ H d := fun H1 g t Q q => ⟨v, e, q v H1 (ExtN.refl _) t (Dp.kp (kpExt g) h)⟩
theorem etl_var {i : Nat} {p : Addr} {xs : List V} {ds : List PyData} (e : σ[i]? = some (some (.ref p))) (h : H p = some (.lst xs)) (a : DpAll K H xs ds) : EvTL K T (tVar i) σ H ds :=
  fun H1 g t Q q => ⟨_, e, q p xs H1 (ExtN.refl _) t (ExtN.lst g h) (DpAll.kp (kpExt g) a)⟩
theorem ets_nil : EvTS K T tNil σ H [] := fun H1 _ t Q q => q _ H1 (ExtN.refl _) t .nil
theorem ets_cons {te : TE} {ta : TA} {d : PyData} {ds : List PyData} (h : EvT K T te σ H d) (r : EvTS K T ta σ H ds) : EvTS K T (tCons te ta) σ H (d :: ds) := fun H1 g t Q q =>
  h H1 g t _ fun v H2 g2 t2 dv => r H2 (g.trans g2) t2 _ fun vs H3 g3 t3 dvs => q _ H3 (g2.trans g3) t3 (.cons (Dp.kp (kpExt g3) dv) dvs)
theorem et_tup {ta : TA} {ds : List PyData} (h : EvTS K T ta σ H ds) (hz : ds.length ≤ 1000 := by exact Nat.le_of_ble_eq_true rfl) : EvT K T (tTup ta) σ H (.tuple ds) := fun H1 g t Q q =>
  h H1 g t _ fun vs H2 g2 t2 a => ⟨by rw [dpAll_len a]; exact Nat.le_of_lt (small1000 hz), fun p np => q _ _ (g2.trans (extOf (Gr.new np))) (tabsGr t2 (Gr.new np)) (dp_tup upd_same (DpAll.kp (Kp.of (Gr.new np)) a))⟩
theorem etl_lst {ta : TA} {ds : List PyData} (h : EvTS K T ta σ H ds) (hz : ds.length ≤ 1000 := by exact Nat.le_of_ble_eq_true rfl) : EvTL K T (tLst ta) σ H ds := fun H1 g t Q q =>
  h H1 g t _ fun vs H2 g2 t2 a => ⟨by rw [dpAll_len a]; exact Nat.le_of_lt (small1000 hz), fun p np => q _ _ _ (g2.trans (extOf (Gr.new np))) (tabsGr t2 (Gr.new np)) upd_same (DpAll.kp (Kp.of (Gr.new np)) a)⟩
theorem etl_cat {ta tb : TE} {ds es : List PyData} (h1 : EvTL K T ta σ H ds) (h2 : EvTL K T tb σ H es) (hz : ds.length + es.length ≤ 1000 := by exact Nat.le_of_ble_eq_true rfl) : EvTL K T (tOp rCat ta tb) σ H (ds ++ es) := fun H1 g t Q q =>
  h1 H1 g t _ fun p xs H2 g2 t2 e2 a2 => h2 H2 (g.trans g2) t2 _ fun p3 ys H3 g3 t3 e3 a3 => by
    have e2' := ExtN.lst g3 e2
    refine ⟨p, p3, xs, ys, rfl, rfl, e2', e3, by rw [dpAll_len a2, dpAll_len a3]; exact Nat.le_of_lt (small1000 hz), fun p4 np => ?_⟩
    exact q p4 _ _ ((g2.trans g3).trans (extOf (Gr.new np))) (tabsGr t3 (Gr.new np)) upd_same (dpAll_append (DpAll.kp (kpExt (g3.trans (extOf (Gr.new np)))) a2) (DpAll.kp (Kp.of (Gr.new np)) a3))
theorem et_eq {ta tb : TE} {d e : PyData} (h1 : EvT K T ta σ H d) (h2 : EvT K T tb σ H e) (s1 : SeqAt.shaped d = true) (s2 : SeqAt.shaped e = true) : EvT K T (tOp (rEqD K) ta tb) σ H (.bool (PyData.eqv d e)) := fun H1 g t Q q =>
  h1 H1 g t _ fun v H2 g2 t2 a => h2 H2 (g.trans g2) t2 _ fun w H3 g3 t3 b => ⟨d, e, Dp.kp (kpExt g3) a, b, s1, s2, q _ H3 (g2.trans g3) t3 (.bl _)⟩
theorem et_ne {ta tb : TE} {d e : PyData} (h1 : EvT K T ta σ H d) (h2 : EvT K T tb σ H e) (s1 : SeqAt.shaped d = true) (s2 : SeqAt.shaped e = true) : EvT K T (tOp (rNeD K) ta tb) σ H (.bool (!PyData.eqv d e)) := fun H1 g t Q q =>
  h1 H1 g t _ fun v H2 g2 t2 a => h2 H2 (g.trans g2) t2 _ fun w H3 g3 t3 b => ⟨d, e, Dp.kp (kpExt g3) a, b, s1, s2, q _ H3 (g2.trans g3) t3 (.bl _)⟩
/-- what comes of a lambda whose body gives d -/
theorem et_out {es : List (Addr × Str × Str)} {t : XK → TE} {d : PyData} (h : ∀ E H, EvD K (t E) σ H d) : EvT K T (tLam T (TTg es) t) σ H (.list [d]) := fun H1 _ t1 Q q =>
  ⟨t1, fun H2 g2 t2 H3 Qn E g3 kn _ => h E H3 H3 (Gr.refl _ _) Qn fun v H4 g4 a => kn v H4 fun p np =>
    q _ _ (g2.trans (extOf ((g3.trans g4).trans (Gr.new np)))) (tabsGr t2 ((g3.trans g4).trans (Gr.new np))) (dp_lst upd_same (.cons (Dp.kp (Kp.of (Gr.new np)) a) .nil))⟩
/-- .. whose body raises an error with the value d -/
theorem et_outE {es : List (Addr × Str × Str)} {t : XK → TE} {d : PyData} {C : Addr} {f w : Str} (hm : (C, f, w) ∈ es)
    (h : ∀ (E : XK) (H1 : Hp) (Q : VK), (∀ (dd : Addr) (v : V) H2, Gr [] H1 H2 → H2 dd = some (.xd [(f, v)]) → Dp K H2 v d → E (.ref C) (some dd) H2) → t E σ H1 Q) : EvT K T (tLam T (TTg es) t) σ H (.tuple [.str w, d]) := fun H1 _ t1 Q q =>
  ⟨t1, fun H2 g2 t2 H3 Qn E g3 _ ke => h E H3 Qn fun dd v H4 g4 hd a => ke C dd f w v H4 hm hd fun t' H5 g5 h5 =>
    q _ _ (g2.trans (extOf ((g3.trans g4).trans g5))) (tabsGr t2 ((g3.trans g4).trans g5)) (dp_tup h5 (.cons (.str _) (.cons (Dp.kp (Kp.of g5) a) .nil)))⟩
theorem stt_asgL {te : TE} {i : Nat} {ds : List PyData} {D : Ends} (t : Tabs T H) (h : EvTL K T te σ H ds) (k : ∀ p xs H2, ExtN H H2 → Tabs T H2 → H2 p = some (.lst xs) → DpAll K H2 xs ds → D.nx (σ.set i (some (.ref p))) H2) : tAsg te (gName i) D σ H := h H (ExtN.refl _) t _ k
theorem stt_retB {te : TE} {b : Bool} {D : Ends} (t : Tabs T H) (h : EvT K T te σ H (.bool b)) (k : ∀ H2, ExtN H H2 → Tabs T H2 → D.rt (.bl b) H2) : tRet te D σ H := h H (ExtN.refl _) t _ fun v H2 g t2 e => by rw [dp_bool e]; exact k H2 g t2
theorem ttt_of {te : TE} {b : Bool} {H1 : Hp} {Q : Bool → Hp → Prop} (t : Tabs T H1) (h : EvT K T te σ H (.bool b)) (g : ExtN H H1) (q : ∀ H2, ExtN H1 H2 → Tabs T H2 → Q b H2) : tTest te σ H1 Q := h H1 g t _ fun v H2 g2 t2 e => ⟨b, dp_bool e, q H2 g2 t2⟩
theorem ttb_of {te : TE} {b : Bool} {H1 : Hp} {Q : Bool → Hp → Prop} (t : Tabs T H1) (h : EvT K T te σ H (.bool b)) (g : ExtN H H1) (q : ∀ H2, ExtN H1 H2 → Tabs T H2 → Q b H2) : tB te σ H1 Q := h H1 g t _ fun v H2 g2 t2 e => ⟨b, dp_bool e, q H2 g2 t2⟩
theorem et_andV {ta tb : TE} {a b : Bool} (h1 : EvT K T ta σ H (.bool a)) (h2 : EvT K T tb σ H (.bool b)) : EvT K T (tAndV ta tb) σ H (.bool (a && b)) := fun H1 g t Q q =>
  h1 H1 g t _ fun v H2 g2 t2 e => ⟨a, dp_bool e, by
    cases a with
    | true => exact iteT (h2 H2 (g.trans g2) t2 _ fun w H3 g3 t3 e3 => q w H3 (g2.trans g3) t3 e3)
    | false => exact iteF (q _ H2 g2 t2 (.bl false))⟩
theorem et_orV {ta tb : TE} {a b : Bool} (h1 : EvT K T ta σ H (.bool a)) (h2 : EvT K T tb σ H (.bool b)) : EvT K T (tOrV ta tb) σ H (.bool (a || b)) := fun H1 g t Q q =>
  h1 H1 g t _ fun v H2 g2 t2 e => ⟨a, dp_bool e, by
    cases a with
    | true => exact iteT (q _ H2 g2 t2 (.bl true))
    | false => exact iteF (h2 H2 (g.trans g2) t2 _ fun w H3 g3 t3 e3 => q w H3 (g2.trans g3) t3 e3)⟩
end
end Wn
namespace Wn
open PySem PySem.Spec PyProof.Rows L2 LamX
theorem tabsGrM {T : List (Addr × Str)} {H H' : Hp} {d : Addr} (t : Tabs T H) (g : Gr [d] H H') (h : ∃ kvs, H d = some (.dK kvs)) : Tabs T H' := fun p hp => by
  obtain ⟨kvs, hd⟩ := h
  obtain ⟨ps, h1, h2, h3⟩ := t p hp
  refine ⟨ps, g _ _ (by simp; exact ne_of h1 hd (by intro z; cases z)) h1, h2, fun pos cv hc => ?_⟩
  obtain ⟨c, e1, e2⟩ := h3 pos cv hc
  exact ⟨c, e1, g _ _ (by simp; exact ne_of e2 hd (by intro z; cases z)) e2⟩
theorem tabs0 {T : List (Addr × Str)} {H : Hp} (h : ∀ p ∈ T, H p.1 = some (.tbl #[])) : Tabs T H := fun p hp =>
  ⟨#[], h p hp, by trivial, fun pos cv hc => by cases hc⟩
def tInts : List Int → TA
  | [] => tNil
  | i :: r => tCons (tC (.int i)) (tInts r)
theorem tInts_go {σ : L2.St} {H : Hp} : ∀ {is : List Int} {Q : List V → Hp → Prop}, Q (is.map V.int) H → tInts is σ H Q
  | [], _, q => q
  | i :: r, Q, q => tInts_go (is := r) (Q := fun vs H2 => Q (.int i :: vs) H2) q
section
variable {K : PySem.W.Frag} {T : List (Addr × Str)} {σ : L2.St} {H : Hp}
theorem ev_powN {a c : Nat} (h : CPow a c) : EvD K (tOp (rI CPow fun i j => .int (i ^ j.toNat)) (tC (.int (a : Nat))) (tC (.int (c : Nat)))) σ H (.int ((a ^ c : Nat) : Int)) := fun H1 _ Q q => ⟨a, c, rfl, rfl, h, by
  have e : ((a : Nat) : Int) ^ ((c : Nat) : Int).toNat = ((a ^ c : Nat) : Int) := by rw [Int.toNat_natCast, Int.natCast_pow]
  show Q (.int (((a : Nat) : Int) ^ ((c : Nat) : Int).toNat)) H1
  rw [e]
  exact q _ H1 (Gr.refl _ _) (.int _)⟩
theorem ev_pow {a c : Int} (h : CPow a c) : EvD K (tOp (rI CPow fun i j => .int (i ^ j.toNat)) (tC (.int a)) (tC (.int c))) σ H (.int (a ^ c.toNat)) := fun H1 _ Q q => ⟨a, c, rfl, rfl, h, q _ H1 (Gr.refl _ _) (.int _)⟩
end
end Wn
namespace Wn
open PySem PySem.Spec PyProof.Rows L2
theorem tab_mk {K : PySem.W.Frag} {x : Str} {f c P : Addr} {oc c1 : Value} {od d1 : Option Addr} {fd : FuncData} {sl s1 : Array (Option Value)} {vs : Array Value} (a : PySem.W.nsIn K mainGlobals x = some (some (.ref f))) (l : K.lookup f = some ⟨oc, od, .func fd, sl⟩) (e : fd.code = .ref c)
    (l2 : K.lookup c = some ⟨c1, d1, .fields vs, s1⟩) (h : vs[11]? = some (.ref P)) : PySem.W.tabIn K x = some (c, P) := by
  unfold PySem.W.tabIn
  rw [a]
  dsimp only
  rw [l]
  dsimp only
  rw [e]
  dsimp only
  rw [l2]
  dsimp only
  rw [h]
end Wn
namespace Wn
open PySem PySem.Spec PyProof.Rows L2 LamX
section
variable {K : PySem.W.Frag} {T : List (Addr × Str)} {σ : L2.St} {H : Hp} {es : List (Addr × Str × Str)} {t : XK → TE} {d : PyData}
/-- .. over what stands here -/
theorem et_outV (h : ∀ (E : XK) (H1 : Hp), ExtN H H1 → ∀ Q : VK, (∀ v H2, Gr [] H1 H2 → Dp K H2 v d → Q v H2) → t E σ H1 Q) : EvT K T (tLam T (TTg es) t) σ H (.list [d]) := fun H1 g0 t1 Q q =>
  ⟨t1, fun H2 g2 t2 H3 Qn E g3 kn _ => h E H3 ((g0.trans g2).trans (extOf g3)) Qn fun v H4 g4 a => kn v H4 fun p np =>
    q _ _ (g2.trans (extOf ((g3.trans g4).trans (Gr.new np)))) (tabsGr t2 ((g3.trans g4).trans (Gr.new np))) (dp_lst upd_same (.cons (Dp.kp (Kp.of (Gr.new np)) a) .nil))⟩
theorem et_outX {C : Addr} {f w : Str} (hm : (C, f, w) ∈ es)
    (h : ∀ (E : XK) (H1 : Hp), ExtN H H1 → ∀ (Q : VK), (∀ (dd : Addr) (v : V) H2, Gr [] H1 H2 → H2 dd = some (.xd [(f, v)]) → Dp K H2 v d → E (.ref C) (some dd) H2) → t E σ H1 Q) : EvT K T (tLam T (TTg es) t) σ H (.tuple [.str w, d]) := fun H1 g0 t1 Q q =>
  ⟨t1, fun H2 g2 t2 H3 Qn E g3 _ ke => h E H3 ((g0.trans g2).trans (extOf g3)) Qn fun dd v H4 g4 hd a => ke C dd f w v H4 hm hd fun t' H5 g5 h5 =>
    q _ _ (g2.trans (extOf ((g3.trans g4).trans g5))) (tabsGr t2 ((g3.trans g4).trans g5)) (dp_tup h5 (.cons (.str _) (.cons (Dp.kp (Kp.of g5) a) .nil)))⟩
theorem EvT.on {te : TE} {H' : Hp} (h : EvT K T te σ H d) (g : ExtN H H') : EvT K T te σ H' d := fun H1 g1 t1 Q q => h H1 (g.trans g1) t1 Q q
end
end Wn
namespace Wn
open PySem PySem.Spec PyProof.Rows L2 LamX
section
variable {K : PySem.W.Frag} {T : List (Addr × Str)} {σ : L2.St} {H : Hp}
/-- the first part of «or» in a test, false -/
theorem ttt_orL {te : TE} {u : TT} {b : Bool} {Q : Bool → Hp → Prop} (t : Tabs T H) (h : EvT K T te σ H (.bool b)) (hb : b = false) (q : ∀ H2, ExtN H H2 → Tabs T H2 → u σ H2 Q) : tOr (tTest te) u σ H Q := h H (ExtN.refl _) t _ fun v H2 g2 t2 e => ⟨b, dp_bool e, iteFb hb (q H2 g2 t2)⟩
end
end Wn
namespace Wn
open PySem PySem.Spec PyProof.Rows L2
/-! a list grown: data in which no list of its size stands, stay -/
mutual
def noLen (n : Nat) : PyData → Bool
  | .list xs => decide (xs.length ≠ n) && noLenAll n xs
  | .tuple xs => noLenAll n xs
  | _ => true
def noLenAll (n : Nat) : List PyData → Bool
  | [] => true
  | x :: xs => noLen n x && noLenAll n xs
end
mutual
theorem Dp.app {K : PySem.W.Frag} {H : Hp} {l : Addr} {xs : List V} {y : V} (h : H l = some (.lst xs)) : ∀ {v : V} {d : PyData}, Dp K H v d → noLen xs.length d = true → Dp K (upd H l (.lst (xs ++ [y]))) v d
  | _, _, .non, _ => .non
  | _, _, .bl b, _ => .bl b
  | _, _, .int i, _ => .int i
  | _, _, .str z, _ => .str z
  | _, _, .lst (a := a) (xs := zs) (ds := ds) s t, n => by
    rw [noLen, Bool.and_eq_true, decide_eq_true_eq] at n
    have hl := dpAll_len t
    refine .lst ?_ (DpAll.app h t n.2)
    rcases s with (s | ⟨o, s⟩) | s
    · by_cases e : a = l
      · subst e
        rw [h] at s
        cases s
        exact absurd hl.symm n.1
      · exact .inl (.inl (by rw [upd_ne e]; exact s))
    · exact .inl (.inr ⟨o, by rw [upd_ne (fun e => by rw [e, h] at s; cases s)]; exact s⟩)
    · exact .inr s
  | _, _, .tup (a := a) (xs := zs) (ds := ds) s t, n => by
    rw [noLen] at n
    refine .tup ?_ (DpAll.app h t n)
    rcases s with (s | ⟨o, s⟩) | s
    · exact .inl (.inl (by rw [upd_ne (fun e => by rw [e, h] at s; cases s)]; exact s))
    · exact .inl (.inr ⟨o, by rw [upd_ne (fun e => by rw [e, h] at s; cases s)]; exact s⟩)
    · exact .inr s
theorem DpAll.app {K : PySem.W.Frag} {H : Hp} {l : Addr} {xs : List V} {y : V} (h : H l = some (.lst xs)) : ∀ {vs : List V} {ds : List PyData}, DpAll K H vs ds → noLenAll xs.length ds = true → DpAll K (upd H l (.lst (xs ++ [y]))) vs ds
  | _, _, .nil, _ => .nil
  | _, _, .cons a b, n => by
    rw [noLenAll, Bool.and_eq_true] at n
    exact .cons (Dp.app h a n.1) (DpAll.app h b n.2)
end
/-- the tables stay where a list grows -/
theorem tabsApp {T : List (Addr × Str)} {H : Hp} {l : Addr} {xs ys : List V} (t : LamX.Tabs T H) (h : H l = some (.lst xs)) : LamX.Tabs T (upd H l (.lst ys)) := fun p hp => by
  obtain ⟨ps, h1, h2, h3⟩ := t p hp
  refine ⟨ps, by rw [upd_ne (ne_of h1 h (by intro z; cases z))]; exact h1, h2, fun pos cv hc => ?_⟩
  obtain ⟨c, e1, e2⟩ := h3 pos cv hc
  exact ⟨c, e1, by rw [upd_ne (ne_of e2 h (by intro z; cases z))]; exact e2⟩
end Wn
namespace Wn
open PySem PySem.Spec PyProof.Rows L2 LamX
section
variable {K : PySem.W.Frag} {T : List (Addr × Str)} {σ : L2.St} {H : Hp}
theorem noLenAll_app (n : Nat) : ∀ xs ys : List PyData, noLenAll n (xs ++ ys) = (noLenAll n xs && noLenAll n ys)
  | [], ys => by simp [noLenAll]
  | x :: xs, ys => by
    have ih := noLenAll_app n xs ys
    show noLenAll n (x :: (xs ++ ys)) = _
    rw [noLenAll, noLenAll, ih, Bool.and_assoc]
/-- l.append(e) -/
theorem stt_app {te : TE} {i : Nat} {l : Addr} {xs : List V} {ds : List PyData} {d : PyData} {D : Ends} (t : Tabs T H) (hi : σ[i]? = some (some (.ref l))) (e : H l = some (.lst xs)) (a : DpAll K H xs ds) (h : EvT K T te σ H d) (hn : noLenAll ds.length (ds ++ [d]) = true) (hz : ds.length < 1000)
    (k : ∀ ys H2, Tabs T H2 → H2 l = some (.lst ys) → DpAll K H2 ys (ds ++ [d]) → D.nx σ H2) : tDrop (tBM K "list" rAppend (tVar i) (tCons te tNil)) D σ H := by
  refine ⟨_, hi, .inl ⟨rfl, _, sq_lst e⟩, ?_⟩
  refine h H (ExtN.refl _) t _ fun v H2 g2 t2 dv => ?_
  have hl := dpAll_len a
  have e2 := ExtN.lst g2 e
  have a2 := DpAll.kp (kpExt g2) a
  rw [noLenAll_app, Bool.and_eq_true] at hn
  have n2 : noLen ds.length d = true := by
    have := hn.2
    rw [noLenAll, Bool.and_eq_true] at this
    exact this.1
  refine ⟨l, xs, v, rfl, rfl, e2, Nat.lt_of_lt_of_le (show xs.length < 6000 by omega) (by decide), ?_⟩
  refine k (xs ++ [v]) _ (tabsApp t2 e2) upd_same (dpAll_append (DpAll.app e2 a2 (by rw [hl]; exact hn.1)) (.cons (Dp.app e2 dv (by rw [hl]; exact n2)) .nil))
theorem stt_set {te : TE} {i : Nat} {d : PyData} {D : Ends} (t : Tabs T H) (h : EvT K T te σ H d) (k : ∀ v H2, ExtN H H2 → Tabs T H2 → Dp K H2 v d → D.nx (σ.set i (some v)) H2) : tAsg te (gName i) D σ H := h H (ExtN.refl _) t _ k
theorem et_repr {te : TE} {d : PyData} (h : EvT K T te σ H d) (f : Fits d) : EvT K T (tCB (rRepr K) (tCons te tNil)) σ H (.str d.shown) := fun H1 g t Q q =>
  h H1 g t _ fun v H2 g2 t2 a => ⟨v, d, rfl, a, f, q _ H2 g2 t2 (.str _)⟩
/-- two texts compared -/
theorem et_eqS {ta tb : TE} {x y : Str} (h1 : EvT K T ta σ H (.str x)) (h2 : EvT K T tb σ H (.str y)) : EvT K T (tOp rEq ta tb) σ H (.bool (decide (x = y))) := fun H1 g t Q q =>
  h1 H1 g t _ fun v H2 g2 t2 a => h2 H2 (g.trans g2) t2 _ fun w H3 g3 t3 b => by
    have e1 : v = .str x := by cases a; rfl
    have e2 : w = .str y := by cases b; rfl
    subst e1 e2
    refine ⟨rfl, ?_⟩
    have e3 : decide (V.str x = V.str y) = decide (x = y) := by
      rw [decide_eq_decide]
      exact ⟨fun z => V.str.inj z, fun z => by rw [z]⟩
    show Q (.bl (decide (V.str x = V.str y))) H3
    rw [e3]
    exact q _ H3 (g2.trans g3) t3 (.bl _)
end
end Wn
namespace Wn
open PySem PySem.Spec PyProof.Rows L2
local macro_rules | `(tactic| walk_at "vc") => `(tactic| simp only [cxK, cxK2, start1, start2, start3, tRet, tRetN, tSeq, tNext, tIfS, tAsg, gName, tDrop, tVar, tC, tOp, tUn, tTest, tB, tNot, tAnd, tOr, tAndV, tOrV, tNotV, tIf, tCons, tNil, tCB, tCall, tChain, tAug, ipI, rI, rI0, rU, rIs, rGcd, rEq, rNe, scal,
  List.getElem?_cons_zero, List.getElem?_cons_succ, List.set_cons_zero, List.set_cons_succ, Option.some.injEq, List.cons.injEq, V.int.injEq, V.bl.injEq, V.ref.injEq, V.str.injEq, and_true, true_and, exists_eq_left, exists_eq_left', exists_and_left, exists_and_right, List.append_nil, List.nil_append, List.cons_append, exists_eq_right, exists_eq_right', and_assoc, exists_const, V.ty.injEq, ↓reduceIte, Bool.false_eq_true, Bool.not_true, Bool.not_false, decide_eq_true_eq])

section
variable {P : Program} {w : World} {K : PySem.W.Frag} {mg : Str → Option Value} {base : Heap}

def dgi (b n x lo c : Nat) : List Int := (List.range c).map fun i => ((rem b n x (lo + i) * b / n : Nat) : Int)
theorem dgf_eq (b n x lo c : Nat) : dgf b n x lo c = (dgi b n x lo c).map V.int := by
  unfold dgf dgi
  rw [List.map_map]
  rfl
def xd (b n x h L : Nat) : PyData := .tuple [.tuple ((dgi b n x 0 h).map PyData.int), .tuple ((dgi b n x h L).map PyData.int)]
theorem Exp.dp {H : Hp} {t : Addr} {b x n h L : Nat} (E : Exp H t b x n h L) : Dp K H (.ref t) (xd b n x h L) := by
  obtain ⟨a, c, h1, h2, h3⟩ := E.at_
  rw [dgf_eq] at h2 h3
  exact dp_tup h1 (.cons (dp_tup h2 (dpAll_ints _)) (.cons (dp_tup h3 (dpAll_ints _)) .nil))
theorem Exp.kp {H H' : Hp} {t : Addr} {b x n h L : Nat} (k : Kp H H') (E : Exp H t b x n h L) : Exp H' t b x n h L := by
  obtain ⟨a, c, h1, h2, h3⟩ := E.at_
  exact ⟨a, c, k.2.1 _ _ h1, k.2.1 _ _ h2, k.2.1 _ _ h3⟩
theorem dgi_lt {b n x lo c : Nat} {z : Int} (hn : 1 ≤ n) (h : z ∈ dgi b n x lo c) : ∃ k : Nat, z = (k : Int) ∧ k < b ∨ z = 0 := by
  obtain ⟨i, _, rfl⟩ := List.mem_map.mp h
  have hl := rem_lt (b := b) (n := n) (x := x) (i := lo + i) hn
  rcases Nat.eq_zero_or_pos b with z0 | z0
  · exact ⟨0, .inr (by rw [z0, Nat.mul_zero, Nat.zero_div]; rfl)⟩
  · refine ⟨_, .inl ⟨rfl, ?_⟩⟩
    rw [Nat.div_lt_iff_lt_mul hn, Nat.mul_comm b]
    exact Nat.mul_lt_mul_of_pos_right hl z0
theorem sm_dgi {b n x lo c : Nat} (hn : 1 ≤ n) (hb : b ≤ 1000) (hc : c ≤ 5000) : Sm (.tuple ((dgi b n x lo c).map PyData.int)) 13 1 55000 := by
  refine Sm.tup (W := 10) 5000 (fun d hd => ?_) (by unfold dgi; rw [List.length_map, List.length_map, List.length_range]; exact hc)
  obtain ⟨z, hz, rfl⟩ := List.mem_map.mp hd
  refine Sm.int (by decide) ?_ (by decide)
  obtain ⟨k, ⟨rfl, h⟩ | rfl⟩ := dgi_lt hn hz
  · rw [Int.natAbs_natCast]
    exact Nat.lt_of_lt_of_le h (Nat.le_trans hb (by decide))
  · decide
theorem sm_xd {b n x h L : Nat} (hn : 1 ≤ n) (hb : b ≤ 1000) (h1 : h ≤ 5000) (h2 : L ≤ 5000) : Sm (xd b n x h L) 13 2 110002 := by
  refine Sm.tup (W := 55000) 2 (fun d hd => ?_) (Nat.le_refl _)
  simp only [List.mem_cons, List.not_mem_nil, or_false] at hd
  rcases hd with rfl | rfl
  · exact sm_dgi hn hb h1
  · exact sm_dgi hn hb h2
theorem sm_part {x n : Nat} (hx : x < n) (hn : n ≤ 5000) : Sm (.tuple [.int (x : Int), .int (n : Int)]) 13 1 28 := by
  refine Sm.tup (W := 13) 2 (fun d hd => ?_) (Nat.le_refl _)
  simp only [List.mem_cons, List.not_mem_nil, or_false] at hd
  rcases hd with rfl | rfl
  · exact Sm.int (by decide) (by rw [Int.natAbs_natCast]; exact Nat.lt_of_lt_of_le hx (Nat.le_trans hn (by decide))) (by decide)
  · exact Sm.int (by decide) (by rw [Int.natAbs_natCast]; exact Nat.lt_of_le_of_lt hn (by decide)) (by decide)
theorem dgi_len (b n x lo c : Nat) : (dgi b n x lo c).length = c := by simp [dgi]

end

/-! what is so of written bases and denominators -/
def perB (b p d : Nat) : Bool := decide (1 ≤ d) && b ^ d % p == 1 % p && (List.range d).all fun j => j == 0 || b ^ j % p != 1 % p
theorem per_of {b p d : Nat} (h : perB b p d = true) : IsPer b p d := by
  unfold perB at h
  rw [Bool.and_eq_true, Bool.and_eq_true, decide_eq_true_eq, beq_iff_eq, List.all_eq_true] at h
  obtain ⟨⟨h1, h2⟩, h3⟩ := h
  refine ⟨h1, h2, fun j j1 jd => ?_⟩
  have := h3 j (List.mem_range.mpr jd)
  rw [Bool.or_eq_true, beq_iff_eq, bne_iff_ne] at this
  rcases this with z | z
  · omega
  · exact z
def headB (b q h : Nat) : Bool := b ^ h % q == 0 && (List.range h).all fun j => b ^ j % q != 0
theorem head_of {b q h : Nat} (e : headB b q h = true) : IsHead b q h := by
  unfold headB at e
  rw [Bool.and_eq_true, beq_iff_eq, List.all_eq_true] at e
  refine ⟨e.1, fun j jd => ?_⟩
  have := e.2 j (List.mem_range.mpr jd)
  rw [bne_iff_ne] at this
  exact this
def parB (b n p q h L : Nat) : Bool := Nat.gcd b p == 1 && n == p * q && b ^ h % q == 0 && headB b q h && perB b p L
theorem par_of {b n p q h L : Nat} (e : parB b n p q h L = true) : Par b n p q h L := by
  unfold parB at e
  rw [Bool.and_eq_true, Bool.and_eq_true, Bool.and_eq_true, Bool.and_eq_true, beq_iff_eq, beq_iff_eq, beq_iff_eq] at e
  obtain ⟨⟨⟨⟨h1, h2⟩, h3⟩, h4⟩, h5⟩ := e
  exact ⟨⟨h1, q, h, h2, Nat.dvd_of_mod_eq_zero h3⟩, h2, head_of h4, per_of h5⟩
section
variable {K : PySem.W.Frag} {σ : L2.St} {H : Hp} {b x n p q h L : Nat}
theorem ev_per (P : Par b n p q h L) (g : BN b n) : EvD K (tCall sp_period [] E0 (tCons (tC (.int (b : Nat))) (tCons (tC (.int (n : Nat))) tNil))) σ H (.int (L : Nat)) := fun H1 _ Q q0 =>
  ⟨b, n, rfl, g, fun p' d h1 h2 => by
    have e := h1.uniq P.hp
    subst e
    rw [h2.uniq P.hL]
    exact q0 _ H1 (Gr.refl _ _) (.int _)⟩
theorem ev_head (P : Par b n p q h L) (g : BN b n) : EvD K (tCall sp_head_size [] E0 (tCons (tC (.int (b : Nat))) (tCons (tC (.int (n : Nat))) tNil))) σ H (.int (h : Nat)) := fun H1 _ Q q0 =>
  ⟨b, n, rfl, g, fun p' q' d h1 h2 h3 => by
    have e := h1.uniq P.hp
    subst e
    have e2 : q' = q := Nat.eq_of_mul_eq_mul_left (P.p1 g.2.2.1) (h2.symm.trans P.e)
    subst e2
    rw [h3.uniq P.hh]
    exact q0 _ H1 (Gr.refl _ _) (.int _)⟩
theorem ev_pure (P : Par b n p q h L) (g : BN b n) : EvD K (tCall sp_pure_part [] E0 (tCons (tC (.int (b : Nat))) (tCons (tC (.int (n : Nat))) tNil))) σ H (.int (p : Nat)) := fun H1 _ Q q0 =>
  ⟨b, n, rfl, g, fun p' h1 => by
    have e := h1.uniq P.hp
    subst e
    exact q0 _ H1 (Gr.refl _ _) (.int _)⟩
theorem ev_exp (P : Par b n p q h L) (g : BN b n) (hx : x < n) (gx : Nat.gcd x n = 1) :
    EvD K (tCall sp_expansion [] E0 (tCons (tC (.int (b : Nat))) (tCons (tTup (tCons (tC (.int (x : Nat))) (tCons (tC (.int (n : Nat))) tNil))) tNil))) σ H (xd b n x h L) := fun H1 _ Q q0 =>
  ⟨by show 2 ≤ sizeLine; decide, fun a na => ⟨b, x, n, a, rfl, upd_same, ⟨g, hx, gx⟩, fun p' q' h' L' t H2 h1 h2 h3 h4 g2 E => by
    have e := h1.uniq P.hp
    subst e
    have e2 : q' = q := Nat.eq_of_mul_eq_mul_left (P.p1 g.2.2.1) (h2.symm.trans P.e)
    subst e2
    have e3 := h3.uniq P.hh
    subst e3
    have e4 := h4.uniq P.hL
    subst e4
    exact q0 _ H2 ((Gr.new na).trans g2) E.dp⟩⟩
end

section
variable {P : Program} {w : World} {K : PySem.W.Frag} {mg : Str → Option Value} {base : Heap}

def qd (b n x k c : Nat) : PyData := if restSum b n x k c % n = 0 then .int (restSum b n x k c / n : Nat) else .none
def rotD (b n x y L : Nat) : PyData := if topI b n x y L < L then .int (topI b n x y L : Nat) else .none
theorem dpAll_get {H : Hp} : ∀ {vs : List V} {ds : List PyData} {j : Nat} {d : PyData}, DpAll K H vs ds → ds[j]? = some d → ∃ v, vs[j]? = some v ∧ Dp K H v d
  | _, _, j, _, .nil, h => by simp at h
  | v :: vs, d :: ds, 0, e, .cons a b, h => by
    have : d = e := by simpa using h
    subst this
    exact ⟨v, rfl, a⟩
  | v :: vs, d :: ds, j + 1, e, .cons a b, h => by
    obtain ⟨z, h1, h2⟩ := dpAll_get b (j := j) (by simpa using h)
    exact ⟨z, by simpa using h1, h2⟩
theorem dpAll_vn {H : Hp} : ∀ {ys : List V} {xs : List Nat}, DpAll K H ys ((ni xs).map PyData.int) → ys = vn xs
  | _, [], .nil => rfl
  | _, x :: xs, .cons a b => by
    rw [dp_int a, dpAll_vn b]
    rfl
theorem dp_qv {H : Hp} (b n x k c : Nat) : Dp K H (qv b n x k c) (qd b n x k c) := by
  unfold qv qd
  split
  · exact .int _
  · exact .non
theorem dpAll_qv {H : Hp} (b n k c : Nat) : ∀ is : List Nat, DpAll K H (is.map fun x => qv b n x k c) (is.map fun x => qd b n x k c)
  | [] => .nil
  | x :: is => .cons (dp_qv b n x k c) (dpAll_qv b n k c is)
theorem rotD_dp {H : Hp} (b n x y L : Nat) : Dp K H (rotV b n x y L) (rotD b n x y L) := by
  unfold rotV rotD
  split
  · exact .int _
  · exact .non
end
section
variable {K : PySem.W.Frag} {σ : L2.St} {H : Hp} {b n L x y k c : Nat}
theorem ev_pcs (f : PF b x n) (C : CT b n L k c) : EvD K (tCall sp_pieces [] E0 (tCons (tC (.int (b : Nat))) (tCons (tTup (tCons (tC (.int (x : Nat))) (tCons (tC (.int (n : Nat))) tNil))) (tCons (tC (.int (c : Nat))) tNil)))) σ H (di (pcs b n x k c)) := fun H1 g Q q =>
  ⟨by show 2 ≤ sizeLine; decide, fun a na => ⟨b, x, n, L, k, c, a, rfl, upd_same, f, C, fun t H2 g2 h2 => q _ H2 ((Gr.new na).trans g2) (dp_vnT h2)⟩⟩
theorem ev_quot (f : PF b x n) (C : CT b n L k c) : EvD K (tCall sp_quotient [] E0 (tCons (tC (.int (b : Nat))) (tCons (tTup (tCons (tC (.int (x : Nat))) (tCons (tC (.int (n : Nat))) tNil))) (tCons (tC (.int (c : Nat))) tNil)))) σ H (qd b n x k c) := fun H1 g Q q =>
  ⟨by show 2 ≤ sizeLine; decide, fun a na => ⟨b, x, n, L, k, c, a, rfl, upd_same, f, C, fun H2 g2 => q _ H2 ((Gr.new na).trans g2) (dp_qv b n x k c)⟩⟩
theorem ev_cuts (h : BN b n) (hg : Nat.gcd b n = 1) (hP : IsPer b n L) : EvD K (tCall sp_cuts [] E0 (tCons (tC (.int (b : Nat))) (tCons (tC (.int (n : Nat))) tNil))) σ H (di (dueL b n L)) := fun H1 g Q q =>
  ⟨b, n, L, rfl, h, hg, hP, fun t H2 g2 h2 => q _ H2 g2 (dp_vnT h2)⟩
theorem ev_wheels (h : BN b n) (hg : Nat.gcd b n = 1) (hP : IsPer b n L) : EvD K (tCall sp_wheels [] E0 (tCons (tC (.int (b : Nat))) (tCons (tC (.int (n : Nat))) tNil))) σ H (di (wl b n L)) := fun H1 g Q q =>
  ⟨b, n, L, rfl, h, hg, hP, fun t H2 g2 h2 => q _ H2 g2 (dp_vnT h2)⟩
theorem ev_wheel (f : PF b x n) (hP : IsPer b n L) : EvD K (tCall sp_wheel [] E0 (tCons (tC (.int (b : Nat))) (tCons (tTup (tCons (tC (.int (x : Nat))) (tCons (tC (.int (n : Nat))) tNil))) tNil))) σ H (di (rl b n x L)) := fun H1 g Q q =>
  ⟨by show 2 ≤ sizeLine; decide, fun a na => ⟨b, x, n, L, a, rfl, upd_same, f, hP, fun t H2 g2 h2 => q _ H2 ((Gr.new na).trans g2) (dp_vnT h2)⟩⟩
theorem ev_isbal (h : BN b n) (hg : Nat.gcd b n = 1) (h2 : 2 ≤ n) (C : CT b n L k c) : EvD K (tCall sp_is_balanced [] E0 (tCons (tC (.int (b : Nat))) (tCons (tC (.int (n : Nat))) (tCons (tC (.int (c : Nat))) tNil)))) σ H (.bool (bal b n k c)) := fun H1 g Q q =>
  ⟨b, n, L, k, c, rfl, h, hg, h2, C, fun H2 g2 => q _ H2 g2 (.bl _)⟩
theorem ev_paper {r : Nat × Nat} {rs : List (Nat × Nat)} (h : BN b n) (hg : Nat.gcd b n = 1) (h2 : 2 ≤ n) (C : CT b n L k c) (hb : bal b n k c = false) (hf : (ppL n).filter (shw b n k c) = r :: rs) :
    EvD K (tCall sp_balance_paper [] E0 (tCons (tC (.int (b : Nat))) (tCons (tC (.int (n : Nat))) (tCons (tC (.int (c : Nat))) tNil)))) σ H (.tuple [.str "unbalanced", .int (r.1 : Nat), .int (r.2 : Nat)]) := fun H1 g Q q =>
  ⟨b, n, L, k, c, rfl, h, hg, h2, C, fun z => absurd (hb.symm.trans z) (by decide), fun _ => ⟨r, rs, hf, fun t H2 g2 h2 => q _ H2 g2 (dp_tup h2 (.cons (.str _) (.cons (.int _) (.cons (.int _) .nil))))⟩⟩
theorem ev_rotation (f : PF b x n) (f2 : PF b y n) (hP : IsPer b n L) : EvD K (tCall sp_rotation [] E0 (tCons (tC (.int (b : Nat))) (tCons (tTup (tCons (tC (.int (x : Nat))) (tCons (tC (.int (n : Nat))) tNil))) (tCons (tTup (tCons (tC (.int (y : Nat))) (tCons (tC (.int (n : Nat))) tNil))) tNil)))) σ H (rotD b n x y L) := fun H1 g Q q =>
  ⟨by show 2 ≤ sizeLine; decide, fun a na => ⟨by show 2 ≤ sizeLine; decide, fun c nc =>
    ⟨b, x, y, n, L, a, c, rfl, by rw [upd_ne (ne_of_none upd_same nc)]; exact upd_same, upd_same, f, f2, hP, fun H2 g2 => q _ H2 (((Gr.new na).trans (Gr.new nc)).trans g2) (rotD_dp b n x y L)⟩⟩⟩
theorem dgf_di (b n x lo c : Nat) : dgf b n x lo c = vn (dg b n x lo c) := dgf_vn b n x lo c
theorem ev_dfrom (h : BN b n) (hx : x < n) (hg : Nat.gcd x n = 1) (hk : k ≤ 10 ^ 30) (hc : c ≤ 400) : EvD K (tCall sp_digits_from [] E0 (tCons (tC (.int (b : Nat))) (tCons (tTup (tCons (tC (.int (x : Nat))) (tCons (tC (.int (n : Nat))) tNil))) (tCons (tC (.int (k : Nat))) (tCons (tC (.int (c : Nat))) tNil))))) σ H (di (dg b n x k c)) := fun H1 g Q q =>
  ⟨by show 2 ≤ sizeLine; decide, fun a na => ⟨b, x, n, k, c, a, rfl, upd_same, ⟨h, hx, hg⟩, ⟨hk, hc⟩, fun t H2 g2 h2 => q _ H2 ((Gr.new na).trans g2) (dp_vnT (by rw [← dgf_vn]; exact h2))⟩⟩
/-- t[j] -/
theorem ev_ixT {te : TE} {ds : List PyData} {d : PyData} {j : Nat} (h : EvD K te σ H (.tuple ds)) (hj : ds[j]? = some d) : EvD K (tOp (rIxT K) te (tC (.int (j : Nat)))) σ H d := fun H1 g Q q =>
  h H1 g _ fun v H2 g2 e => by
    cases e with
    | @tup a xs _ s t =>
      obtain ⟨z, hz, dz⟩ := dpAll_get t hj
      exact ⟨a, xs, _, z, rfl, rfl, s, atI_nat hz, q _ H2 g2 dz⟩
/-- t[:j] of a tuple of numbers -/
theorem ev_slT {te : TE} {xs : List Nat} {j : Nat} (h : EvD K te σ H (di xs)) (hj : j ≤ xs.length) : EvD K (tSl (rSlA K) te tNoPart (tPart (tC (.int (j : Nat))))) σ H (di (xs.take j)) := fun H1 g Q q =>
  h H1 g _ fun v H2 g2 e => by
    unfold di at e
    cases e with
    | @tup a ys _ s t =>
      have ey := dpAll_vn t
      subst ey
      refine ⟨(j : Int), rfl, a, vn xs, rfl, s, fun z => ?_, fun _ p np => ?_⟩
      · have e1 := z.2
        rw [HT.sIx_nat, vn_len] at e1
        have e2 : xs.take j = xs := List.take_of_length_le (by omega)
        refine q _ H2 g2 ?_
        rw [e2]
        refine .tup s ?_
        rw [vn_ni]
        exact dpAll_ints _
      · refine q _ _ (g2.trans (Gr.new np)) (dp_vnT ?_)
        rw [upd_same, cut_lo (by rw [vn_len]; exact hj), vn_take]
theorem ev_exp1 (P : Par b n n 1 0 L) (g : BN b n) (hx : x < n) (gx : Nat.gcd x n = 1) :
    EvD K (tOp (rIxT K) (tCall sp_expansion [] E0 (tCons (tC (.int (b : Nat))) (tCons (tTup (tCons (tC (.int (x : Nat))) (tCons (tC (.int (n : Nat))) tNil))) tNil))) (tC (.int (1 : Nat)))) σ H (di (dg b n x 0 L)) := by
  refine ev_ixT (ev_exp P g hx gx) ?_
  show some (PyData.tuple _) = _
  unfold di ni dg dgi
  rw [List.map_map, List.map_map, List.map_map]
  rfl
theorem tt_orL {te : TE} {u : TT} {bb : Bool} {Q : Bool → Hp → Prop} (h : EvD K te σ H (.bool bb)) (hb : bb = false) (q : ∀ H2, Gr [] H H2 → u σ H2 Q) : tOr (tTest te) u σ H Q := h H (Gr.refl _ _) _ fun v H2 g2 e => ⟨bb, dp_bool e, iteFb hb (q H2 g2)⟩
theorem tt_orN {te : TE} {u : TT} {bb : Bool} {Q : Bool → Hp → Prop} (h : EvD K te σ H (.bool bb)) (hb : bb = true) (q : ∀ H2, Gr [] H H2 → u σ H2 Q) : tOr (tNot (tB te)) u σ H Q := h H (Gr.refl _ _) _ fun v H2 g2 e => ⟨bb, dp_bool e, iteFb (by rw [hb]; rfl) (q H2 g2)⟩
theorem ev_cyc {i : Nat} {a : Addr} {ds : List Nat} (hi : σ[i]? = some (some (.ref a))) (ha : H a = some (.tup (vn ds))) (hD : DG b ds) (hl : ds.length < 64) : EvD K (tCall sp_is_cyclic [] E0 (tCons (tC (.int (b : Nat))) (tCons (tVar i) tNil))) σ H (.bool (cycB b ds)) := fun H1 g Q q =>
  ⟨_, hi, a, b, ds, rfl, g a _ (by simp) ha, hD, by omega, fun hv => few_len hv hl, fun H2 g2 => q _ H2 g2 (.bl _)⟩
theorem ev_mulV {i : Nat} {a : Addr} {ds ms : List Nat} (hi : σ[i]? = some (some (.ref a))) (ha : H a = some (.tup (vn ds))) (hD : DG b ds) (hl : ds.length < 64) (hv : 1 ≤ wrt b ds) (hM : MS b ds ms) : EvD K (tCall sp_multipliers [] E0 (tCons (tC (.int (b : Nat))) (tCons (tVar i) tNil))) σ H (di ms) := fun H1 g Q q =>
  ⟨_, hi, a, b, ds, rfl, g a _ (by simp) ha, hD, fun _ => few_len hv hl, fun _ ms' t H2 g2 asc mem ht => by
    have em := hM.uniq ⟨asc, mem⟩
    subst em
    exact q _ H2 g2 (dp_vnT ht), hv⟩
theorem ev_tupRgC {m : Nat} (hm : m ≤ 10000) : EvD K (tTupRg (tRg2 (tC (.int 1)) (tC (.int ((m : Nat) + 1 : Int))))) σ H (di (upto m)) := fun H1 g Q q =>
  ⟨_, _, rfl, rfl, RgOk.of_le (by decide) (by omega) (by decide) (by omega), fun u nu => by
    rw [rgV_upto]
    exact q _ _ (Gr.new nu) (dp_vnT upd_same)⟩
def dgB (b : Nat) (ds : List Nat) : Bool := decide (2 ≤ b) && decide (b ≤ 1000) && ds.all (fun d => decide (d < b)) && decide (1 ≤ ds.length) && decide (ds.length ≤ 63)
theorem dg_of {b : Nat} {ds : List Nat} (h : dgB b ds = true) : DG b ds ∧ ds.length < 64 := by
  unfold dgB at h
  simp only [Bool.and_eq_true, decide_eq_true_eq, List.all_eq_true] at h
  obtain ⟨⟨⟨⟨h1, h2⟩, h3⟩, h4⟩, h5⟩ := h
  exact ⟨⟨⟨h1, h2⟩, h3, h4, by omega⟩, by omega⟩
def mulB (b : Nat) (ds ms : List Nat) : Bool := dgB b ds && decide (1 ≤ wrt b ds) && decide (ms.Pairwise (· < ·)) && ((List.range ds.length).all fun j => decide (wrt b (rotL ds j) % wrt b ds ≠ 0) || decide (wrt b (rotL ds j) / wrt b ds ∈ ms)) && ms.all fun k => (List.range ds.length).any fun j => decide (wrt b (rotL ds j) = k * wrt b ds)
theorem mul_of {b : Nat} {ds ms : List Nat} (h : mulB b ds ms = true) : DG b ds ∧ ds.length < 64 ∧ 1 ≤ wrt b ds ∧ MS b ds ms := by
  unfold mulB at h
  simp only [Bool.and_eq_true, decide_eq_true_eq, List.all_eq_true, List.any_eq_true, Bool.or_eq_true, List.mem_range] at h
  obtain ⟨⟨⟨⟨h1, h2⟩, h3⟩, h4⟩, h5⟩ := h
  obtain ⟨hD, hl⟩ := dg_of h1
  refine ⟨hD, hl, h2, h3, fun k => ⟨fun hk => ?_, ?_⟩⟩
  · obtain ⟨j, hj, e⟩ := h5 k hk
    exact ⟨j, hj, e⟩
  · rintro ⟨j, hj, e⟩
    rcases h4 j hj with z | z
    · exact absurd (by rw [e]; exact Nat.mul_mod_left _ _) z
    · rw [e, Nat.mul_div_cancel _ h2] at z
      exact z
/-- [quotient(b, (x, n), c) for x in (..)] -/
theorem el_quots {is : List Nat} {i : Nat} (f : ∀ x ∈ is, PF b x n) (C : CT b n L k c) (hl : is.length ≤ 100) (hi : i < σ.length) :
    EvL K (tLc (iTup K (tTup (tInts (ni is)))) (gName i) tYes (tCall sp_quotient [] E0 (tCons (tC (.int (b : Nat))) (tCons (tTup (tCons (tVar i) (tCons (tC (.int (n : Nat))) tNil))) (tCons (tC (.int (c : Nat))) tNil)))) [i]) σ H (is.map fun x => qd b n x k c) := fun H1 g Q q => by
  refine tInts_go (Q := fun vs H2 => _) ⟨?_, fun a na => ⟨a, rfl, ⟨_, sq_tup upd_same⟩, fun D nD => ?_⟩⟩
  · rw [← vn_ni, vn_len]
    exact Nat.le_trans (show _ ≤ 6000 by omega) (by decide)
  rw [← vn_ni] at nD ⊢
  have ha : (upd H1 a (.tup (vn is))) a = some (.tup (vn is)) := upd_same
  have g1 := Gr.new (W := []) (o := .tup (vn is)) na
  generalize upd H1 a (.tup (vn is)) = H2 at ha g1 nD ⊢
  refine lc_tup (K := K) (a := a) (xs := vn is) (fun j H3 => Gr [] H2 H3 ∧ H3 D = some (.lst ((is.take j).map fun x => qv b n x k c))) ⟨Gr.new nD, upd_same⟩ (fun j H3 _ z => sq_tup (z.1 a _ (by simp) ha)) ?_ ?_
  · rintro j y H3 hy ⟨G, hD⟩
    obtain ⟨hj, rfl⟩ := vn_get hy
    have hf := f _ (List.getElem_mem hj)
    have tk := List.take_succ_eq_append_getElem hj
    generalize is[j] = x at hf tk ⊢
    refine ⟨?_, ?_⟩
    · show (((σ.set i none).set i _).set i none) = σ.set i none
      rw [List.set_set, List.set_set]
    dsimp only [tYes]
    refine iteT ⟨_, ?_, by show 2 ≤ sizeLine; decide, fun p np => ⟨b, x, n, L, k, c, p, rfl, upd_same, hf, C, fun H4 g4 => ⟨_, ((Gr.new np).trans g4) D _ (by simp) hD, ?_, ?_, ?_⟩⟩⟩
    · show ((σ.set i none).set i (some (V.int (x : Nat))))[i]? = _
      rw [List.getElem?_set_self (by simpa using hi)]
    · rw [List.length_map, List.length_take]
      exact Nat.lt_of_lt_of_le (show _ < 6000 by omega) (by decide)
    · intro u o _ e
      rw [upd_ne (ne_of_none e nD)]
      exact ((Gr.new (W := []) np).trans g4) u o (by simp) (G u o (by simp) e)
    · rw [upd_same, tk, List.map_append]
      rfl
  rintro H3 ⟨G, hD⟩
  rw [vn_len, List.take_length] at hD
  exact q D _ H3 (g1.trans G) hD (dpAll_qv b n k c is)
end
section
variable {P : Program} {w : World} {K : PySem.W.Frag} {mg : Str → Option Value} {base : Heap}
def sp_ten : Sp := fun vs H Q _ => vs = [] ∧ ∀ H', Q (.bl true) H'
theorem okG_law_ten_right (T : Txt K mg) : FnG P w K mg base CX0 9 T.d_law_ten_right.f T.d_law_ten_right.fd [] sp_ten := by
  refine fnG0 T.d_law_ten_right.F sc_law_ten_right (fun vs H Q E h => ?_) (fun cdv A outer s H vs Q E hgd hr h => ?_)
  · obtain ⟨rfl, _⟩ := h; rfl
  · have hu := hu_of hr
    refine ⟨_, (pss_cons (ps_set (i := 0) sc_law_ten_right.nd rfl (by first | exact .inl rfl | exact .inr rfl) (pe_ix (r := rIxT K) ix_tup (pe_call (ok_expansion T) (hr.mono (by decide)) (by rfl) T.d_expansion.m T.d_expansion.F.kp T.d_expansion.b .nil pass0 (pa_cons pe_int (pa_cons (pe_tup (pa_cons pe_int (pa_cons pe_int pa_nil))) pa_nil))) pe_int (fun _ _ => rfl)))
      (pss_cons (ps_set (i := 1) sc_law_ten_right.nd rfl (by first | exact .inl rfl | exact .inr rfl) (pe_lst (pa_cons (pv 0) (pa_cons (pe_call (ok_pieces T) (hr.mono (by decide)) (by rfl) T.d_pieces.m T.d_pieces.F.kp T.d_pieces.b .nil pass0 (pa_cons pe_int (pa_cons (pe_tup (pa_cons pe_int (pa_cons pe_int pa_nil))) (pa_cons pe_int pa_nil)))) (pa_cons (pe_call (ok_quotient T) (hr.mono (by decide)) (by rfl) T.d_quotient.m T.d_quotient.F.kp T.d_quotient.b .nil pass0 (pa_cons pe_int (pa_cons (pe_tup (pa_cons pe_int (pa_cons pe_int pa_nil))) (pa_cons pe_int pa_nil)))) (pa_cons (pe_call (ok_quotient T) (hr.mono (by decide)) (by rfl) T.d_quotient.m T.d_quotient.F.kp T.d_quotient.b .nil pass0 (pa_cons pe_int (pa_cons (pe_tup (pa_cons pe_int (pa_cons pe_int pa_nil))) (pa_cons pe_int pa_nil)))) (pa_cons (pe_call (ok_cuts T) (hr.mono (by decide)) (by rfl) T.d_cuts.m T.d_cuts.F.kp T.d_cuts.b .nil pass0 (pa_cons pe_int (pa_cons pe_int pa_nil))) pa_nil)))))))
      (pss_cons (ps_set (i := 2) sc_law_ten_right.nd rfl (by first | exact .inl rfl | exact .inr rfl) (pe_lst (pa_cons (pe_tup (pa_cons pe_int (pa_cons pe_int (pa_cons pe_int (pa_cons pe_int (pa_cons pe_int (pa_cons pe_int (pa_cons pe_int (pa_cons pe_int (pa_cons pe_int (pa_cons pe_int (pa_cons pe_int (pa_cons pe_int (pa_cons pe_int (pa_cons pe_int (pa_cons pe_int (pa_cons pe_int pa_nil))))))))))))))))) (pa_cons (pe_tup (pa_cons pe_int (pa_cons pe_int pa_nil))) (pa_cons pe_int (pa_cons pe_int (pa_cons (pe_tup (pa_cons pe_int (pa_cons pe_int (pa_cons pe_int (pa_cons pe_int pa_nil))))) pa_nil)))))))
      (pss_cons (ps_if (PW.pt (pw_or (pt_cmpR (r := rNeD K) (op_neD hr.units) (pv 1) (pv 2) (nomark _)) (pw_or (pt_not (pt_val (pe_call (ok_is_cyclic T) (hr.mono (by decide)) (by rfl) T.d_is_cyclic.m T.d_is_cyclic.F.kp T.d_is_cyclic.b .nil pass0 (pa_cons pe_int (pa_cons (pv 0) pa_nil))))) (pw_or1 (pt_cmpR (r := rNeD K) (op_neD hr.units) (pe_call (ok_multipliers T) (hr.mono (by decide)) (by rfl) T.d_multipliers.m T.d_multipliers.F.kp T.d_multipliers.b .nil pass0 (pa_cons pe_int (pa_cons (pv 0) pa_nil))) (pe_tupRg rfl (by rfl) T.b_tuple (prg_2 (by rfl) T.b_range pe_int pe_int)) (nomark _)))))) (pss_one (ps_ret pe_bl)) pss_nil)
      (pss_cons (ps_set (i := 1) sc_law_ten_right.nd rfl (by first | exact .inl rfl | exact .inr rfl) (pe_lst (pa_cons (pe_call (ok_expansion T) (hr.mono (by decide)) (by rfl) T.d_expansion.m T.d_expansion.F.kp T.d_expansion.b .nil pass0 (pa_cons pe_int (pa_cons (pe_tup (pa_cons pe_int (pa_cons pe_int pa_nil))) pa_nil))) (pa_cons (pe_slice (r := rSlA K) sl_tupA (pe_ix (r := rIxT K) ix_tup (pe_call (ok_expansion T) (hr.mono (by decide)) (by rfl) T.d_expansion.m T.d_expansion.F.kp T.d_expansion.b .nil pass0 (pa_cons pe_int (pa_cons (pe_tup (pa_cons pe_int (pa_cons pe_int pa_nil))) pa_nil))) pe_int (fun _ _ => rfl)) po_none (po_some pe_int)) (pa_cons (pe_call (ok_period T) (hr.mono (by decide)) (by rfl) T.d_period.m T.d_period.F.kp T.d_period.b .nil pass0 (pa_cons pe_int (pa_cons pe_int pa_nil))) (pa_cons (pe_call (ok_period T) (hr.mono (by decide)) (by rfl) T.d_period.m T.d_period.F.kp T.d_period.b .nil pass0 (pa_cons pe_int (pa_cons pe_int pa_nil))) (pa_cons (pe_slice (r := rSlA K) sl_tupA (pe_call (ok_wheels T) (hr.mono (by decide)) (by rfl) T.d_wheels.m T.d_wheels.F.kp T.d_wheels.b .nil pass0 (pa_cons pe_int (pa_cons pe_int pa_nil))) po_none (po_some pe_int)) pa_nil)))))))
      (pss_cons (ps_if (pt_cmpR (r := rNeD K) (op_neD hr.units) (pv 1) (pe_lst (pa_cons (pe_tup (pa_cons (pe_tup pa_nil) (pa_cons (pe_tup (pa_cons pe_int (pa_cons pe_int (pa_cons pe_int (pa_cons pe_int (pa_cons pe_int (pa_cons pe_int (pa_cons pe_int (pa_cons pe_int (pa_cons pe_int pa_nil)))))))))) pa_nil))) (pa_cons (pe_tup (pa_cons pe_int (pa_cons pe_int (pa_cons pe_int (pa_cons pe_int (pa_cons pe_int (pa_cons pe_int (pa_cons pe_int (pa_cons pe_int pa_nil))))))))) (pa_cons pe_int (pa_cons pe_int (pa_cons (pe_tup (pa_cons pe_int (pa_cons pe_int pa_nil))) pa_nil)))))) (nomark _)) (pss_one (ps_ret pe_bl)) pss_nil)
      (pss_cons (ps_set (i := 1) sc_law_ten_right.nd rfl (by first | exact .inl rfl | exact .inr rfl) (pe_lst (pa_cons (pe_call (ok_cuts T) (hr.mono (by decide)) (by rfl) T.d_cuts.m T.d_cuts.F.kp T.d_cuts.b .nil pass0 (pa_cons pe_int (pa_cons pe_int pa_nil))) (pa_cons (pe_call (ok_balance_paper T) (hr.mono (by decide)) (by rfl) T.d_balance_paper.m T.d_balance_paper.F.kp T.d_balance_paper.b .nil pass0 (pa_cons pe_int (pa_cons pe_int (pa_cons pe_int pa_nil)))) (pa_cons (pe_call (ok_balance_paper T) (hr.mono (by decide)) (by rfl) T.d_balance_paper.m T.d_balance_paper.F.kp T.d_balance_paper.b .nil pass0 (pa_cons pe_int (pa_cons pe_int (pa_cons pe_int pa_nil)))) (pa_cons (pe_call (ok_balance_paper T) (hr.mono (by decide)) (by rfl) T.d_balance_paper.m T.d_balance_paper.F.kp T.d_balance_paper.b .nil pass0 (pa_cons pe_int (pa_cons pe_int (pa_cons pe_int pa_nil)))) (pa_cons (pe_call (ok_cuts T) (hr.mono (by decide)) (by rfl) T.d_cuts.m T.d_cuts.F.kp T.d_cuts.b .nil pass0 (pa_cons pe_int (pa_cons pe_int pa_nil))) pa_nil)))))))
      (pss_cons (ps_if (pt_cmpR (r := rNeD K) (op_neD hr.units) (pv 1) (pe_lst (pa_cons (pe_tup pa_nil) (pa_cons (pe_tup (pa_cons pe_str (pa_cons pe_int (pa_cons pe_int pa_nil)))) (pa_cons (pe_tup (pa_cons pe_str (pa_cons pe_int (pa_cons pe_int pa_nil)))) (pa_cons (pe_tup (pa_cons pe_str (pa_cons pe_int (pa_cons pe_int pa_nil)))) (pa_cons (pe_tup pa_nil) pa_nil)))))) (nomark _)) (pss_one (ps_ret pe_bl)) pss_nil)
      (pss_cons (ps_set (i := 1) sc_law_ten_right.nd rfl (by first | exact .inl rfl | exact .inr rfl) (pe_op op_cat (pe_lc (own := [("x", 3)]) (g := gName 3) (tt := tYes) rfl sc_law_ten_right.nd (pi_tup (pe_tup (pa_cons pe_int (pa_cons pe_int (pa_cons pe_int (pa_cons pe_int pa_nil)))))) (blkOk_by (own := [("x", 3)]) (N := ["ring", "told", "due", "x"]) (sc := defScope s_law_ten_right) (by decide +kernel)) (fun _ _ _ _ _ => (pg_name (i := 3) sc_law_ten_right.nd rfl (by first | exact .inl rfl | exact .inr rfl))) (fun _ _ _ _ _ => pts_nil) (fun _ _ _ _ _ => (pe_call (ok_quotient T) (hr.mono (by decide)) (by rfl) T.d_quotient.m T.d_quotient.F.kp T.d_quotient.b .nil pass0 (pa_cons pe_int (pa_cons (pe_tup (pa_cons (pv 3) (pa_cons pe_int pa_nil))) (pa_cons pe_int pa_nil)))))) (pe_lc (own := [("x", 3)]) (g := gName 3) (tt := tYes) rfl sc_law_ten_right.nd (pi_tup (pe_tup (pa_cons pe_int (pa_cons pe_int (pa_cons pe_int pa_nil))))) (blkOk_by (own := [("x", 3)]) (N := ["ring", "told", "due", "x"]) (sc := defScope s_law_ten_right) (by decide +kernel)) (fun _ _ _ _ _ => (pg_name (i := 3) sc_law_ten_right.nd rfl (by first | exact .inl rfl | exact .inr rfl))) (fun _ _ _ _ _ => pts_nil) (fun _ _ _ _ _ => (pe_call (ok_quotient T) (hr.mono (by decide)) (by rfl) T.d_quotient.m T.d_quotient.F.kp T.d_quotient.b .nil pass0 (pa_cons pe_int (pa_cons (pe_tup (pa_cons (pv 3) (pa_cons pe_int pa_nil))) (pa_cons pe_int pa_nil))))))))
      (pss_one (ps_ret (pe_and (pe_cmpR (r := rEqD K) (op_eqD hr.units) (pv 1) (pe_lst (pa_cons pe_int (pa_cons pe_int (pa_cons pe_int (pa_cons pe_int (pa_cons pe_non (pa_cons pe_non (pa_cons pe_non pa_nil)))))))) (nomark _)) (pe_one (pe_cmpR (r := rEqD K) (op_eqD hr.units) (pe_call (ok_rotation T) (hr.mono (by decide)) (by rfl) T.d_rotation.m T.d_rotation.F.kp T.d_rotation.b .nil pass0 (pa_cons pe_int (pa_cons (pe_tup (pa_cons pe_int (pa_cons pe_int pa_nil))) (pa_cons (pe_tup (pa_cons pe_int (pa_cons pe_int pa_nil))) pa_nil)))) pe_int (nomark _))))))))))))))), ?_⟩
    obtain ⟨rfl, q⟩ := h
    have pf : ∀ {b x n : Nat}, (decide (2 ≤ b) && decide (b ≤ 1000) && decide (1 ≤ n) && decide (n ≤ 5000) && decide (x < n) && Nat.gcd x n == 1 && Nat.gcd b n == 1) = true → PF b x n := fun h => by
      simp only [Bool.and_eq_true, decide_eq_true_eq, beq_iff_eq] at h
      exact ⟨⟨h.1.1.1.1.1.1, h.1.1.1.1.1.2, h.1.1.1.1.2, h.1.1.1.2⟩, h.1.1.2, h.1.2, h.2⟩
    have bn : ∀ {b n : Nat}, (decide (2 ≤ b) && decide (b ≤ 1000) && decide (1 ≤ n) && decide (n ≤ 5000)) = true → BN b n := fun h => by
      simp only [Bool.and_eq_true, decide_eq_true_eq] at h
      exact ⟨h.1.1.1, h.1.1.2, h.1.2, h.2⟩
    have ct : ∀ {b n L k c : Nat}, Par b n n 1 0 L → (decide (2 ≤ c) && decide (1 ≤ k) && decide (L = k * c)) = true → CT b n L k c := fun P h => by
      simp only [Bool.and_eq_true, decide_eq_true_eq] at h
      exact ⟨P.hL, h.1.1, h.1.2, h.2⟩
    have p_10_17 : Par 10 17 17 1 0 16 := par_of (by decide +kernel)
    have p_10_81 : Par 10 81 81 1 0 9 := par_of (by decide +kernel)
    have p_10_49 : Par 10 49 49 1 0 42 := par_of (by decide +kernel)
    have p_10_97 : Par 10 97 97 1 0 96 := par_of (by decide +kernel)
    have p_10_99 : Par 10 99 99 1 0 2 := par_of (by decide +kernel)
    have p_10_13 : Par 10 13 13 1 0 6 := par_of (by decide +kernel)
    have p_10_21 : Par 10 21 21 1 0 6 := par_of (by decide +kernel)
    refine ⟨by show 2 ≤ sizeLine; decide, fun p np => ⟨10, 1, 17, p, rfl, upd_same, ⟨bn rfl, by decide, by decide⟩, fun p' q' h' L' t H1 h1 h2 h3 h4 g1 E => ?_⟩⟩
    obtain ⟨a1, c1, w1, w2, w3⟩ := E.at_
    have PP : Par 10 17 p' q' h' L' := ⟨h1, h2, h3, h4⟩
    have eL := PP.hL.uniq ((h1.uniq p_10_17.hp) ▸ p_10_17.hL)
    have eh : h' = 0 := (par_pure (by decide) (by decide) PP).2
    subst eL eh
    rw [dgf_vn, show dg 10 17 1 0 16 = [0, 5, 8, 8, 2, 3, 5, 2, 9, 4, 1, 1, 7, 6, 4, 7] from by decide +kernel] at w3
    refine ⟨t, _, _, .ref c1, rfl, rfl, sq_tup w1, atI_nat (j := 1) rfl, ?_⟩
    obtain ⟨hD, hl, hv, hM⟩ := mul_of (b := 10) (ds := [0, 5, 8, 8, 2, 3, 5, 2, 9, 4, 1, 1, 7, 6, 4, 7]) (ms := [1, 2, 3, 4, 5, 6, 7, 8, 9, 10, 11, 12, 13, 14, 15, 16]) (by decide +kernel)
    have d0 : Dp K H1 (.ref c1) (di [0, 5, 8, 8, 2, 3, 5, 2, 9, 4, 1, 1, 7, 6, 4, 7]) := dp_vnT w3
    refine st_asgL (K := K) (el_lst (es_cons (ev_var rfl d0) (es_cons (ev_pcs (b := 10) (n := 17) (x := 1) (k := 8) (c := 2) (pf rfl) (ct p_10_17 rfl)) (es_cons (ev_quot (b := 10) (n := 17) (x := 1) (k := 4) (c := 4) (pf rfl) (ct p_10_17 rfl)) (es_cons (ev_quot (b := 10) (n := 17) (x := 1) (k := 1) (c := 16) (pf rfl) (ct p_10_17 rfl)) (es_cons (ev_cuts (b := 10) (n := 17) (bn rfl) (by decide) p_10_17.hL) es_nil)))))) fun l1 xs1 H2 g2 e2 a2 => ?_
    have w4 := g2 c1 _ (by simp) w3
    refine st_asgL (K := K) (el_lst (es_cons (ev_tup (es_cons ev_int (es_cons ev_int (es_cons ev_int (es_cons ev_int (es_cons ev_int (es_cons ev_int (es_cons ev_int (es_cons ev_int (es_cons ev_int (es_cons ev_int (es_cons ev_int (es_cons ev_int (es_cons ev_int (es_cons ev_int (es_cons ev_int (es_cons ev_int es_nil))))))))))))))))) (es_cons (ev_tup (es_cons ev_int (es_cons ev_int es_nil))) (es_cons ev_int (es_cons ev_int (es_cons (ev_tup (es_cons ev_int (es_cons ev_int (es_cons ev_int (es_cons ev_int es_nil))))) es_nil)))))) fun l2 xs2 H3 g3 e3 a3 => ?_
    have w5 := g3 c1 _ (by simp) w4
    refine tt_orL (K := K) (ev_ne (ev_var rfl (Dp.kp (Kp.of g3) (dp_lst e2 a2))) (ev_var rfl (dp_lst e3 a3)) (by decide +kernel) (by decide +kernel)) (by decide +kernel) fun H4 g4 => ?_
    have w6 := g4 c1 _ (by simp) w5
    refine tt_orN (K := K) (ev_cyc rfl w6 hD hl) (by unfold cycB; rw [hM.is]; decide +kernel) fun H5 g5 => ?_
    have w7 := g5 c1 _ (by simp) w6
    refine tt_of (K := K) (ev_ne (ev_mulV rfl w7 hD hl hv hM) (ev_tupRgC (m := 16) (by decide)) (by decide +kernel) (by decide +kernel)) (Gr.refl _ _) fun H6 g6 => ?_
    refine iteFb (by decide +kernel) ?_
    refine st_asgL (K := K) (el_lst (es_cons (ev_exp (b := 10) (n := 81) (x := 1) p_10_81 (bn rfl) (by decide) (by decide)) (es_cons (ev_slT (j := 8) (ev_exp1 (b := 10) (n := 49) (x := 1) p_10_49 (bn rfl) (by decide) (by decide)) (by decide)) (es_cons (ev_per p_10_81 (bn rfl)) (es_cons (ev_per p_10_97 (bn rfl)) (es_cons (ev_slT (j := 2) (ev_wheels (b := 10) (n := 81) (bn rfl) (by decide) p_10_81.hL) (by decide +kernel)) es_nil)))))) fun l7 xs7 H7 g7 e7 a7 => ?_
    refine tt_of (K := K) (ev_ne (ev_var rfl (dp_lst e7 a7)) (ev_lst (es_cons (ev_tup (es_cons (ev_tup es_nil) (es_cons (ev_tup (es_cons ev_int (es_cons ev_int (es_cons ev_int (es_cons ev_int (es_cons ev_int (es_cons ev_int (es_cons ev_int (es_cons ev_int (es_cons ev_int es_nil)))))))))) es_nil))) (es_cons (ev_tup (es_cons ev_int (es_cons ev_int (es_cons ev_int (es_cons ev_int (es_cons ev_int (es_cons ev_int (es_cons ev_int (es_cons ev_int es_nil))))))))) (es_cons ev_int (es_cons ev_int (es_cons (ev_tup (es_cons ev_int (es_cons ev_int es_nil))) es_nil)))))) (by decide +kernel) (by decide +kernel)) (Gr.refl _ _) fun H8 g8 => ?_
    refine iteFb (by decide +kernel) ?_
    refine st_asgL (K := K) (el_lst (es_cons (ev_cuts (b := 10) (n := 81) (bn rfl) (by decide) p_10_81.hL) (es_cons (ev_paper (b := 10) (n := 81) (k := 3) (c := 3) (r := (3, 4)) (rs := []) (bn rfl) (by decide) (by decide) (ct p_10_81 rfl) (by decide +kernel) (by decide +kernel)) (es_cons (ev_paper (b := 10) (n := 81) (k := 1) (c := 9) (r := (3, 4)) (rs := []) (bn rfl) (by decide) (by decide) (ct p_10_81 rfl) (by decide +kernel) (by decide +kernel)) (es_cons (ev_paper (b := 10) (n := 49) (k := 6) (c := 7) (r := (7, 2)) (rs := []) (bn rfl) (by decide) (by decide) (ct p_10_49 rfl) (by decide +kernel) (by decide +kernel)) (es_cons (ev_cuts (b := 10) (n := 99) (bn rfl) (by decide) p_10_99.hL) es_nil)))))) fun l9 xs9 H9 g9 e9 a9 => ?_
    refine tt_of (K := K) (ev_ne (ev_var rfl (dp_lst e9 a9)) (ev_lst (es_cons (ev_tup es_nil) (es_cons (ev_tup (es_cons ev_str (es_cons ev_int (es_cons ev_int es_nil)))) (es_cons (ev_tup (es_cons ev_str (es_cons ev_int (es_cons ev_int es_nil)))) (es_cons (ev_tup (es_cons ev_str (es_cons ev_int (es_cons ev_int es_nil)))) (es_cons (ev_tup es_nil) es_nil)))))) (by decide +kernel) (by decide +kernel)) (Gr.refl _ _) fun H10 g10 => ?_
    refine iteFb (by decide +kernel) ?_
    refine st_asgL (K := K) (el_cat (el_quots (b := 10) (n := 13) (k := 2) (c := 3) (is := [1, 2, 4, 7]) (fun x hx => by simp only [List.mem_cons, List.not_mem_nil, or_false] at hx; rcases hx with rfl | rfl | rfl | rfl <;> exact pf rfl) (ct p_10_13 rfl) (by decide) (by simp [L2.start])) (el_quots (b := 10) (n := 21) (k := 3) (c := 2) (is := [1, 2, 20]) (fun x hx => by simp only [List.mem_cons, List.not_mem_nil, or_false] at hx; rcases hx with rfl | rfl | rfl <;> exact pf rfl) (ct p_10_21 rfl) (by decide) (by simp [L2.start])) (by decide +kernel)) fun l11 xs11 H11 g11 e11 a11 => ?_
    refine st_retB (K := K) (ev_andV (ev_eq (ev_var rfl (dp_lst e11 a11)) (ev_lst (es_cons ev_int (es_cons ev_int (es_cons ev_int (es_cons ev_int (es_cons ev_non (es_cons ev_non (es_cons ev_non es_nil)))))))) (by decide +kernel) (by decide +kernel)) (ev_eq (ev_rotation (b := 10) (x := 1) (y := 16) (n := 17) (pf rfl) (pf rfl) p_10_17.hL) ev_int (by decide +kernel) (by decide +kernel))) fun H12 g12 => ?_
    refine cast (congrArg (fun z => Q (V.bl z) H12) (show true = _ by decide +kernel)) (q H12)

end
end Wn
namespace Wn
open PySem PySem.Spec PyProof.Rows L2
local macro_rules | `(tactic| walk_at "vc") => `(tactic| simp only [cxK, cxK2, start1, start2, start3, tRet, tRetN, tSeq, tNext, tIfS, tAsg, gName, tDrop, tVar, tC, tOp, tUn, tTest, tB, tNot, tAnd, tOr, tAndV, tOrV, tNotV, tIf, tCons, tNil, tCB, tCall, tChain, tAug, ipI, rI, rI0, rU, rIs, rGcd, rEq, rNe, scal,
  List.getElem?_cons_zero, List.getElem?_cons_succ, List.set_cons_zero, List.set_cons_succ, Option.some.injEq, List.cons.injEq, V.int.injEq, V.bl.injEq, V.ref.injEq, V.str.injEq, and_true, true_and, exists_eq_left, exists_eq_left', exists_and_left, exists_and_right, List.append_nil, List.nil_append, List.cons_append, exists_eq_right, exists_eq_right', and_assoc, exists_const, V.ty.injEq, ↓reduceIte, Bool.false_eq_true, Bool.not_true, Bool.not_false, decide_eq_true_eq])

section
variable {P : Program} {w : World} {K : PySem.W.Frag} {mg : Str → Option Value} {base : Heap}
theorem okG_law_bases_right (T : Txt K mg) : FnG P w K mg base CX0 9 T.d_law_bases_right.f T.d_law_bases_right.fd [] sp_ten := by
  refine fnG0 T.d_law_bases_right.F sc_law_bases_right (fun vs H Q E h => ?_) (fun cdv A outer s H vs Q E hgd hr h => ?_)
  · obtain ⟨rfl, _⟩ := h; rfl
  · have hu := hu_of hr
    refine ⟨_, (pss_cons (ps_set (i := 0) sc_law_bases_right.nd rfl (by first | exact .inl rfl | exact .inr rfl) (pe_lst (pa_cons (pe_call (ok_expansion T) (hr.mono (by decide)) (by rfl) T.d_expansion.m T.d_expansion.F.kp T.d_expansion.b .nil pass0 (pa_cons pe_int (pa_cons (pe_tup (pa_cons pe_int (pa_cons pe_int pa_nil))) pa_nil))) (pa_cons (pe_call (ok_expansion T) (hr.mono (by decide)) (by rfl) T.d_expansion.m T.d_expansion.F.kp T.d_expansion.b .nil pass0 (pa_cons pe_int (pa_cons (pe_tup (pa_cons pe_int (pa_cons pe_int pa_nil))) pa_nil))) (pa_cons (pe_call (ok_expansion T) (hr.mono (by decide)) (by rfl) T.d_expansion.m T.d_expansion.F.kp T.d_expansion.b .nil pass0 (pa_cons pe_int (pa_cons (pe_tup (pa_cons pe_int (pa_cons pe_int pa_nil))) pa_nil))) (pa_cons (pe_call (ok_expansion T) (hr.mono (by decide)) (by rfl) T.d_expansion.m T.d_expansion.F.kp T.d_expansion.b .nil pass0 (pa_cons pe_int (pa_cons (pe_tup (pa_cons pe_int (pa_cons pe_int pa_nil))) pa_nil))) (pa_cons (pe_call (ok_expansion T) (hr.mono (by decide)) (by rfl) T.d_expansion.m T.d_expansion.F.kp T.d_expansion.b .nil pass0 (pa_cons pe_int (pa_cons (pe_tup (pa_cons pe_int (pa_cons pe_int pa_nil))) pa_nil))) pa_nil)))))))
      (pss_cons (ps_if (pt_cmpR (r := rNeD K) (op_neD hr.units) (pv 0) (pe_lst (pa_cons (pe_tup (pa_cons (pe_tup pa_nil) (pa_cons (pe_tup (pa_cons pe_int (pa_cons pe_int (pa_cons pe_int pa_nil)))) pa_nil))) (pa_cons (pe_tup (pa_cons (pe_tup pa_nil) (pa_cons (pe_tup (pa_cons pe_int (pa_cons pe_int (pa_cons pe_int (pa_cons pe_int pa_nil))))) pa_nil))) (pa_cons (pe_tup (pa_cons (pe_tup pa_nil) (pa_cons (pe_tup (pa_cons pe_int (pa_cons pe_int (pa_cons pe_int (pa_cons pe_int pa_nil))))) pa_nil))) (pa_cons (pe_tup (pa_cons (pe_tup pa_nil) (pa_cons (pe_tup (pa_cons pe_int pa_nil)) pa_nil))) (pa_cons (pe_tup (pa_cons (pe_tup pa_nil) (pa_cons (pe_tup (pa_cons pe_int pa_nil)) pa_nil))) pa_nil)))))) (nomark _)) (pss_one (ps_ret pe_bl)) pss_nil)
      (pss_cons (ps_set (i := 0) sc_law_bases_right.nd rfl (by first | exact .inl rfl | exact .inr rfl) (pe_lst (pa_cons (pe_call (ok_pieces T) (hr.mono (by decide)) (by rfl) T.d_pieces.m T.d_pieces.F.kp T.d_pieces.b .nil pass0 (pa_cons pe_int (pa_cons (pe_tup (pa_cons pe_int (pa_cons pe_int pa_nil))) (pa_cons pe_int pa_nil)))) (pa_cons (pe_call (ok_quotient T) (hr.mono (by decide)) (by rfl) T.d_quotient.m T.d_quotient.F.kp T.d_quotient.b .nil pass0 (pa_cons pe_int (pa_cons (pe_tup (pa_cons pe_int (pa_cons pe_int pa_nil))) (pa_cons pe_int pa_nil)))) (pa_cons (pe_call (ok_quotient T) (hr.mono (by decide)) (by rfl) T.d_quotient.m T.d_quotient.F.kp T.d_quotient.b .nil pass0 (pa_cons pe_int (pa_cons (pe_tup (pa_cons pe_int (pa_cons pe_int pa_nil))) (pa_cons pe_int pa_nil)))) (pa_cons (pe_call (ok_quotient T) (hr.mono (by decide)) (by rfl) T.d_quotient.m T.d_quotient.F.kp T.d_quotient.b .nil pass0 (pa_cons pe_int (pa_cons (pe_tup (pa_cons pe_int (pa_cons pe_int pa_nil))) (pa_cons pe_int pa_nil)))) (pa_cons (pe_call (ok_wheel T) (hr.mono (by decide)) (by rfl) T.d_wheel.m T.d_wheel.F.kp T.d_wheel.b .nil pass0 (pa_cons pe_int (pa_cons (pe_tup (pa_cons pe_int (pa_cons pe_int pa_nil))) pa_nil))) pa_nil)))))))
      (pss_cons (ps_if (pt_cmpR (r := rNeD K) (op_neD hr.units) (pv 0) (pe_lst (pa_cons (pe_tup (pa_cons pe_int (pa_cons pe_int pa_nil))) (pa_cons pe_int (pa_cons pe_int (pa_cons pe_int (pa_cons (pe_tup (pa_cons pe_int (pa_cons pe_int (pa_cons pe_int (pa_cons pe_int pa_nil))))) pa_nil)))))) (nomark _)) (pss_one (ps_ret pe_bl)) pss_nil)
      (pss_cons (ps_set (i := 0) sc_law_bases_right.nd rfl (by first | exact .inl rfl | exact .inr rfl) (pe_lst (pa_cons (pe_call (ok_is_balanced T) (hr.mono (by decide)) (by rfl) T.d_is_balanced.m T.d_is_balanced.F.kp T.d_is_balanced.b .nil pass0 (pa_cons pe_int (pa_cons pe_int (pa_cons pe_int pa_nil)))) (pa_cons (pe_call (ok_is_balanced T) (hr.mono (by decide)) (by rfl) T.d_is_balanced.m T.d_is_balanced.F.kp T.d_is_balanced.b .nil pass0 (pa_cons pe_int (pa_cons pe_int (pa_cons pe_int pa_nil)))) (pa_cons (pe_call (ok_is_balanced T) (hr.mono (by decide)) (by rfl) T.d_is_balanced.m T.d_is_balanced.F.kp T.d_is_balanced.b .nil pass0 (pa_cons pe_int (pa_cons pe_int (pa_cons pe_int pa_nil)))) (pa_cons (pe_call (ok_cuts T) (hr.mono (by decide)) (by rfl) T.d_cuts.m T.d_cuts.F.kp T.d_cuts.b .nil pass0 (pa_cons pe_int (pa_cons pe_int pa_nil))) (pa_cons (pe_call (ok_cuts T) (hr.mono (by decide)) (by rfl) T.d_cuts.m T.d_cuts.F.kp T.d_cuts.b .nil pass0 (pa_cons pe_int (pa_cons pe_int pa_nil))) (pa_cons (pe_call (ok_cuts T) (hr.mono (by decide)) (by rfl) T.d_cuts.m T.d_cuts.F.kp T.d_cuts.b .nil pass0 (pa_cons pe_int (pa_cons pe_int pa_nil))) pa_nil))))))))
      (pss_one (ps_ret (pe_and (pe_cmpR (r := rEqD K) (op_eqD hr.units) (pv 0) (pe_lst (pa_cons pe_bl (pa_cons pe_bl (pa_cons pe_bl (pa_cons (pe_tup (pa_cons pe_int pa_nil)) (pa_cons (pe_tup (pa_cons pe_int pa_nil)) (pa_cons (pe_tup pa_nil) pa_nil))))))) (nomark _)) (pe_one (pe_cmpR (r := rEqD K) (op_eqD hr.units) (pe_call (ok_digits_from T) (hr.mono (by decide)) (by rfl) T.d_digits_from.m T.d_digits_from.F.kp T.d_digits_from.b .nil pass0 (pa_cons pe_int (pa_cons (pe_tup (pa_cons pe_int (pa_cons pe_int pa_nil))) (pa_cons pe_int (pa_cons pe_int pa_nil))))) (pe_tup (pa_cons pe_int (pa_cons pe_int pa_nil))) (nomark _))))))))))), ?_⟩
    obtain ⟨rfl, q⟩ := h
    have pf : ∀ {b x n : Nat}, (decide (2 ≤ b) && decide (b ≤ 1000) && decide (1 ≤ n) && decide (n ≤ 5000) && decide (x < n) && Nat.gcd x n == 1 && Nat.gcd b n == 1) = true → PF b x n := fun h => by
      simp only [Bool.and_eq_true, decide_eq_true_eq, beq_iff_eq] at h
      exact ⟨⟨h.1.1.1.1.1.1, h.1.1.1.1.1.2, h.1.1.1.1.2, h.1.1.1.2⟩, h.1.1.2, h.1.2, h.2⟩
    have bn : ∀ {b n : Nat}, (decide (2 ≤ b) && decide (b ≤ 1000) && decide (1 ≤ n) && decide (n ≤ 5000)) = true → BN b n := fun h => by
      simp only [Bool.and_eq_true, decide_eq_true_eq] at h
      exact ⟨h.1.1.1, h.1.1.2, h.1.2, h.2⟩
    have ct : ∀ {b n L k c : Nat}, Par b n n 1 0 L → (decide (2 ≤ c) && decide (1 ≤ k) && decide (L = k * c)) = true → CT b n L k c := fun P h => by
      simp only [Bool.and_eq_true, decide_eq_true_eq] at h
      exact ⟨P.hL, h.1.1, h.1.2, h.2⟩
    have p_2_7 : Par 2 7 7 1 0 3 := par_of (by decide +kernel)
    have p_2_5 : Par 2 5 5 1 0 4 := par_of (by decide +kernel)
    have p_12_5 : Par 12 5 5 1 0 4 := par_of (by decide +kernel)
    have p_16_3 : Par 16 3 3 1 0 1 := par_of (by decide +kernel)
    have p_3_2 : Par 3 2 2 1 0 1 := par_of (by decide +kernel)
    have p_8_9 : Par 8 9 9 1 0 2 := par_of (by decide +kernel)
    have p_4_9 : Par 4 9 9 1 0 3 := par_of (by decide +kernel)
    have p_2_9 : Par 2 9 9 1 0 6 := par_of (by decide +kernel)
    have p_2_31 : Par 2 31 31 1 0 5 := par_of (by decide +kernel)
    have p_999_1000 : Par 999 1000 1000 1 0 2 := par_of (by decide +kernel)
    have p_1000_999 : Par 1000 999 999 1 0 1 := par_of (by decide +kernel)
    refine st_asgL (K := K) (el_lst (es_cons (ev_exp (b := 2) (n := 7) (x := 1) p_2_7 (bn rfl) (by decide) (by decide)) (es_cons (ev_exp (b := 2) (n := 5) (x := 1) p_2_5 (bn rfl) (by decide) (by decide)) (es_cons (ev_exp (b := 12) (n := 5) (x := 1) p_12_5 (bn rfl) (by decide) (by decide)) (es_cons (ev_exp (b := 16) (n := 3) (x := 1) p_16_3 (bn rfl) (by decide) (by decide)) (es_cons (ev_exp (b := 3) (n := 2) (x := 1) p_3_2 (bn rfl) (by decide) (by decide)) es_nil)))))) fun l1 xs1 H1 g1 e1 a1 => ?_
    refine tt_of (K := K) (ev_ne (ev_var rfl (dp_lst e1 a1)) (ev_lst (es_cons (ev_tup (es_cons (ev_tup es_nil) (es_cons (ev_tup (es_cons ev_int (es_cons ev_int (es_cons ev_int es_nil)))) es_nil))) (es_cons (ev_tup (es_cons (ev_tup es_nil) (es_cons (ev_tup (es_cons ev_int (es_cons ev_int (es_cons ev_int (es_cons ev_int es_nil))))) es_nil))) (es_cons (ev_tup (es_cons (ev_tup es_nil) (es_cons (ev_tup (es_cons ev_int (es_cons ev_int (es_cons ev_int (es_cons ev_int es_nil))))) es_nil))) (es_cons (ev_tup (es_cons (ev_tup es_nil) (es_cons (ev_tup (es_cons ev_int es_nil)) es_nil))) (es_cons (ev_tup (es_cons (ev_tup es_nil) (es_cons (ev_tup (es_cons ev_int es_nil)) es_nil))) es_nil)))))) (by decide +kernel) (by decide +kernel)) (Gr.refl _ _) fun H2 g2 => ?_
    refine iteFb (by decide +kernel) ?_
    refine st_asgL (K := K) (el_lst (es_cons (ev_pcs (b := 12) (n := 5) (x := 1) (k := 2) (c := 2) (pf rfl) (ct p_12_5 rfl)) (es_cons (ev_quot (b := 12) (n := 5) (x := 1) (k := 2) (c := 2) (pf rfl) (ct p_12_5 rfl)) (es_cons (ev_quot (b := 12) (n := 5) (x := 1) (k := 1) (c := 4) (pf rfl) (ct p_12_5 rfl)) (es_cons (ev_quot (b := 2) (n := 7) (x := 1) (k := 1) (c := 3) (pf rfl) (ct p_2_7 rfl)) (es_cons (ev_wheel (b := 12) (n := 5) (x := 1) (pf rfl) p_12_5.hL) es_nil)))))) fun l3 xs3 H3 g3 e3 a3 => ?_
    refine tt_of (K := K) (ev_ne (ev_var rfl (dp_lst e3 a3)) (ev_lst (es_cons (ev_tup (es_cons ev_int (es_cons ev_int es_nil))) (es_cons ev_int (es_cons ev_int (es_cons ev_int (es_cons (ev_tup (es_cons ev_int (es_cons ev_int (es_cons ev_int (es_cons ev_int es_nil))))) es_nil)))))) (by decide +kernel) (by decide +kernel)) (Gr.refl _ _) fun H4 g4 => ?_
    refine iteFb (by decide +kernel) ?_
    refine st_asgL (K := K) (el_lst (es_cons (ev_isbal (b := 8) (n := 9) (k := 1) (c := 2) (bn rfl) (by decide) (by decide) (ct p_8_9 rfl)) (es_cons (ev_isbal (b := 4) (n := 9) (k := 1) (c := 3) (bn rfl) (by decide) (by decide) (ct p_4_9 rfl)) (es_cons (ev_isbal (b := 2) (n := 9) (k := 3) (c := 2) (bn rfl) (by decide) (by decide) (ct p_2_9 rfl)) (es_cons (ev_cuts (b := 2) (n := 31) (bn rfl) (by decide) p_2_31.hL) (es_cons (ev_cuts (b := 999) (n := 1000) (bn rfl) (by decide) p_999_1000.hL) (es_cons (ev_cuts (b := 1000) (n := 999) (bn rfl) (by decide) p_1000_999.hL) es_nil))))))) fun l5 xs5 H5 g5 e5 a5 => ?_
    refine st_retB (K := K) (ev_andV (ev_eq (ev_var rfl (dp_lst e5 a5)) (ev_lst (es_cons ev_bl (es_cons ev_bl (es_cons ev_bl (es_cons (ev_tup (es_cons ev_int es_nil)) (es_cons (ev_tup (es_cons ev_int es_nil)) (es_cons (ev_tup es_nil) es_nil))))))) (by decide +kernel) (by decide +kernel)) (ev_eq (ev_dfrom (b := 1000) (x := 1) (n := 999) (k := 0) (c := 2) (bn rfl) (by decide) (by decide) (by decide) (by decide)) (ev_tup (es_cons ev_int (es_cons ev_int es_nil))) (by decide +kernel) (by decide +kernel))) fun H6 g6 => ?_
    refine cast (congrArg (fun z => Q (V.bl z) H6) (show true = _ by decide +kernel)) (q H6)

end
end Wn
namespace Wn
open PySem PySem.Spec PyProof.Rows L2
local macro_rules | `(tactic| walk_at "vc") => `(tactic| simp only [cxK, cxK2, start1, start2, start3, tRet, tRetN, tSeq, tNext, tIfS, tAsg, gName, tDrop, tVar, tC, tOp, tUn, tTest, tB, tNot, tAnd, tOr, tAndV, tOrV, tNotV, tIf, tCons, tNil, tCB, tCall, tChain, tAug, ipI, rI, rI0, rU, rIs, rGcd, rEq, rNe, scal,
  List.getElem?_cons_zero, List.getElem?_cons_succ, List.set_cons_zero, List.set_cons_succ, Option.some.injEq, List.cons.injEq, V.int.injEq, V.bl.injEq, V.ref.injEq, V.str.injEq, and_true, true_and, exists_eq_left, exists_eq_left', exists_and_left, exists_and_right, List.append_nil, List.nil_append, List.cons_append, exists_eq_right, exists_eq_right', and_assoc, exists_const, V.ty.injEq, ↓reduceIte, Bool.false_eq_true, Bool.not_true, Bool.not_false, decide_eq_true_eq])

section
variable {P : Program} {w : World} {K : PySem.W.Frag} {mg : Str → Option Value} {base : Heap}

def sp_law (K : PySem.W.Frag) : Sp := fun vs H Q _ => ∃ (a : Addr) (ns : List Int), vs = [.ref a] ∧ SqL K H a (ns.map V.int) ∧ ns.length ≤ 63 ∧ ∀ H', Q (.bl true) H'
theorem okG_law (T : Txt K mg) : FnG P w K mg base CX0 10 T.d_law.f T.d_law.fd ["script"] (sp_law K) := by
  refine fnG0 T.d_law.F sc_law (fun vs H Q E h => ?_) (fun cdv A outer s H vs Q E hgd hr h => ?_)
  · obtain ⟨a, ns, rfl, _⟩ := h; rfl
  · have hu := hu_of hr
    refine ⟨_, (pss_one (ps_ret (pe_and (pe_callG0 hgd (okG_law_ten_right T) (hr.mono (by decide)) (by rfl) T.d_law_ten_right.m T.d_law_ten_right.F.kp T.d_law_ten_right.b .nil pass0) (pe_one (pe_callG0 hgd (okG_law_bases_right T) (hr.mono (by decide)) (by rfl) T.d_law_bases_right.m T.d_law_bases_right.F.kp T.d_law_bases_right.b .nil pass0))))), ?_⟩
    obtain ⟨a, ns, rfl, _, _, q⟩ := h
    exact ⟨rfl, fun H1 => ⟨true, rfl, iteT ⟨rfl, fun H2 => q H2⟩⟩⟩

end
end Wn
namespace Wn
open PySem PySem.Spec PyProof.Rows L2
open LamX (Tabs ExtN tLam)
theorem all_mk {l : PySem.W.OpenLaw} {w : World} {K : PySem.W.Frag} {h : Heap} {mg : Str → Option Value} {fa : Addr} (X : K.In h) (G : h.Ns mainGlobals mg) (hfa : mg "law" = some (.ref fa))
    {f_is_integer : Addr} {oc_is_integer kV_is_integer dc_is_integer pm_is_integer cd_is_integer ct_is_integer : Value} {od_is_integer an_is_integer : Option Addr} {sl_is_integer : Array (Option Value)}
    {f_is_within : Addr} {oc_is_within kV_is_within dc_is_within pm_is_within cd_is_within ct_is_within : Value} {od_is_within an_is_within : Option Addr} {sl_is_within : Array (Option Value)}
    {f_need_base : Addr} {oc_need_base kV_need_base dc_need_base pm_need_base cd_need_base ct_need_base : Value} {od_need_base an_need_base : Option Addr} {sl_need_base : Array (Option Value)}
    {f_need_denominator : Addr} {oc_need_denominator kV_need_denominator dc_need_denominator pm_need_denominator cd_need_denominator ct_need_denominator : Value} {od_need_denominator an_need_denominator : Option Addr} {sl_need_denominator : Array (Option Value)}
    {f_need_fraction : Addr} {oc_need_fraction kV_need_fraction dc_need_fraction pm_need_fraction cd_need_fraction ct_need_fraction : Value} {od_need_fraction an_need_fraction : Option Addr} {sl_need_fraction : Array (Option Value)}
    {f_need_pure : Addr} {oc_need_pure kV_need_pure dc_need_pure pm_need_pure cd_need_pure ct_need_pure : Value} {od_need_pure an_need_pure : Option Addr} {sl_need_pure : Array (Option Value)}
    {f_need_pure_fraction : Addr} {oc_need_pure_fraction kV_need_pure_fraction dc_need_pure_fraction pm_need_pure_fraction cd_need_pure_fraction ct_need_pure_fraction : Value} {od_need_pure_fraction an_need_pure_fraction : Option Addr} {sl_need_pure_fraction : Array (Option Value)}
    {f_pure_part : Addr} {oc_pure_part kV_pure_part dc_pure_part pm_pure_part cd_pure_part ct_pure_part : Value} {od_pure_part an_pure_part : Option Addr} {sl_pure_part : Array (Option Value)}
    {f_period : Addr} {oc_period kV_period dc_period pm_period cd_period ct_period : Value} {od_period an_period : Option Addr} {sl_period : Array (Option Value)}
    {f_head_size : Addr} {oc_head_size kV_head_size dc_head_size pm_head_size cd_head_size ct_head_size : Value} {od_head_size an_head_size : Option Addr} {sl_head_size : Array (Option Value)}
    {f_power : Addr} {oc_power kV_power dc_power pm_power cd_power ct_power : Value} {od_power an_power : Option Addr} {sl_power : Array (Option Value)}
    {f_power_rest : Addr} {oc_power_rest kV_power_rest dc_power_rest pm_power_rest cd_power_rest ct_power_rest : Value} {od_power_rest an_power_rest : Option Addr} {sl_power_rest : Array (Option Value)}
    {f_prime_powers : Addr} {oc_prime_powers kV_prime_powers dc_prime_powers pm_prime_powers cd_prime_powers ct_prime_powers : Value} {od_prime_powers an_prime_powers : Option Addr} {sl_prime_powers : Array (Option Value)}
    {f_are_digits : Addr} {oc_are_digits kV_are_digits dc_are_digits pm_are_digits cd_are_digits ct_are_digits : Value} {od_are_digits an_are_digits : Option Addr} {sl_are_digits : Array (Option Value)}
    {f_need_digits : Addr} {oc_need_digits kV_need_digits dc_need_digits pm_need_digits cd_need_digits ct_need_digits : Value} {od_need_digits an_need_digits : Option Addr} {sl_need_digits : Array (Option Value)}
    {f_number_of : Addr} {oc_number_of kV_number_of dc_number_of pm_number_of cd_number_of ct_number_of : Value} {od_number_of an_number_of : Option Addr} {sl_number_of : Array (Option Value)}
    {f_value_of : Addr} {oc_value_of kV_value_of dc_value_of pm_value_of cd_value_of ct_value_of : Value} {od_value_of an_value_of : Option Addr} {sl_value_of : Array (Option Value)}
    {f_divided : Addr} {oc_divided kV_divided dc_divided pm_divided cd_divided ct_divided : Value} {od_divided an_divided : Option Addr} {sl_divided : Array (Option Value)}
    {f_expansion : Addr} {oc_expansion kV_expansion dc_expansion pm_expansion cd_expansion ct_expansion : Value} {od_expansion an_expansion : Option Addr} {sl_expansion : Array (Option Value)}
    {f_remainder_at : Addr} {oc_remainder_at kV_remainder_at dc_remainder_at pm_remainder_at cd_remainder_at ct_remainder_at : Value} {od_remainder_at an_remainder_at : Option Addr} {sl_remainder_at : Array (Option Value)}
    {f_digits_from : Addr} {oc_digits_from kV_digits_from dc_digits_from pm_digits_from cd_digits_from ct_digits_from : Value} {od_digits_from an_digits_from : Option Addr} {sl_digits_from : Array (Option Value)}
    {f_piece_size : Addr} {oc_piece_size kV_piece_size dc_piece_size pm_piece_size cd_piece_size ct_piece_size : Value} {od_piece_size an_piece_size : Option Addr} {sl_piece_size : Array (Option Value)}
    {f_spaced : Addr} {oc_spaced kV_spaced dc_spaced pm_spaced cd_spaced ct_spaced : Value} {od_spaced an_spaced : Option Addr} {sl_spaced : Array (Option Value)}
    {f_pieces : Addr} {oc_pieces kV_pieces dc_pieces pm_pieces cd_pieces ct_pieces : Value} {od_pieces an_pieces : Option Addr} {sl_pieces : Array (Option Value)}
    {f_quotient : Addr} {oc_quotient kV_quotient dc_quotient pm_quotient cd_quotient ct_quotient : Value} {od_quotient an_quotient : Option Addr} {sl_quotient : Array (Option Value)}
    {f_is_balanced_with : Addr} {oc_is_balanced_with kV_is_balanced_with dc_is_balanced_with pm_is_balanced_with cd_is_balanced_with ct_is_balanced_with : Value} {od_is_balanced_with an_is_balanced_with : Option Addr} {sl_is_balanced_with : Array (Option Value)}
    {f_is_balanced : Addr} {oc_is_balanced kV_is_balanced dc_is_balanced pm_is_balanced cd_is_balanced ct_is_balanced : Value} {od_is_balanced an_is_balanced : Option Addr} {sl_is_balanced : Array (Option Value)}
    {f_shows_imbalance : Addr} {oc_shows_imbalance kV_shows_imbalance dc_shows_imbalance pm_shows_imbalance cd_shows_imbalance ct_shows_imbalance : Value} {od_shows_imbalance an_shows_imbalance : Option Addr} {sl_shows_imbalance : Array (Option Value)}
    {f_balance_paper : Addr} {oc_balance_paper kV_balance_paper dc_balance_paper pm_balance_paper cd_balance_paper ct_balance_paper : Value} {od_balance_paper an_balance_paper : Option Addr} {sl_balance_paper : Array (Option Value)}
    {f_cuts : Addr} {oc_cuts kV_cuts dc_cuts pm_cuts cd_cuts ct_cuts : Value} {od_cuts an_cuts : Option Addr} {sl_cuts : Array (Option Value)}
    {f_multipliers : Addr} {oc_multipliers kV_multipliers dc_multipliers pm_multipliers cd_multipliers ct_multipliers : Value} {od_multipliers an_multipliers : Option Addr} {sl_multipliers : Array (Option Value)}
    {f_is_cyclic : Addr} {oc_is_cyclic kV_is_cyclic dc_is_cyclic pm_is_cyclic cd_is_cyclic ct_is_cyclic : Value} {od_is_cyclic an_is_cyclic : Option Addr} {sl_is_cyclic : Array (Option Value)}
    {f_wheel : Addr} {oc_wheel kV_wheel dc_wheel pm_wheel cd_wheel ct_wheel : Value} {od_wheel an_wheel : Option Addr} {sl_wheel : Array (Option Value)}
    {f_wheels : Addr} {oc_wheels kV_wheels dc_wheels pm_wheels cd_wheels ct_wheels : Value} {od_wheels an_wheels : Option Addr} {sl_wheels : Array (Option Value)}
    {f_rotation : Addr} {oc_rotation kV_rotation dc_rotation pm_rotation cd_rotation ct_rotation : Value} {od_rotation an_rotation : Option Addr} {sl_rotation : Array (Option Value)}
    {f_law_ten_right : Addr} {oc_law_ten_right kV_law_ten_right dc_law_ten_right pm_law_ten_right cd_law_ten_right ct_law_ten_right : Value} {od_law_ten_right an_law_ten_right : Option Addr} {sl_law_ten_right : Array (Option Value)}
    {f_law_bases_right : Addr} {oc_law_bases_right kV_law_bases_right dc_law_bases_right pm_law_bases_right cd_law_bases_right ct_law_bases_right : Value} {od_law_bases_right an_law_bases_right : Option Addr} {sl_law_bases_right : Array (Option Value)}
    {f_law : Addr} {oc_law kV_law dc_law pm_law cd_law ct_law : Value} {od_law an_law : Option Addr} {sl_law : Array (Option Value)}
    {t_MOST_BASE : Tok}
    {t_MOST_DENOMINATOR : Tok}
    {t_MOST_DIGITS : Tok}
    {t_LAST_PLACE : Tok}
    (a_is_integer : PySem.W.nsIn K mainGlobals "is_integer" = some (some (.ref f_is_integer))) (l_is_integer : K.lookup f_is_integer = some ⟨oc_is_integer, od_is_integer, .func (PySem.W.fnOf "is_integer" "is_integer" (defArgs s_is_integer) (defBody s_is_integer) (defScope s_is_integer) .none kV_is_integer dc_is_integer pm_is_integer an_is_integer cd_is_integer ct_is_integer), sl_is_integer⟩) (c_is_integer : PySem.W.codeIn K cd_is_integer "is_integer" = true) (k_is_integer : PySem.W.keepIn K (.ref f_is_integer) = true)
    (a_is_within : PySem.W.nsIn K mainGlobals "is_within" = some (some (.ref f_is_within))) (l_is_within : K.lookup f_is_within = some ⟨oc_is_within, od_is_within, .func (PySem.W.fnOf "is_within" "is_within" (defArgs s_is_within) (defBody s_is_within) (defScope s_is_within) .none kV_is_within dc_is_within pm_is_within an_is_within cd_is_within ct_is_within), sl_is_within⟩) (c_is_within : PySem.W.codeIn K cd_is_within "is_within" = true) (k_is_within : PySem.W.keepIn K (.ref f_is_within) = true)
    (a_need_base : PySem.W.nsIn K mainGlobals "need_base" = some (some (.ref f_need_base))) (l_need_base : K.lookup f_need_base = some ⟨oc_need_base, od_need_base, .func (PySem.W.fnOf "need_base" "need_base" (defArgs s_need_base) (defBody s_need_base) (defScope s_need_base) .none kV_need_base dc_need_base pm_need_base an_need_base cd_need_base ct_need_base), sl_need_base⟩) (c_need_base : PySem.W.codeIn K cd_need_base "need_base" = true) (k_need_base : PySem.W.keepIn K (.ref f_need_base) = true)
    (a_need_denominator : PySem.W.nsIn K mainGlobals "need_denominator" = some (some (.ref f_need_denominator))) (l_need_denominator : K.lookup f_need_denominator = some ⟨oc_need_denominator, od_need_denominator, .func (PySem.W.fnOf "need_denominator" "need_denominator" (defArgs s_need_denominator) (defBody s_need_denominator) (defScope s_need_denominator) .none kV_need_denominator dc_need_denominator pm_need_denominator an_need_denominator cd_need_denominator ct_need_denominator), sl_need_denominator⟩) (c_need_denominator : PySem.W.codeIn K cd_need_denominator "need_denominator" = true) (k_need_denominator : PySem.W.keepIn K (.ref f_need_denominator) = true)
    (a_need_fraction : PySem.W.nsIn K mainGlobals "need_fraction" = some (some (.ref f_need_fraction))) (l_need_fraction : K.lookup f_need_fraction = some ⟨oc_need_fraction, od_need_fraction, .func (PySem.W.fnOf "need_fraction" "need_fraction" (defArgs s_need_fraction) (defBody s_need_fraction) (defScope s_need_fraction) .none kV_need_fraction dc_need_fraction pm_need_fraction an_need_fraction cd_need_fraction ct_need_fraction), sl_need_fraction⟩) (c_need_fraction : PySem.W.codeIn K cd_need_fraction "need_fraction" = true) (k_need_fraction : PySem.W.keepIn K (.ref f_need_fraction) = true)
    (a_need_pure : PySem.W.nsIn K mainGlobals "need_pure" = some (some (.ref f_need_pure))) (l_need_pure : K.lookup f_need_pure = some ⟨oc_need_pure, od_need_pure, .func (PySem.W.fnOf "need_pure" "need_pure" (defArgs s_need_pure) (defBody s_need_pure) (defScope s_need_pure) .none kV_need_pure dc_need_pure pm_need_pure an_need_pure cd_need_pure ct_need_pure), sl_need_pure⟩) (c_need_pure : PySem.W.codeIn K cd_need_pure "need_pure" = true) (k_need_pure : PySem.W.keepIn K (.ref f_need_pure) = true)
    (a_need_pure_fraction : PySem.W.nsIn K mainGlobals "need_pure_fraction" = some (some (.ref f_need_pure_fraction))) (l_need_pure_fraction : K.lookup f_need_pure_fraction = some ⟨oc_need_pure_fraction, od_need_pure_fraction, .func (PySem.W.fnOf "need_pure_fraction" "need_pure_fraction" (defArgs s_need_pure_fraction) (defBody s_need_pure_fraction) (defScope s_need_pure_fraction) .none kV_need_pure_fraction dc_need_pure_fraction pm_need_pure_fraction an_need_pure_fraction cd_need_pure_fraction ct_need_pure_fraction), sl_need_pure_fraction⟩) (c_need_pure_fraction : PySem.W.codeIn K cd_need_pure_fraction "need_pure_fraction" = true) (k_need_pure_fraction : PySem.W.keepIn K (.ref f_need_pure_fraction) = true)
    (a_pure_part : PySem.W.nsIn K mainGlobals "pure_part" = some (some (.ref f_pure_part))) (l_pure_part : K.lookup f_pure_part = some ⟨oc_pure_part, od_pure_part, .func (PySem.W.fnOf "pure_part" "pure_part" (defArgs s_pure_part) (defBody s_pure_part) (defScope s_pure_part) .none kV_pure_part dc_pure_part pm_pure_part an_pure_part cd_pure_part ct_pure_part), sl_pure_part⟩) (c_pure_part : PySem.W.codeIn K cd_pure_part "pure_part" = true) (k_pure_part : PySem.W.keepIn K (.ref f_pure_part) = true)
    (a_period : PySem.W.nsIn K mainGlobals "period" = some (some (.ref f_period))) (l_period : K.lookup f_period = some ⟨oc_period, od_period, .func (PySem.W.fnOf "period" "period" (defArgs s_period) (defBody s_period) (defScope s_period) .none kV_period dc_period pm_period an_period cd_period ct_period), sl_period⟩) (c_period : PySem.W.codeIn K cd_period "period" = true) (k_period : PySem.W.keepIn K (.ref f_period) = true)
    (a_head_size : PySem.W.nsIn K mainGlobals "head_size" = some (some (.ref f_head_size))) (l_head_size : K.lookup f_head_size = some ⟨oc_head_size, od_head_size, .func (PySem.W.fnOf "head_size" "head_size" (defArgs s_head_size) (defBody s_head_size) (defScope s_head_size) .none kV_head_size dc_head_size pm_head_size an_head_size cd_head_size ct_head_size), sl_head_size⟩) (c_head_size : PySem.W.codeIn K cd_head_size "head_size" = true) (k_head_size : PySem.W.keepIn K (.ref f_head_size) = true)
    (a_power : PySem.W.nsIn K mainGlobals "power" = some (some (.ref f_power))) (l_power : K.lookup f_power = some ⟨oc_power, od_power, .func (PySem.W.fnOf "power" "power" (defArgs s_power) (defBody s_power) (defScope s_power) .none kV_power dc_power pm_power an_power cd_power ct_power), sl_power⟩) (c_power : PySem.W.codeIn K cd_power "power" = true) (k_power : PySem.W.keepIn K (.ref f_power) = true)
    (a_power_rest : PySem.W.nsIn K mainGlobals "power_rest" = some (some (.ref f_power_rest))) (l_power_rest : K.lookup f_power_rest = some ⟨oc_power_rest, od_power_rest, .func (PySem.W.fnOf "power_rest" "power_rest" (defArgs s_power_rest) (defBody s_power_rest) (defScope s_power_rest) .none kV_power_rest dc_power_rest pm_power_rest an_power_rest cd_power_rest ct_power_rest), sl_power_rest⟩) (c_power_rest : PySem.W.codeIn K cd_power_rest "power_rest" = true) (k_power_rest : PySem.W.keepIn K (.ref f_power_rest) = true)
    (a_prime_powers : PySem.W.nsIn K mainGlobals "prime_powers" = some (some (.ref f_prime_powers))) (l_prime_powers : K.lookup f_prime_powers = some ⟨oc_prime_powers, od_prime_powers, .func (PySem.W.fnOf "prime_powers" "prime_powers" (defArgs s_prime_powers) (defBody s_prime_powers) (defScope s_prime_powers) .none kV_prime_powers dc_prime_powers pm_prime_powers an_prime_powers cd_prime_powers ct_prime_powers), sl_prime_powers⟩) (c_prime_powers : PySem.W.codeIn K cd_prime_powers "prime_powers" = true) (k_prime_powers : PySem.W.keepIn K (.ref f_prime_powers) = true)
    (a_are_digits : PySem.W.nsIn K mainGlobals "are_digits" = some (some (.ref f_are_digits))) (l_are_digits : K.lookup f_are_digits = some ⟨oc_are_digits, od_are_digits, .func (PySem.W.fnOf "are_digits" "are_digits" (defArgs s_are_digits) (defBody s_are_digits) (defScope s_are_digits) .none kV_are_digits dc_are_digits pm_are_digits an_are_digits cd_are_digits ct_are_digits), sl_are_digits⟩) (c_are_digits : PySem.W.codeIn K cd_are_digits "are_digits" = true) (k_are_digits : PySem.W.keepIn K (.ref f_are_digits) = true)
    (a_need_digits : PySem.W.nsIn K mainGlobals "need_digits" = some (some (.ref f_need_digits))) (l_need_digits : K.lookup f_need_digits = some ⟨oc_need_digits, od_need_digits, .func (PySem.W.fnOf "need_digits" "need_digits" (defArgs s_need_digits) (defBody s_need_digits) (defScope s_need_digits) .none kV_need_digits dc_need_digits pm_need_digits an_need_digits cd_need_digits ct_need_digits), sl_need_digits⟩) (c_need_digits : PySem.W.codeIn K cd_need_digits "need_digits" = true) (k_need_digits : PySem.W.keepIn K (.ref f_need_digits) = true)
    (a_number_of : PySem.W.nsIn K mainGlobals "number_of" = some (some (.ref f_number_of))) (l_number_of : K.lookup f_number_of = some ⟨oc_number_of, od_number_of, .func (PySem.W.fnOf "number_of" "number_of" (defArgs s_number_of) (defBody s_number_of) (defScope s_number_of) .none kV_number_of dc_number_of pm_number_of an_number_of cd_number_of ct_number_of), sl_number_of⟩) (c_number_of : PySem.W.codeIn K cd_number_of "number_of" = true) (k_number_of : PySem.W.keepIn K (.ref f_number_of) = true)
    (a_value_of : PySem.W.nsIn K mainGlobals "value_of" = some (some (.ref f_value_of))) (l_value_of : K.lookup f_value_of = some ⟨oc_value_of, od_value_of, .func (PySem.W.fnOf "value_of" "value_of" (defArgs s_value_of) (defBody s_value_of) (defScope s_value_of) .none kV_value_of dc_value_of pm_value_of an_value_of cd_value_of ct_value_of), sl_value_of⟩) (c_value_of : PySem.W.codeIn K cd_value_of "value_of" = true) (k_value_of : PySem.W.keepIn K (.ref f_value_of) = true)
    (a_divided : PySem.W.nsIn K mainGlobals "divided" = some (some (.ref f_divided))) (l_divided : K.lookup f_divided = some ⟨oc_divided, od_divided, .func (PySem.W.fnOf "divided" "divided" (defArgs s_divided) (defBody s_divided) (defScope s_divided) .none kV_divided dc_divided pm_divided an_divided cd_divided ct_divided), sl_divided⟩) (c_divided : PySem.W.codeIn K cd_divided "divided" = true) (k_divided : PySem.W.keepIn K (.ref f_divided) = true)
    (a_expansion : PySem.W.nsIn K mainGlobals "expansion" = some (some (.ref f_expansion))) (l_expansion : K.lookup f_expansion = some ⟨oc_expansion, od_expansion, .func (PySem.W.fnOf "expansion" "expansion" (defArgs s_expansion) (defBody s_expansion) (defScope s_expansion) .none kV_expansion dc_expansion pm_expansion an_expansion cd_expansion ct_expansion), sl_expansion⟩) (c_expansion : PySem.W.codeIn K cd_expansion "expansion" = true) (k_expansion : PySem.W.keepIn K (.ref f_expansion) = true)
    (a_remainder_at : PySem.W.nsIn K mainGlobals "remainder_at" = some (some (.ref f_remainder_at))) (l_remainder_at : K.lookup f_remainder_at = some ⟨oc_remainder_at, od_remainder_at, .func (PySem.W.fnOf "remainder_at" "remainder_at" (defArgs s_remainder_at) (defBody s_remainder_at) (defScope s_remainder_at) .none kV_remainder_at dc_remainder_at pm_remainder_at an_remainder_at cd_remainder_at ct_remainder_at), sl_remainder_at⟩) (c_remainder_at : PySem.W.codeIn K cd_remainder_at "remainder_at" = true) (k_remainder_at : PySem.W.keepIn K (.ref f_remainder_at) = true)
    (a_digits_from : PySem.W.nsIn K mainGlobals "digits_from" = some (some (.ref f_digits_from))) (l_digits_from : K.lookup f_digits_from = some ⟨oc_digits_from, od_digits_from, .func (PySem.W.fnOf "digits_from" "digits_from" (defArgs s_digits_from) (defBody s_digits_from) (defScope s_digits_from) .none kV_digits_from dc_digits_from pm_digits_from an_digits_from cd_digits_from ct_digits_from), sl_digits_from⟩) (c_digits_from : PySem.W.codeIn K cd_digits_from "digits_from" = true) (k_digits_from : PySem.W.keepIn K (.ref f_digits_from) = true)
    (a_piece_size : PySem.W.nsIn K mainGlobals "piece_size" = some (some (.ref f_piece_size))) (l_piece_size : K.lookup f_piece_size = some ⟨oc_piece_size, od_piece_size, .func (PySem.W.fnOf "piece_size" "piece_size" (defArgs s_piece_size) (defBody s_piece_size) (defScope s_piece_size) .none kV_piece_size dc_piece_size pm_piece_size an_piece_size cd_piece_size ct_piece_size), sl_piece_size⟩) (c_piece_size : PySem.W.codeIn K cd_piece_size "piece_size" = true) (k_piece_size : PySem.W.keepIn K (.ref f_piece_size) = true)
    (a_spaced : PySem.W.nsIn K mainGlobals "spaced" = some (some (.ref f_spaced))) (l_spaced : K.lookup f_spaced = some ⟨oc_spaced, od_spaced, .func (PySem.W.fnOf "spaced" "spaced" (defArgs s_spaced) (defBody s_spaced) (defScope s_spaced) .none kV_spaced dc_spaced pm_spaced an_spaced cd_spaced ct_spaced), sl_spaced⟩) (c_spaced : PySem.W.codeIn K cd_spaced "spaced" = true) (k_spaced : PySem.W.keepIn K (.ref f_spaced) = true)
    (a_pieces : PySem.W.nsIn K mainGlobals "pieces" = some (some (.ref f_pieces))) (l_pieces : K.lookup f_pieces = some ⟨oc_pieces, od_pieces, .func (PySem.W.fnOf "pieces" "pieces" (defArgs s_pieces) (defBody s_pieces) (defScope s_pieces) .none kV_pieces dc_pieces pm_pieces an_pieces cd_pieces ct_pieces), sl_pieces⟩) (c_pieces : PySem.W.codeIn K cd_pieces "pieces" = true) (k_pieces : PySem.W.keepIn K (.ref f_pieces) = true)
    (a_quotient : PySem.W.nsIn K mainGlobals "quotient" = some (some (.ref f_quotient))) (l_quotient : K.lookup f_quotient = some ⟨oc_quotient, od_quotient, .func (PySem.W.fnOf "quotient" "quotient" (defArgs s_quotient) (defBody s_quotient) (defScope s_quotient) .none kV_quotient dc_quotient pm_quotient an_quotient cd_quotient ct_quotient), sl_quotient⟩) (c_quotient : PySem.W.codeIn K cd_quotient "quotient" = true) (k_quotient : PySem.W.keepIn K (.ref f_quotient) = true)
    (a_is_balanced_with : PySem.W.nsIn K mainGlobals "is_balanced_with" = some (some (.ref f_is_balanced_with))) (l_is_balanced_with : K.lookup f_is_balanced_with = some ⟨oc_is_balanced_with, od_is_balanced_with, .func (PySem.W.fnOf "is_balanced_with" "is_balanced_with" (defArgs s_is_balanced_with) (defBody s_is_balanced_with) (defScope s_is_balanced_with) .none kV_is_balanced_with dc_is_balanced_with pm_is_balanced_with an_is_balanced_with cd_is_balanced_with ct_is_balanced_with), sl_is_balanced_with⟩) (c_is_balanced_with : PySem.W.codeIn K cd_is_balanced_with "is_balanced_with" = true) (k_is_balanced_with : PySem.W.keepIn K (.ref f_is_balanced_with) = true)
    (a_is_balanced : PySem.W.nsIn K mainGlobals "is_balanced" = some (some (.ref f_is_balanced))) (l_is_balanced : K.lookup f_is_balanced = some ⟨oc_is_balanced, od_is_balanced, .func (PySem.W.fnOf "is_balanced" "is_balanced" (defArgs s_is_balanced) (defBody s_is_balanced) (defScope s_is_balanced) .none kV_is_balanced dc_is_balanced pm_is_balanced an_is_balanced cd_is_balanced ct_is_balanced), sl_is_balanced⟩) (c_is_balanced : PySem.W.codeIn K cd_is_balanced "is_balanced" = true) (k_is_balanced : PySem.W.keepIn K (.ref f_is_balanced) = true)
    (a_shows_imbalance : PySem.W.nsIn K mainGlobals "shows_imbalance" = some (some (.ref f_shows_imbalance))) (l_shows_imbalance : K.lookup f_shows_imbalance = some ⟨oc_shows_imbalance, od_shows_imbalance, .func (PySem.W.fnOf "shows_imbalance" "shows_imbalance" (defArgs s_shows_imbalance) (defBody s_shows_imbalance) (defScope s_shows_imbalance) .none kV_shows_imbalance dc_shows_imbalance pm_shows_imbalance an_shows_imbalance cd_shows_imbalance ct_shows_imbalance), sl_shows_imbalance⟩) (c_shows_imbalance : PySem.W.codeIn K cd_shows_imbalance "shows_imbalance" = true) (k_shows_imbalance : PySem.W.keepIn K (.ref f_shows_imbalance) = true)
    (a_balance_paper : PySem.W.nsIn K mainGlobals "balance_paper" = some (some (.ref f_balance_paper))) (l_balance_paper : K.lookup f_balance_paper = some ⟨oc_balance_paper, od_balance_paper, .func (PySem.W.fnOf "balance_paper" "balance_paper" (defArgs s_balance_paper) (defBody s_balance_paper) (defScope s_balance_paper) .none kV_balance_paper dc_balance_paper pm_balance_paper an_balance_paper cd_balance_paper ct_balance_paper), sl_balance_paper⟩) (c_balance_paper : PySem.W.codeIn K cd_balance_paper "balance_paper" = true) (k_balance_paper : PySem.W.keepIn K (.ref f_balance_paper) = true)
    (a_cuts : PySem.W.nsIn K mainGlobals "cuts" = some (some (.ref f_cuts))) (l_cuts : K.lookup f_cuts = some ⟨oc_cuts, od_cuts, .func (PySem.W.fnOf "cuts" "cuts" (defArgs s_cuts) (defBody s_cuts) (defScope s_cuts) .none kV_cuts dc_cuts pm_cuts an_cuts cd_cuts ct_cuts), sl_cuts⟩) (c_cuts : PySem.W.codeIn K cd_cuts "cuts" = true) (k_cuts : PySem.W.keepIn K (.ref f_cuts) = true)
    (a_multipliers : PySem.W.nsIn K mainGlobals "multipliers" = some (some (.ref f_multipliers))) (l_multipliers : K.lookup f_multipliers = some ⟨oc_multipliers, od_multipliers, .func (PySem.W.fnOf "multipliers" "multipliers" (defArgs s_multipliers) (defBody s_multipliers) (defScope s_multipliers) .none kV_multipliers dc_multipliers pm_multipliers an_multipliers cd_multipliers ct_multipliers), sl_multipliers⟩) (c_multipliers : PySem.W.codeIn K cd_multipliers "multipliers" = true) (k_multipliers : PySem.W.keepIn K (.ref f_multipliers) = true)
    (a_is_cyclic : PySem.W.nsIn K mainGlobals "is_cyclic" = some (some (.ref f_is_cyclic))) (l_is_cyclic : K.lookup f_is_cyclic = some ⟨oc_is_cyclic, od_is_cyclic, .func (PySem.W.fnOf "is_cyclic" "is_cyclic" (defArgs s_is_cyclic) (defBody s_is_cyclic) (defScope s_is_cyclic) .none kV_is_cyclic dc_is_cyclic pm_is_cyclic an_is_cyclic cd_is_cyclic ct_is_cyclic), sl_is_cyclic⟩) (c_is_cyclic : PySem.W.codeIn K cd_is_cyclic "is_cyclic" = true) (k_is_cyclic : PySem.W.keepIn K (.ref f_is_cyclic) = true)
    (a_wheel : PySem.W.nsIn K mainGlobals "wheel" = some (some (.ref f_wheel))) (l_wheel : K.lookup f_wheel = some ⟨oc_wheel, od_wheel, .func (PySem.W.fnOf "wheel" "wheel" (defArgs s_wheel) (defBody s_wheel) (defScope s_wheel) .none kV_wheel dc_wheel pm_wheel an_wheel cd_wheel ct_wheel), sl_wheel⟩) (c_wheel : PySem.W.codeIn K cd_wheel "wheel" = true) (k_wheel : PySem.W.keepIn K (.ref f_wheel) = true)
    (a_wheels : PySem.W.nsIn K mainGlobals "wheels" = some (some (.ref f_wheels))) (l_wheels : K.lookup f_wheels = some ⟨oc_wheels, od_wheels, .func (PySem.W.fnOf "wheels" "wheels" (defArgs s_wheels) (defBody s_wheels) (defScope s_wheels) .none kV_wheels dc_wheels pm_wheels an_wheels cd_wheels ct_wheels), sl_wheels⟩) (c_wheels : PySem.W.codeIn K cd_wheels "wheels" = true) (k_wheels : PySem.W.keepIn K (.ref f_wheels) = true)
    (a_rotation : PySem.W.nsIn K mainGlobals "rotation" = some (some (.ref f_rotation))) (l_rotation : K.lookup f_rotation = some ⟨oc_rotation, od_rotation, .func (PySem.W.fnOf "rotation" "rotation" (defArgs s_rotation) (defBody s_rotation) (defScope s_rotation) .none kV_rotation dc_rotation pm_rotation an_rotation cd_rotation ct_rotation), sl_rotation⟩) (c_rotation : PySem.W.codeIn K cd_rotation "rotation" = true) (k_rotation : PySem.W.keepIn K (.ref f_rotation) = true)
    (a_law_ten_right : PySem.W.nsIn K mainGlobals "_law_ten_right" = some (some (.ref f_law_ten_right))) (l_law_ten_right : K.lookup f_law_ten_right = some ⟨oc_law_ten_right, od_law_ten_right, .func (PySem.W.fnOf "_law_ten_right" "_law_ten_right" (defArgs s_law_ten_right) (defBody s_law_ten_right) (defScope s_law_ten_right) .none kV_law_ten_right dc_law_ten_right pm_law_ten_right an_law_ten_right cd_law_ten_right ct_law_ten_right), sl_law_ten_right⟩) (c_law_ten_right : PySem.W.codeIn K cd_law_ten_right "_law_ten_right" = true) (k_law_ten_right : PySem.W.keepIn K (.ref f_law_ten_right) = true)
    (a_law_bases_right : PySem.W.nsIn K mainGlobals "_law_bases_right" = some (some (.ref f_law_bases_right))) (l_law_bases_right : K.lookup f_law_bases_right = some ⟨oc_law_bases_right, od_law_bases_right, .func (PySem.W.fnOf "_law_bases_right" "_law_bases_right" (defArgs s_law_bases_right) (defBody s_law_bases_right) (defScope s_law_bases_right) .none kV_law_bases_right dc_law_bases_right pm_law_bases_right an_law_bases_right cd_law_bases_right ct_law_bases_right), sl_law_bases_right⟩) (c_law_bases_right : PySem.W.codeIn K cd_law_bases_right "_law_bases_right" = true) (k_law_bases_right : PySem.W.keepIn K (.ref f_law_bases_right) = true)
    (a_law : PySem.W.nsIn K mainGlobals "law" = some (some (.ref f_law))) (l_law : K.lookup f_law = some ⟨oc_law, od_law, .func (PySem.W.fnOf "law" "law" (defArgs s_law) (defBody s_law) (defScope s_law) .none kV_law dc_law pm_law an_law cd_law ct_law), sl_law⟩) (c_law : PySem.W.codeIn K cd_law "law" = true) (k_law : PySem.W.keepIn K (.ref f_law) = true)
    (zb_isinstance : PySem.W.nsIn K mainGlobals "isinstance" = some none)
    (zb_int : PySem.W.nsIn K mainGlobals "int" = some none)
    (zb_bool : PySem.W.nsIn K mainGlobals "bool" = some none)
    (zb_len : PySem.W.nsIn K mainGlobals "len" = some none)
    (zb_range : PySem.W.nsIn K mainGlobals "range" = some none)
    (zb_tuple : PySem.W.nsIn K mainGlobals "tuple" = some none)
    (zb_sum : PySem.W.nsIn K mainGlobals "sum" = some none)
    (zb_enumerate : PySem.W.nsIn K mainGlobals "enumerate" = some none)
    (zb_sorted : PySem.W.nsIn K mainGlobals "sorted" = some none)
    (zb_all : PySem.W.nsIn K mainGlobals "all" = some none)
    (zb_LookupError : PySem.W.nsIn K mainGlobals "LookupError" = some none)
    (zb_set : PySem.W.nsIn K mainGlobals "set" = some none)
    (zb_gcd : PySem.W.nsIn K mainGlobals "gcd" = some (some (.builtin "math.gcd")))
    (zc_MOST_BASE : PySem.W.nsIn K mainGlobals "MOST_BASE" = some (some (.int 1000 t_MOST_BASE)))
    (zc_MOST_DENOMINATOR : PySem.W.nsIn K mainGlobals "MOST_DENOMINATOR" = some (some (.int 5000 t_MOST_DENOMINATOR)))
    (zc_MOST_DIGITS : PySem.W.nsIn K mainGlobals "MOST_DIGITS" = some (some (.int 400 t_MOST_DIGITS)))
    (zc_LAST_PLACE : PySem.W.nsIn K mainGlobals "LAST_PLACE" = some (some (.int 1000000000000000000000000000000 t_LAST_PLACE)))
    : ∃ fd : FuncData, (∀ (s : Shared) (v : Value), BindsTo s fd ⟨[v], []⟩ [("script", v)]) ∧ ∀ base : Heap, K.In base → base.Ns mainGlobals mg → FnG l.prog w K mg base CX0 10 fa fd ["script"] (sp_law K) := by
  have T : Txt K mg := {
    d_is_integer := Dn.of X G (fun us hl => match us, hl with | [_], _ => rfl) a_is_integer l_is_integer c_is_integer k_is_integer
    d_is_within := Dn.of X G (fun us hl => match us, hl with | [_, _, _], _ => rfl) a_is_within l_is_within c_is_within k_is_within
    d_need_base := Dn.of X G (fun us hl => match us, hl with | [_], _ => rfl) a_need_base l_need_base c_need_base k_need_base
    d_need_denominator := Dn.of X G (fun us hl => match us, hl with | [_], _ => rfl) a_need_denominator l_need_denominator c_need_denominator k_need_denominator
    d_need_fraction := Dn.of X G (fun us hl => match us, hl with | [_], _ => rfl) a_need_fraction l_need_fraction c_need_fraction k_need_fraction
    d_need_pure := Dn.of X G (fun us hl => match us, hl with | [_, _], _ => rfl) a_need_pure l_need_pure c_need_pure k_need_pure
    d_need_pure_fraction := Dn.of X G (fun us hl => match us, hl with | [_, _], _ => rfl) a_need_pure_fraction l_need_pure_fraction c_need_pure_fraction k_need_pure_fraction
    d_pure_part := Dn.of X G (fun us hl => match us, hl with | [_, _], _ => rfl) a_pure_part l_pure_part c_pure_part k_pure_part
    d_period := Dn.of X G (fun us hl => match us, hl with | [_, _], _ => rfl) a_period l_period c_period k_period
    d_head_size := Dn.of X G (fun us hl => match us, hl with | [_, _], _ => rfl) a_head_size l_head_size c_head_size k_head_size
    d_power := Dn.of X G (fun us hl => match us, hl with | [_, _], _ => rfl) a_power l_power c_power k_power
    d_power_rest := Dn.of X G (fun us hl => match us, hl with | [_, _, _], _ => rfl) a_power_rest l_power_rest c_power_rest k_power_rest
    d_prime_powers := Dn.of X G (fun us hl => match us, hl with | [_], _ => rfl) a_prime_powers l_prime_powers c_prime_powers k_prime_powers
    d_are_digits := Dn.of X G (fun us hl => match us, hl with | [_, _, _], _ => rfl) a_are_digits l_are_digits c_are_digits k_are_digits
    d_need_digits := Dn.of X G (fun us hl => match us, hl with | [_, _], _ => rfl) a_need_digits l_need_digits c_need_digits k_need_digits
    d_number_of := Dn.of X G (fun us hl => match us, hl with | [_, _], _ => rfl) a_number_of l_number_of c_number_of k_number_of
    d_value_of := Dn.of X G (fun us hl => match us, hl with | [_, _], _ => rfl) a_value_of l_value_of c_value_of k_value_of
    d_divided := Dn.of X G (fun us hl => match us, hl with | [_, _, _, _], _ => rfl) a_divided l_divided c_divided k_divided
    d_expansion := Dn.of X G (fun us hl => match us, hl with | [_, _], _ => rfl) a_expansion l_expansion c_expansion k_expansion
    d_remainder_at := Dn.of X G (fun us hl => match us, hl with | [_, _, _], _ => rfl) a_remainder_at l_remainder_at c_remainder_at k_remainder_at
    d_digits_from := Dn.of X G (fun us hl => match us, hl with | [_, _, _, _], _ => rfl) a_digits_from l_digits_from c_digits_from k_digits_from
    d_piece_size := Dn.of X G (fun us hl => match us, hl with | [_, _, _], _ => rfl) a_piece_size l_piece_size c_piece_size k_piece_size
    d_spaced := Dn.of X G (fun us hl => match us, hl with | [_, _, _, _], _ => rfl) a_spaced l_spaced c_spaced k_spaced
    d_pieces := Dn.of X G (fun us hl => match us, hl with | [_, _, _], _ => rfl) a_pieces l_pieces c_pieces k_pieces
    d_quotient := Dn.of X G (fun us hl => match us, hl with | [_, _, _], _ => rfl) a_quotient l_quotient c_quotient k_quotient
    d_is_balanced_with := Dn.of X G (fun us hl => match us, hl with | [_, _, _, _], _ => rfl) a_is_balanced_with l_is_balanced_with c_is_balanced_with k_is_balanced_with
    d_is_balanced := Dn.of X G (fun us hl => match us, hl with | [_, _, _], _ => rfl) a_is_balanced l_is_balanced c_is_balanced k_is_balanced
    d_shows_imbalance := Dn.of X G (fun us hl => match us, hl with | [_, _, _, _, _], _ => rfl) a_shows_imbalance l_shows_imbalance c_shows_imbalance k_shows_imbalance
    d_balance_paper := Dn.of X G (fun us hl => match us, hl with | [_, _, _], _ => rfl) a_balance_paper l_balance_paper c_balance_paper k_balance_paper
    d_cuts := Dn.of X G (fun us hl => match us, hl with | [_, _], _ => rfl) a_cuts l_cuts c_cuts k_cuts
    d_multipliers := Dn.of X G (fun us hl => match us, hl with | [_, _], _ => rfl) a_multipliers l_multipliers c_multipliers k_multipliers
    d_is_cyclic := Dn.of X G (fun us hl => match us, hl with | [_, _], _ => rfl) a_is_cyclic l_is_cyclic c_is_cyclic k_is_cyclic
    d_wheel := Dn.of X G (fun us hl => match us, hl with | [_, _], _ => rfl) a_wheel l_wheel c_wheel k_wheel
    d_wheels := Dn.of X G (fun us hl => match us, hl with | [_, _], _ => rfl) a_wheels l_wheels c_wheels k_wheels
    d_rotation := Dn.of X G (fun us hl => match us, hl with | [_, _, _], _ => rfl) a_rotation l_rotation c_rotation k_rotation
    d_law_ten_right := Dn.of X G (fun us hl => match us, hl with | [], _ => rfl) a_law_ten_right l_law_ten_right c_law_ten_right k_law_ten_right
    d_law_bases_right := Dn.of X G (fun us hl => match us, hl with | [], _ => rfl) a_law_bases_right l_law_bases_right c_law_bases_right k_law_bases_right
    d_law := Dn.of X G (fun us hl => match us, hl with | [_], _ => rfl) a_law l_law c_law k_law
    b_isinstance := PySem.W.mg_none_of X G zb_isinstance
    b_int := PySem.W.mg_none_of X G zb_int
    b_bool := PySem.W.mg_none_of X G zb_bool
    b_len := PySem.W.mg_none_of X G zb_len
    b_range := PySem.W.mg_none_of X G zb_range
    b_tuple := PySem.W.mg_none_of X G zb_tuple
    b_sum := PySem.W.mg_none_of X G zb_sum
    b_enumerate := PySem.W.mg_none_of X G zb_enumerate
    b_sorted := PySem.W.mg_none_of X G zb_sorted
    b_all := PySem.W.mg_none_of X G zb_all
    b_LookupError := PySem.W.mg_none_of X G zb_LookupError
    b_set := PySem.W.mg_none_of X G zb_set
    b_gcd := PySem.W.mg_of X G zb_gcd
    t_MOST_BASE := t_MOST_BASE
    c_MOST_BASE := PySem.W.mg_of X G zc_MOST_BASE
    t_MOST_DENOMINATOR := t_MOST_DENOMINATOR
    c_MOST_DENOMINATOR := PySem.W.mg_of X G zc_MOST_DENOMINATOR
    t_MOST_DIGITS := t_MOST_DIGITS
    c_MOST_DIGITS := PySem.W.mg_of X G zc_MOST_DIGITS
    t_LAST_PLACE := t_LAST_PLACE
    c_LAST_PLACE := PySem.W.mg_of X G zc_LAST_PLACE
  }
  have e := hfa.symm.trans T.d_law.m
  cases e
  exact ⟨T.d_law.fd, fun s v => .of_eq (T.d_law.e [v] rfl), fun base _ _ => okG_law T⟩
end Wn
open PySem PySem.W PyProof.Rows
set_option maxRecDepth 100000 in
set_option maxHeartbeats 0 in
theorem PySem.Challenge.cw_wheelnines_k24_known_fractions_holds : PySem.Challenge.rw_wheelnines_k24_known_fractions.Holds := by
  w_on; o_law; k_head; (case hw => w_witness2)
  k_fill
  refine Wn.walkG (l := PySem.Challenge.rw_wheelnines_k24_known_fractions) (n := 63) (k := 10) (x := "script") (sp := fun w => Wn.sp_law _) rfl (by decide) rfl ⟨rfl, by decide, by decide⟩ (fun w h Y => PySem.W.kIn_of Y) ?F (fun _ _ a ns hl _ hS => ⟨a, ns, rfl, hS, hl, fun _ => rfl⟩)
  case F =>
    intro w mg fa h KX G hmg
    refine' Wn.all_mk KX G hmg ?a_is_integer ?l_is_integer ?c_is_integer ?k_is_integer ?a_is_within ?l_is_within ?c_is_within ?k_is_within ?a_need_base ?l_need_base ?c_need_base ?k_need_base ?a_need_denominator ?l_need_denominator ?c_need_denominator ?k_need_denominator ?a_need_fraction ?l_need_fraction ?c_need_fraction ?k_need_fraction ?a_need_pure ?l_need_pure ?c_need_pure ?k_need_pure ?a_need_pure_fraction ?l_need_pure_fraction ?c_need_pure_fraction ?k_need_pure_fraction ?a_pure_part ?l_pure_part ?c_pure_part ?k_pure_part ?a_period ?l_period ?c_period ?k_period ?a_head_size ?l_head_size ?c_head_size ?k_head_size ?a_power ?l_power ?c_power ?k_power ?a_power_rest ?l_power_rest ?c_power_rest ?k_power_rest ?a_prime_powers ?l_prime_powers ?c_prime_powers ?k_prime_powers ?a_are_digits ?l_are_digits ?c_are_digits ?k_are_digits ?a_need_digits ?l_need_digits ?c_need_digits ?k_need_digits ?a_number_of ?l_number_of ?c_number_of ?k_number_of ?a_value_of ?l_value_of ?c_value_of ?k_value_of ?a_divided ?l_divided ?c_divided ?k_divided ?a_expansion ?l_expansion ?c_expansion ?k_expansion ?a_remainder_at ?l_remainder_at ?c_remainder_at ?k_remainder_at ?a_digits_from ?l_digits_from ?c_digits_from ?k_digits_from ?a_piece_size ?l_piece_size ?c_piece_size ?k_piece_size ?a_spaced ?l_spaced ?c_spaced ?k_spaced ?a_pieces ?l_pieces ?c_pieces ?k_pieces ?a_quotient ?l_quotient ?c_quotient ?k_quotient ?a_is_balanced_with ?l_is_balanced_with ?c_is_balanced_with ?k_is_balanced_with ?a_is_balanced ?l_is_balanced ?c_is_balanced ?k_is_balanced ?a_shows_imbalance ?l_shows_imbalance ?c_shows_imbalance ?k_shows_imbalance ?a_balance_paper ?l_balance_paper ?c_balance_paper ?k_balance_paper ?a_cuts ?l_cuts ?c_cuts ?k_cuts ?a_multipliers ?l_multipliers ?c_multipliers ?k_multipliers ?a_is_cyclic ?l_is_cyclic ?c_is_cyclic ?k_is_cyclic ?a_wheel ?l_wheel ?c_wheel ?k_wheel ?a_wheels ?l_wheels ?c_wheels ?k_wheels ?a_rotation ?l_rotation ?c_rotation ?k_rotation ?a_law_ten_right ?l_law_ten_right ?c_law_ten_right ?k_law_ten_right ?a_law_bases_right ?l_law_bases_right ?c_law_bases_right ?k_law_bases_right ?a_law ?l_law ?c_law ?k_law ?zb_isinstance ?zb_int ?zb_bool ?zb_len ?zb_range ?zb_tuple ?zb_sum ?zb_enumerate ?zb_sorted ?zb_all ?zb_LookupError ?zb_set ?zb_gcd ?zc_MOST_BASE ?zc_MOST_DENOMINATOR ?zc_MOST_DIGITS ?zc_LAST_PLACE
    (case a_is_integer => k_is)
    (case l_is_integer => k_is)
    (case c_is_integer => k_is)
    (case k_is_integer => k_is)
    (case a_is_within => k_is)
    (case l_is_within => k_is)
    (case c_is_within => k_is)
    (case k_is_within => k_is)
    (case a_need_base => k_is)
    (case l_need_base => k_is)
    (case c_need_base => k_is)
    (case k_need_base => k_is)
    (case a_need_denominator => k_is)
    (case l_need_denominator => k_is)
    (case c_need_denominator => k_is)
    (case k_need_denominator => k_is)
    (case a_need_fraction => k_is)
    (case l_need_fraction => k_is)
    (case c_need_fraction => k_is)
    (case k_need_fraction => k_is)
    (case a_need_pure => k_is)
    (case l_need_pure => k_is)
    (case c_need_pure => k_is)
    (case k_need_pure => k_is)
    (case a_need_pure_fraction => k_is)
    (case l_need_pure_fraction => k_is)
    (case c_need_pure_fraction => k_is)
    (case k_need_pure_fraction => k_is)
    (case a_pure_part => k_is)
    (case l_pure_part => k_is)
    (case c_pure_part => k_is)
    (case k_pure_part => k_is)
    (case a_period => k_is)
    (case l_period => k_is)
    (case c_period => k_is)
    (case k_period => k_is)
    (case a_head_size => k_is)
    (case l_head_size => k_is)
    (case c_head_size => k_is)
    (case k_head_size => k_is)
    (case a_power => k_is)
    (case l_power => k_is)
    (case c_power => k_is)
    (case k_power => k_is)
    (case a_power_rest => k_is)
    (case l_power_rest => k_is)
    (case c_power_rest => k_is)
    (case k_power_rest => k_is)
    (case a_prime_powers => k_is)
    (case l_prime_powers => k_is)
    (case c_prime_powers => k_is)
    (case k_prime_powers => k_is)
    (case a_are_digits => k_is)
    (case l_are_digits => k_is)
    (case c_are_digits => k_is)
    (case k_are_digits => k_is)
    (case a_need_digits => k_is)
    (case l_need_digits => k_is)
    (case c_need_digits => k_is)
    (case k_need_digits => k_is)
    (case a_number_of => k_is)
    (case l_number_of => k_is)
    (case c_number_of => k_is)
    (case k_number_of => k_is)
    (case a_value_of => k_is)
    (case l_value_of => k_is)
    (case c_value_of => k_is)
    (case k_value_of => k_is)
    (case a_divided => k_is)
    (case l_divided => k_is)
    (case c_divided => k_is)
    (case k_divided => k_is)
    (case a_expansion => k_is)
    (case l_expansion => k_is)
    (case c_expansion => k_is)
    (case k_expansion => k_is)
    (case a_remainder_at => k_is)
    (case l_remainder_at => k_is)
    (case c_remainder_at => k_is)
    (case k_remainder_at => k_is)
    (case a_digits_from => k_is)
    (case l_digits_from => k_is)
    (case c_digits_from => k_is)
    (case k_digits_from => k_is)
    (case a_piece_size => k_is)
    (case l_piece_size => k_is)
    (case c_piece_size => k_is)
    (case k_piece_size => k_is)
    (case a_spaced => k_is)
    (case l_spaced => k_is)
    (case c_spaced => k_is)
    (case k_spaced => k_is)
    (case a_pieces => k_is)
    (case l_pieces => k_is)
    (case c_pieces => k_is)
    (case k_pieces => k_is)
    (case a_quotient => k_is)
    (case l_quotient => k_is)
    (case c_quotient => k_is)
    (case k_quotient => k_is)
    (case a_is_balanced_with => k_is)
    (case l_is_balanced_with => k_is)
    (case c_is_balanced_with => k_is)
    (case k_is_balanced_with => k_is)
    (case a_is_balanced => k_is)
    (case l_is_balanced => k_is)
    (case c_is_balanced => k_is)
    (case k_is_balanced => k_is)
    (case a_shows_imbalance => k_is)
    (case l_shows_imbalance => k_is)
    (case c_shows_imbalance => k_is)
    (case k_shows_imbalance => k_is)
    (case a_balance_paper => k_is)
    (case l_balance_paper => k_is)
    (case c_balance_paper => k_is)
    (case k_balance_paper => k_is)
    (case a_cuts => k_is)
    (case l_cuts => k_is)
    (case c_cuts => k_is)
    (case k_cuts => k_is)
    (case a_multipliers => k_is)
    (case l_multipliers => k_is)
    (case c_multipliers => k_is)
    (case k_multipliers => k_is)
    (case a_is_cyclic => k_is)
    (case l_is_cyclic => k_is)
    (case c_is_cyclic => k_is)
    (case k_is_cyclic => k_is)
    (case a_wheel => k_is)
    (case l_wheel => k_is)
    (case c_wheel => k_is)
    (case k_wheel => k_is)
    (case a_wheels => k_is)
    (case l_wheels => k_is)
    (case c_wheels => k_is)
    (case k_wheels => k_is)
    (case a_rotation => k_is)
    (case l_rotation => k_is)
    (case c_rotation => k_is)
    (case k_rotation => k_is)
    (case a_law_ten_right => k_is)
    (case l_law_ten_right => k_is)
    (case c_law_ten_right => k_is)
    (case k_law_ten_right => k_is)
    (case a_law_bases_right => k_is)
    (case l_law_bases_right => k_is)
    (case c_law_bases_right => k_is)
    (case k_law_bases_right => k_is)
    (case a_law => k_is)
    (case l_law => k_is)
    (case c_law => k_is)
    (case k_law => k_is)
    (case zb_isinstance => k_is)
    (case zb_int => k_is)
    (case zb_bool => k_is)
    (case zb_len => k_is)
    (case zb_range => k_is)
    (case zb_tuple => k_is)
    (case zb_sum => k_is)
    (case zb_enumerate => k_is)
    (case zb_sorted => k_is)
    (case zb_all => k_is)
    (case zb_LookupError => k_is)
    (case zb_set => k_is)
    (case zb_gcd => k_is)
    (case zc_MOST_BASE => k_is)
    (case zc_MOST_DENOMINATOR => k_is)
    (case zc_MOST_DIGITS => k_is)
    (case zc_LAST_PLACE => k_is)
