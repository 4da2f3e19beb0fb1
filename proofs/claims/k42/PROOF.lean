import PyProof.Rows.All
import Wide.All
import OpenK.AllK
import Wide.FinOn
import HandS.ForMost
import HandS.Wide
import HandS.Gcd
import HandS.IsInst
import HandS.TupAny
import HandS.Style
import PyProof.ReprBulk
import PyProof.ReprRoads
import PyProof.ReprLen
import PyProof.Rows.SumAny
import PyProof.WalksMore
import HandS.SetFor
import HandS.Strs
import HandS.TupMul
import HandS.ListItems
import HandS.SortRule
import KE.KExcInit
import HandS.ExcInit
import HandS.ExcValue
import HandS.ExcField
import HandS.ExcIs
import HandS.ClsMeth
import KE.KExcIs
import KE.KTryMore
import HandS.TryMany
import HandS.Lambda
import KE.KDflt
import HandS.EndTab
import KE.KExcLine
import HandS.ExcOwn
import KE.KMathG
import HandS.SortInts
import HandS.WordsExc
import HandS.Conv
import HandS.More
import KE.RegKIsAll
import PySem.Challenge.RW_wheelnines_k42_whole_sums
set_option Elab.async false
set_option linter.all false
set_option maxRecDepth 100000
set_option maxHeartbeats 4000000
namespace Wn
open PySem PySem.Spec PyProof.Rows L2
/-! a def of the text as it stands: where, its facts, its name -/
structure Dn (K : PySem.W.Frag) (mg : Str → Option Value) (x : Str) (st : Stmt) (ps : List Str) where
  f : Addr
  fd : FuncData
  F : Fun K x x st f fd
  e : ∀ us : List Value, us.length = ps.length → bindArgs fd ⟨us, []⟩ = pure (ps.zip us)
  m : mg x = some (.ref f)
theorem Dn.b {K : PySem.W.Frag} {mg : Str → Option Value} {x : Str} {st : Stmt} {ps : List Str} (D : Dn K mg x st ps) : Binds K D.fd ps [] := .all D.e
def Dn.of {K : PySem.W.Frag} {h : Heap} {mg : Str → Option Value} {x : Str} {st : Stmt} {ps : List Str} {f : Addr} {oc kV doc pm cdv ct : Value} {od an : Option Addr} {osl : Array (Option Value)} (X : K.In h) (G : h.Ns mainGlobals mg)
    (hb : ∀ us : List Value, us.length = ps.length → bindArgs (PySem.W.fnOf x x (defArgs st) (defBody st) (defScope st) .none kV doc pm an cdv ct) ⟨us, []⟩ = pure (ps.zip us))
    (a : PySem.W.nsIn K mainGlobals x = some (some (.ref f))) (l : K.lookup f = some ⟨oc, od, .func (PySem.W.fnOf x x (defArgs st) (defBody st) (defScope st) .none kV doc pm an cdv ct), osl⟩)
    (c : PySem.W.codeIn K cdv x = true) (k : PySem.W.keepIn K (.ref f) = true) : Dn K mg x st ps := ⟨f, _, fun_mk l c k, hb, PySem.W.mg_of X G a⟩
/-! all that stood stands, but what is at W -/
def Gr (W : List Addr) (H H' : Hp) : Prop := ∀ a o, a ∉ W → H a = some o → H' a = some o
theorem Gr.refl (W : List Addr) (H : Hp) : Gr W H H := fun _ _ _ h => h
theorem Gr.trans {W : List Addr} {H H1 H2 : Hp} (a : Gr W H H1) (b : Gr W H1 H2) : Gr W H H2 := fun x o n h => b x o n (a x o n h)
theorem Gr.new {W : List Addr} {H : Hp} {p : Addr} {o : HO} (h : H p = none) : Gr W H (upd H p o) := fun a u _ e => by
  rw [upd_ne (ne_of_none e h)]
  exact e
theorem Gr.wr {W : List Addr} {H : Hp} {p : Addr} {o : HO} (h : p ∈ W) : Gr W H (upd H p o) := fun a u n e => by
  have z : a ≠ p := fun z => by
    subst z
    exact n h
  rw [upd_ne z]
  exact e
theorem Gr.mono {W W' : List Addr} {H H' : Hp} (h : ∀ a, a ∈ W → a ∈ W') (g : Gr W H H') : Gr W' H H' := fun a o n e => g a o (fun z => n (h a z)) e
end Wn
/-! the mathematics: powers, remainders, pure parts, periods, heads -/
namespace Wn
theorem cop_pow {a b : Nat} (h : Nat.gcd a b = 1) (k : Nat) : Nat.gcd (a ^ k) b = 1 := Nat.Coprime.pow_left k h
theorem mod_iff {p a c : Nat} (h : a ≤ c) : a % p = c % p ↔ p ∣ c - a := by
  constructor
  · intro e
    exact Nat.dvd_of_mod_eq_zero (Nat.sub_mod_eq_zero_of_mod_eq e.symm)
  · rintro ⟨t, e⟩
    have : c = a + p * t := by omega
    rw [this, Nat.add_mul_mod_self_left]
/-! a pigeonhole -/
theorem nodup_le : ∀ (n : Nat) (l : List Nat), l.Nodup → (∀ x ∈ l, x < n) → l.length ≤ n := by
  intro n
  induction n with
  | zero =>
    intro l _ h
    cases l with
    | nil => exact Nat.le_refl _
    | cons x r => exact absurd (h x (List.mem_cons_self ..)) (Nat.not_lt_zero _)
  | succ n ih =>
    intro l nd h
    have h1 := ih (l.erase n) (nd.erase n) (fun x hx => by
      have hm := List.mem_of_mem_erase hx
      have hlt := h x hm
      have hne : x ≠ n := fun e => by
        subst e
        exact (List.Nodup.not_mem_erase nd) hx
      omega)
    by_cases hn : n ∈ l
    · rw [List.length_erase_of_mem hn] at h1
      omega
    · rw [List.erase_of_not_mem hn] at h1
      omega
/-- among n + 1 numbers below n two are the same -/
theorem pigeon (n : Nat) (f : Nat → Nat) (h : ∀ i, i ≤ n → f i < n) : ∃ i j, i < j ∧ j ≤ n ∧ f i = f j := by
  by_cases nd : ((List.range (n + 1)).map f).Nodup
  · have := nodup_le n _ nd (fun x hx => by
      obtain ⟨i, hi, e⟩ := List.mem_map.mp hx
      rw [← e]
      exact h i (by have := List.mem_range.mp hi; omega))
    rw [List.length_map, List.length_range] at this
    omega
  · rw [List.nodup_iff_pairwise_ne, List.pairwise_map] at nd
    apply Classical.byContradiction
    intro hc
    apply nd
    rw [List.pairwise_iff_getElem]
    intro i j hi hj hij e
    rw [List.getElem_range, List.getElem_range] at e
    rw [List.length_range] at hj
    exact hc ⟨i, j, hij, by omega, e⟩
/-! pure parts -/
def IsPure (b n p : Nat) : Prop := Nat.gcd b p = 1 ∧ ∃ q k, n = p * q ∧ q ∣ b ^ k
theorem cop_of_dvd_pow {b p q k : Nat} (h : Nat.gcd b p = 1) (hq : q ∣ b ^ k) : Nat.gcd p q = 1 := by
  have h1 : Nat.gcd (b ^ k) p = 1 := cop_pow h k
  have h2 : Nat.gcd p q ∣ Nat.gcd (b ^ k) p := Nat.dvd_gcd (Nat.dvd_trans (Nat.gcd_dvd_right p q) hq) (Nat.gcd_dvd_left p q)
  rw [h1] at h2
  exact Nat.dvd_one.mp h2
theorem IsPure.dvd {b n p p' : Nat} (h : IsPure b n p) (h' : IsPure b n p') : p ∣ p' := by
  obtain ⟨g, q, k, e, hq⟩ := h
  obtain ⟨g', q', k', e', hq'⟩ := h'
  have c : Nat.Coprime p q' := cop_of_dvd_pow g hq'
  refine c.dvd_of_dvd_mul_right ?_
  rw [← e', e]
  exact Nat.dvd_mul_right p q
theorem IsPure.uniq {b n p p' : Nat} (h : IsPure b n p) (h' : IsPure b n p') : p = p' := Nat.dvd_antisymm (h.dvd h') (h'.dvd h)
theorem IsPure.self {b n : Nat} (h : Nat.gcd b n = 1) : IsPure b n n := ⟨h, 1, 0, by simp, by simp⟩
/-! periods -/
def IsPer (b p d : Nat) : Prop := 1 ≤ d ∧ b ^ d % p = 1 % p ∧ ∀ j, 1 ≤ j → j < d → b ^ j % p ≠ 1 % p
theorem IsPer.uniq {b p d d' : Nat} (h : IsPer b p d) (h' : IsPer b p d') : d = d' := by
  obtain ⟨h1, h2, h3⟩ := h
  obtain ⟨g1, g2, g3⟩ := h'
  apply Nat.le_antisymm
  · apply Nat.le_of_not_lt
    intro l
    exact h3 d' g1 l g2
  · apply Nat.le_of_not_lt
    intro l
    exact g3 d h1 l h2
theorem least (P : Nat → Prop) [DecidablePred P] : ∀ n, P n → ∃ m, m ≤ n ∧ P m ∧ ∀ j, j < m → ¬ P j := by
  intro n
  induction n using Nat.strongRecOn with
  | _ n ih =>
    intro hn
    by_cases h : ∃ j, j < n ∧ P j
    · obtain ⟨j, hj, pj⟩ := h
      obtain ⟨m, hm, pm, q⟩ := ih j hj pj
      exact ⟨m, by omega, pm, q⟩
    · exact ⟨n, Nat.le_refl _, hn, fun j hj pj => h ⟨j, hj, pj⟩⟩
/-- a common factor that is pure may go: b ^ i * c ≡ b ^ i * d -/
theorem mod_cancel {p a c d : Nat} (g : Nat.gcd a p = 1) (h : a * c % p = a * d % p) : c % p = d % p := by
  have key : ∀ {c d : Nat}, c ≤ d → a * c % p = a * d % p → c % p = d % p := by
    intro c d hcd h
    have h1 : p ∣ a * (d - c) := by
      rw [Nat.mul_sub]
      exact (mod_iff (Nat.mul_le_mul_left a hcd)).mp h
    have h2 : p ∣ d - c := Nat.Coprime.dvd_of_dvd_mul_left (Nat.Coprime.symm g) h1
    exact (mod_iff hcd).mpr h2
  rcases Nat.le_total c d with l | l
  · exact key l h
  · exact (key l h.symm).symm
theorem per_exists {b p : Nat} (hp : 1 ≤ p) (g : Nat.gcd b p = 1) : ∃ d, d ≤ p ∧ IsPer b p d := by
  obtain ⟨i, j, hij, hj, e⟩ := pigeon p (fun k => b ^ k % p) (fun i _ => Nat.mod_lt _ hp)
  have e1 : b ^ (j - i) % p = 1 % p := by
    have e' : b ^ i * b ^ (j - i) % p = b ^ i * 1 % p := by
      rw [← Nat.pow_add, show i + (j - i) = j by omega, Nat.mul_one]
      exact e.symm
    exact mod_cancel (cop_pow g i) e'
  obtain ⟨m, hm, ⟨pm1, pm⟩, q⟩ := least (fun k => 1 ≤ k ∧ b ^ k % p = 1 % p) (j - i) ⟨by omega, e1⟩
  exact ⟨m, by omega, pm1, pm, fun k k1 kl z => q k kl ⟨k1, z⟩⟩
theorem pow_mod_step (b p k : Nat) : b ^ k % p * b % p = b ^ (k + 1) % p := by
  rw [Nat.mod_mul_mod, Nat.pow_succ]
theorem IsPer.mul {b p d : Nat} (h : IsPer b p d) (k : Nat) : b ^ (d * k) % p = 1 % p := by
  induction k with
  | zero => simp
  | succ k ih =>
    rw [Nat.mul_succ, Nat.pow_add, Nat.mul_mod, ih, h.2.1, ← Nat.mul_mod, Nat.mul_one]
theorem IsPer.iff {b p d : Nat} (h : IsPer b p d) (k : Nat) : b ^ k % p = 1 % p ↔ d ∣ k := by
  have e : b ^ k % p = b ^ (k % d) % p := by
    have := Nat.div_add_mod k d
    rw [show b ^ k = b ^ (d * (k / d) + k % d) by rw [this], Nat.pow_add, Nat.mul_mod, h.mul, ← Nat.mul_mod, Nat.one_mul]
  constructor
  · intro hk
    rw [e] at hk
    apply Nat.dvd_of_mod_eq_zero
    apply Classical.byContradiction
    intro hz
    exact h.2.2 (k % d) (by omega) (Nat.mod_lt _ h.1) hk
  · rintro ⟨m, rfl⟩
    exact h.mul m
/-! heads -/
def IsHead (b q h : Nat) : Prop := b ^ h % q = 0 ∧ ∀ j, j < h → b ^ j % q ≠ 0
theorem IsHead.uniq {b q h h' : Nat} (a : IsHead b q h) (c : IsHead b q h') : h = h' := by
  apply Nat.le_antisymm
  · apply Nat.le_of_not_lt
    intro l
    exact a.2 h' l c.1
  · apply Nat.le_of_not_lt
    intro l
    exact c.2 h l a.1
theorem head_exists {b q k : Nat} (h : q ∣ b ^ k) : ∃ m, m ≤ k ∧ IsHead b q m := by
  obtain ⟨m, hm, pm, r⟩ := least (fun j => b ^ j % q = 0) k (Nat.mod_eq_zero_of_dvd h)
  exact ⟨m, hm, pm, r⟩
theorem IsHead.iff {b q h : Nat} (a : IsHead b q h) (k : Nat) : q ∣ b ^ k ↔ h ≤ k := by
  constructor
  · intro d
    apply Nat.le_of_not_lt
    intro l
    exact a.2 k l (Nat.mod_eq_zero_of_dvd d)
  · intro l
    have d : q ∣ b ^ h := Nat.dvd_of_mod_eq_zero a.1
    rw [show k = h + (k - h) by omega, Nat.pow_add]
    exact Nat.dvd_trans d (Nat.dvd_mul_right _ _)
theorem head_le {b q h : Nat} (hq : 1 ≤ q) (a : IsHead b q h) : h ≤ q := by
  apply Nat.le_of_not_lt
  intro l
  -- among the first q + 1 remainders two are the same: then none is nought behind
  obtain ⟨i, j, hij, hj, e⟩ := pigeon q (fun k => b ^ k % q) (fun i _ => Nat.mod_lt _ hq)
  have key : ∀ k, b ^ (i + k) % q = b ^ (j + k) % q := by
    intro k
    rw [Nat.pow_add, Nat.pow_add, Nat.mul_mod, e, ← Nat.mul_mod]
  have hz : b ^ (j + (h - j)) % q = 0 := by
    rw [show j + (h - j) = h by omega]
    exact a.1
  rw [← key] at hz
  exact a.2 (i + (h - j)) (by omega) hz
/-! remainders -/
def rem (b n x i : Nat) : Nat := x * b ^ i % n
theorem rem_lt {b n x i : Nat} (h : 1 ≤ n) : rem b n x i < n := Nat.mod_lt _ h
theorem rem_succ (b n x i : Nat) : rem b n x i * b % n = rem b n x (i + 1) := by
  unfold rem
  rw [Nat.mod_mul_mod, Nat.pow_succ, Nat.mul_assoc]
theorem rem_zero {b n x : Nat} (h : x < n) : rem b n x 0 = x := by
  unfold rem
  rw [Nat.pow_zero, Nat.mul_one, Nat.mod_eq_of_lt h]
/-- THE RING: when remainders come again -/
theorem rem_eq {b n x p q h L i j : Nat} (gx : Nat.gcd x n = 1) (e : n = p * q) (gp : Nat.gcd b p = 1) (gq : Nat.gcd p q = 1) (hh : IsHead b q h) (hL : IsPer b p L) (hij : i < j) :
    rem b n x i = rem b n x j ↔ h ≤ i ∧ L ∣ j - i := by
  have hle : b ^ i ≤ b ^ j ∨ b = 0 := by
    rcases Nat.eq_zero_or_pos b with z | z
    · exact .inr z
    · exact .inl (Nat.pow_le_pow_right z (Nat.le_of_lt hij))
  have hs : b ^ j = b ^ i * b ^ (j - i) := by rw [← Nat.pow_add, show i + (j - i) = j by omega]
  unfold rem
  constructor
  · intro hr
    have h1 : b ^ i % n = b ^ j % n := mod_cancel gx hr
    have hp : b ^ i % p = b ^ j % p := by
      have := congrArg (· % p) h1
      rw [e, Nat.mod_mul_right_mod, Nat.mod_mul_right_mod] at this
      exact this
    have hq : b ^ i % q = b ^ j % q := by
      have := congrArg (· % q) h1
      rw [e, Nat.mod_mul_left_mod, Nat.mod_mul_left_mod] at this
      exact this
    have dL : L ∣ j - i := by
      rw [← hL.iff]
      refine mod_cancel (cop_pow gp i) ?_
      rw [← hs, Nat.mul_one]
      exact hp.symm
    refine ⟨?_, dL⟩
    rw [← hh.iff]
    -- q divides b ^ i * (b ^ (j - i) - 1), and b ^ (j - i) is a multiple that goes on: take many turns
    have key : ∀ k, b ^ i % q = b ^ (i + (j - i) * k) % q := by
      intro k
      induction k with
      | zero => simp
      | succ k ih =>
        rw [show i + (j - i) * (k + 1) = (j - i) + (i + (j - i) * k) by rw [Nat.mul_succ]; omega, Nat.pow_add, Nat.mul_mod, ← ih, ← Nat.mul_mod, ← Nat.pow_add, show (j - i) + i = j by omega]
        exact hq
    have hz : b ^ (i + (j - i) * h) % q = 0 := by
      apply Nat.mod_eq_zero_of_dvd
      rw [hh.iff]
      have : h ≤ (j - i) * h := Nat.le_mul_of_pos_left h (by omega)
      omega
    exact Nat.dvd_of_mod_eq_zero ((key h).trans hz)
  · rintro ⟨h1, h2⟩
    have hp : b ^ (j - i) % p = 1 % p := (hL.iff _).mpr h2
    have hqd : q ∣ b ^ i := (hh.iff i).mpr h1
    have hpd : b ^ i % p = b ^ j % p := by
      rw [hs, Nat.mul_mod, hp, ← Nat.mul_mod, Nat.mul_one]
    have both : b ^ i % n = b ^ j % n := by
      rcases hle with hle | hb
      · apply (mod_iff hle).mpr
        rw [e]
        refine Nat.Coprime.mul_dvd_of_dvd_of_dvd gq ?_ ?_
        · exact (mod_iff hle).mp hpd
        · rw [hs, ← Nat.mul_sub_one]
          exact Nat.dvd_trans hqd (Nat.dvd_mul_right _ _)
      · subst hb
        have hp1 : p = 1 := by rw [Nat.gcd_zero_left] at gp; exact gp
        subst hp1
        rw [Nat.one_mul] at e
        subst e
        rw [Nat.mod_eq_zero_of_dvd hqd, Nat.mod_eq_zero_of_dvd (by rw [hs]; exact Nat.dvd_trans hqd (Nat.dvd_mul_right _ _))]
    rw [Nat.mul_mod, both, ← Nat.mul_mod]
/-! all of a denominator in a base -/
structure Par (b n p q h L : Nat) : Prop where
  hp : IsPure b n p
  e : n = p * q
  hh : IsHead b q h
  hL : IsPer b p L
theorem pure_exists (b : Nat) : ∀ n, 1 ≤ n → ∃ p, IsPure b n p := by
  intro n
  induction n using Nat.strongRecOn with
  | _ n ih =>
    intro hn
    by_cases g : Nat.gcd b n = 1
    · exact ⟨n, IsPure.self g⟩
    · obtain ⟨c, hc⟩ := Nat.gcd_dvd_right b n
      have hg : 1 ≤ Nat.gcd b n := Nat.gcd_pos_of_pos_right b hn
      have hc1 : 1 ≤ c := by
        rcases Nat.eq_zero_or_pos c with z | z
        · rw [z] at hc
          omega
        · exact z
      have hcn : c < n := by
        have hg2 : 2 ≤ Nat.gcd b n := by omega
        have : 2 * c ≤ Nat.gcd b n * c := Nat.mul_le_mul_right c hg2
        omega
      obtain ⟨p, hp, q, k, e, d⟩ := ih c hcn hc1
      refine ⟨p, hp, Nat.gcd b n * q, k + 1, ?_, ?_⟩
      · conv => lhs; rw [hc, e]
        rw [Nat.mul_left_comm]
      · rw [Nat.pow_succ, Nat.mul_comm (b ^ k) b]
        exact Nat.mul_dvd_mul (Nat.gcd_dvd_left b n) d
theorem par_exists {b n : Nat} (hn : 1 ≤ n) : ∃ p q h L, Par b n p q h L := by
  obtain ⟨p, hp⟩ := pure_exists b n hn
  obtain ⟨g, q, k, e, d⟩ := id hp
  obtain ⟨h, _, hh⟩ := head_exists d
  have hp1 : 1 ≤ p := by
    rcases Nat.eq_zero_or_pos p with z | z
    · rw [z] at e
      omega
    · exact z
  obtain ⟨L, _, hL⟩ := per_exists hp1 g
  exact ⟨p, q, h, L, hp, e, hh, hL⟩
section
variable {b n p q h L : Nat}
theorem Par.p1 (P : Par b n p q h L) (hn : 1 ≤ n) : 1 ≤ p := by
  rcases Nat.eq_zero_or_pos p with z | z
  · have := P.e
    rw [z] at this
    omega
  · exact z
theorem Par.q1 (P : Par b n p q h L) (hn : 1 ≤ n) : 1 ≤ q := by
  rcases Nat.eq_zero_or_pos q with z | z
  · have := P.e
    rw [z] at this
    omega
  · exact z
theorem Par.pn (P : Par b n p q h L) (hn : 1 ≤ n) : p ≤ n := Nat.le_of_dvd hn ⟨q, P.e⟩
theorem Par.qn (P : Par b n p q h L) (hn : 1 ≤ n) : q ≤ n := Nat.le_of_dvd hn ⟨p, by rw [P.e, Nat.mul_comm]⟩
theorem Par.Ln (P : Par b n p q h L) (hn : 1 ≤ n) : L ≤ n := by
  obtain ⟨d, hd, hd'⟩ := per_exists (P.p1 hn) P.hp.1
  have := hd'.uniq P.hL
  have := P.pn hn
  omega
theorem Par.hn (P : Par b n p q h L) (hn : 1 ≤ n) : h ≤ n := Nat.le_trans (head_le (P.q1 hn) P.hh) (P.qn hn)
theorem Par.gq (P : Par b n p q h L) (hn : 1 ≤ n) : Nat.gcd p q = 1 := by
  obtain ⟨g, q', k, e, d⟩ := P.hp
  have : q' = q := by
    have := P.e
    rw [e] at this
    exact Nat.eq_of_mul_eq_mul_left (P.p1 hn) this
  subst this
  exact cop_of_dvd_pow g d
/-- the end of a row of remainders -/
theorem ring_end {x i j : Nat} (P : Par b n p q h L) (hn : 1 ≤ n) (gx : Nat.gcd x n = 1) (hd : ∀ u v, u < v → v < i → rem b n x u ≠ rem b n x v) (hj : j < i) (e : rem b n x j = rem b n x i) : i = h + L ∧ j = h := by
  have F := fun {u v : Nat} (l : u < v) => rem_eq (x := x) gx P.e P.hp.1 (P.gq hn) P.hh P.hL l
  obtain ⟨h1, h2⟩ := (F hj).mp e
  have hL1 := P.hL.1
  have hle := Nat.le_of_dvd (by omega) h2
  have hi : i ≤ h + L := by
    apply Nat.le_of_not_lt
    intro l
    exact hd h (h + L) (by omega) l ((F (by omega)).mpr ⟨Nat.le_refl _, by rw [show h + L - h = L by omega]; exact Nat.dvd_refl _⟩)
  omega
end
end Wn
namespace Wn
open PySem PySem.Spec PyProof.Rows L2
theorem CallR.imp {X : Cx} {f : Value} {r r' : List V → Hp → VK → Prop} (h : CallR X f r) (i : ∀ vs H Q, r' vs H Q → r vs H Q) : CallR X f r' :=
  fun pins s σ H vs us Q I rv x => h pins s σ H vs us Q I rv (i _ _ _ x)
/-! the built-in type of a value -/
def isB (T n : String) : Bool := T == n || (T == "bool" && n == "int")
def tyNames : List String := ["NoneType", "bool", "int", "str", "list", "tuple", "dict"]
def qyNames : List String := ["bool", "int", "str", "list", "tuple", "dict"]
theorem isB_ok : ∀ T ∈ tyNames, ∀ n ∈ qyNames, kitB T n = some (isB T n) := by decide +kernel
def rIs (K : PySem.W.Frag) : List V → Hp → VK → Prop := fun xs H Q => ∃ (x : V) (n : String), xs = [x, .ty n] ∧ ∃ T : String, (TyX K H x (.type T) ∧ T ∈ tyNames ∧ n ∈ qyNames) ∧ Q (.bl (isB T n)) H
theorem call_is {X : Cx} : CallR X (.builtin "isinstance") (rIs X.K) := CallR.imp call_isi fun vs H Q h => by
  obtain ⟨x, n, e, T, ⟨h1, h2, h3⟩, q⟩ := h
  exact ⟨x, .ty n, .type T, .type n, isB T n, e, .ty n, h1, kit_ty (isB_ok T h2 n h3), q⟩
theorem ty_int {K : PySem.W.Frag} {H : Hp} {i : Int} : TyX K H (.int i) (.type "int") := .base (.int i)
theorem ty_tup {K : PySem.W.Frag} {H : Hp} {a : Addr} {xs : List V} (h : H a = some (.tup xs)) : TyX K H (.ref a) (.type "tuple") := .base (.tup h)
theorem cxK {CX : CXT} {P : Program} {w : World} {K : PySem.W.Frag} {mg : Str → Option Value} {base : Heap} {N : List Str} {q : Str} {sc : Scope} {f : Addr} {cdv : Value} {A : Around} {outer : List Env} {s : Shared} {H : Hp} {E : XK} :
    (cxOf CX P w K mg base N q sc f cdv A outer s H E).nox.K = K := rfl
theorem cxK2 {CX : CXT} {P : Program} {w : World} {K : PySem.W.Frag} {mg : Str → Option Value} {base : Heap} {N : List Str} {q : Str} {sc : Scope} {f : Addr} {cdv : Value} {A : Around} {outer : List Env} {s : Shared} {H : Hp} {E : XK} :
    (cxOf CX P w K mg base N q sc f cdv A outer s H E).K = K := rfl
theorem start1 (x : Str) (N : List Str) (v : V) (vs : List V) : L2.start (x :: N) (v :: vs) = some v :: L2.start N vs := by
  unfold L2.start
  simp
theorem start2 (x : Str) (N : List Str) : L2.start (x :: N) [] = none :: L2.start N [] := by
  unfold L2.start
  simp [List.replicate_succ]
theorem start3 : L2.start [] [] = [] := rfl
theorem sq_tup {K : PySem.W.Frag} {H : Hp} {a : Addr} {xs : List V} (h : H a = some (.tup xs)) : SqT K H a xs := .inl (.inl h)
theorem sq_lst {K : PySem.W.Frag} {H : Hp} {a : Addr} {xs : List V} (h : H a = some (.lst xs)) : SqL K H a xs := .inl (.inl h)
theorem slA_of {K : PySem.W.Frag} {H : Hp} {a : Addr} {xs : List V} {lo hi : Option Int} {Q : VK} (h : H a = some (.tup xs)) (q : ∀ p H', Gr [] H H' → H' p = some (.tup (cutV xs lo hi)) → Q (.ref p) H') : rSlA K (.ref a) lo hi H Q := by
  refine ⟨a, xs, rfl, sq_tup h, ?_, ?_⟩
  · intro e
    refine q a H (Gr.refl _ _) ?_
    have z : cutV xs lo hi = xs := by
      unfold cutV
      rw [e.1, e.2, List.drop_zero, Nat.sub_zero, List.take_length]
    rw [z]
    exact h
  · intro _ p np
    exact q p _ (Gr.new np) upd_same
def rLn (K : PySem.W.Frag) : List V → Hp → VK → Prop := fun xs H Q => ∃ p ys, xs = [.ref p] ∧ (SqL K H p ys ∨ SqT K H p ys) ∧ Q (.int ys.length) H
theorem call_ln {X : Cx} : CallR X (.builtin "len") (rLn X.K) := call_len_seq
def rLsO (K : PySem.W.Frag) : List V → Hp → VK → Prop := fun xs H Q => ∃ p ys, xs = [.ref p] ∧ (SqL K H p ys ∨ SqT K H p ys) ∧ ∀ l, H l = none → Q (.ref l) (upd H l (.lst ys))
theorem call_lsO {X : Cx} : CallR X (.type "list") (rLsO X.K) := call_list_of
def rTpO (K : PySem.W.Frag) : List V → Hp → VK → Prop := fun xs H Q => ∃ p ys, xs = [.ref p] ∧ ((SqL K H p ys ∧ ∀ l, H l = none → Q (.ref l) (upd H l (.tup ys))) ∨ (SqT K H p ys ∧ Q (.ref p) H))
theorem call_tpO {X : Cx} : CallR X (.type "tuple") (rTpO X.K) := call_tuple_of
theorem cut_lo {xs : List V} {k : Nat} (h : k ≤ xs.length) : cutV xs none (some (k : Int)) = xs.take k := by
  unfold cutV
  rw [HT.sIx_nat, HT.sIx_none, List.drop_zero, Nat.sub_zero, Nat.min_eq_left h]
theorem cut_hi {xs : List V} {k : Nat} (h : k ≤ xs.length) : cutV xs (some (k : Int)) none = xs.drop k := by
  unfold cutV
  rw [HT.sIx_nat, HT.sIx_none, Nat.min_eq_left h]
  exact List.take_of_length_le (by rw [List.length_drop]; omega)
theorem icm (a b n : Nat) : (a : Int) * (b : Int) % (n : Int) = ((a * b % n : Nat) : Int) := by
  rw [← Int.natCast_mul, ← Int.natCast_emod]
theorem icd (a b n : Nat) : (a : Int) * (b : Int) / (n : Int) = ((a * b / n : Nat) : Int) := by
  rw [← Int.natCast_mul, ← Int.natCast_ediv]
local macro_rules | `(tactic| walk_at "vc") => `(tactic| simp only [cxK, cxK2, start1, start2, start3, tRet, tRetN, tSeq, tNext, tIfS, tAsg, gName, tDrop, tVar, tC, tOp, tUn, tTest, tB, tNot, tAnd, tOr, tAndV, tOrV, tNotV, tIf, tCons, tNil, tCB, tCall, tChain, tAug, ipI, rI, rI0, rU, rIs, rGcd, rEq, rNe, scal,
  List.getElem?_cons_zero, List.getElem?_cons_succ, List.set_cons_zero, List.set_cons_succ, Option.some.injEq, List.cons.injEq, V.int.injEq, V.bl.injEq, V.ref.injEq, V.str.injEq, and_true, true_and, exists_eq_left, exists_eq_left', exists_and_left, exists_and_right, List.append_nil, List.nil_append, List.cons_append, exists_eq_right, exists_eq_right', and_assoc, exists_const, V.ty.injEq, ↓reduceIte, Bool.false_eq_true, Bool.not_true, Bool.not_false, decide_eq_true_eq])
end Wn
/-! contracts where nothing is being shown (no repr runs around): for defs that ask repr of lists, tuples, dicts -/
namespace Wn
open PySem PySem.Spec PyProof.Rows L2
structure FnG (P : Program) (w : World) (K : PySem.W.Frag) (mg : Str → Option Value) (base : Heap) (CX : CXT) (k : Nat) (f : Addr) (fd : FuncData) (ps : List Str) (sp : Sp) : Prop where
  sz : ∀ vs H Q E, sp vs H Q E → vs.length = ps.length
  go : ∀ (A : Around), A.guards = some [] → Room k A → ∀ (outer : List Env) (s : Shared) (H : Hp) (args : Args) (us : List Value) (vs : List V) (Q : VK) (E : XK),
    Env0 P w K mg base A outer s H → BindsTo s fd args (ps.zip us) → Vals vs us → sp vs H Q E → codeAny (model P w) A (.call (.ref f) args) (CR CX outer P w H s Q E) s
section
variable {P : Program} {w : World} {K : PySem.W.Frag} {mg : Str → Option Value} {base : Heap} {CX : CXT} {k : Nat} {f : Addr} {fd : FuncData} {ps : List Str} {sp : Sp}
theorem FnG.of (F : FnOk P w K mg base CX k f fd ps sp) : FnG P w K mg base CX k f fd ps sp :=
  ⟨F.len, fun A _ hr outer s H args us vs Q E e b v h => F.run A outer s H args us vs Q E hr e b v h⟩
theorem FnG.up {j : Nat} (F : FnG P w K mg base CX j f fd ps sp) (h : j ≤ k) : FnG P w K mg base CX k f fd ps sp :=
  ⟨F.sz, fun A hg hr => F.go A hg (hr.mono h)⟩
/-- a def by its body -/
theorem fnG {x qual : Str} {st : Stmt} {N : List Str} (F : Fun K x qual st f fd) (S : FnScope N ps (defScope st)) (sz : ∀ vs H Q E, sp vs H Q E → vs.length = ps.length)
    (body : ∀ (cdv : Value) (A : Around) (outer : List Env) (s : Shared) (H : Hp) (vs : List V) (Q : VK) (E : XK), (A.deeper (envOfC qual (defScope st) s.heap.objs.size f cdv)).guards = some [] →
      Room k (A.deeper (envOfC qual (defScope st) s.heap.objs.size f cdv)) → sp vs H Q E →
      ∃ t, PSs (cxOf CX P w K mg base N qual (defScope st) f cdv A outer s H E) (defBody st) t ∧ t { nx := fun _ H' => Q .non H', rt := Q } (L2.start N vs) H) : FnG P w K mg base CX (k + 1) f fd ps sp := by
  obtain ⟨oc, od, kV, doc, pm, an, cdv, ct, osl, rfl, lk, hcd⟩ := F.ex
  refine ⟨sz, fun A hgd hr outer s H args us vs Q E e0 hb r h => ?_⟩
  have KI : K.In s.heap := e0.mod.kin.keeps fun b o e => (e0.bs b o e).1
  have NL : s.heap.NoLimit := e0.mod.nolimit.keeps fun b o e => (e0.bs b o e).1
  refine codeAny_call_function hr.depth (KI _ _ lk) rfl S.co S.gen rfl (PySem.W.codeRec_of KI hcd) (hb _ _ _ _ ?_)
  refine wpAny_newFunctionEnv_cells S.kind (fun y hy => ?_) fun env he s1 x => ?_
  · obtain ⟨n, v⟩ := y
    rcases S.par n (List.of_mem_zip hy).1 with q | q
    · exact .inl q
    · exact .inr ⟨q, PySem.W.cellsFrom_some _ _ _ (.inl q)⟩
  · subst he
    refine ⟨NL.keeps x.toInCall.keep, codeAny_func ?_⟩
    obtain ⟨t, ht, hq⟩ := body cdv A outer s H vs Q E hgd (hr.deeper _) h
    refine wpAny_mono (ht.run [] s1 _ H _ (inv_start S hr.hd e0 (sz _ _ _ _ h) r x) hq) (fun fl s' z => ?_) fun e s' z => z
    cases fl with
    | ret u =>
      obtain ⟨v, σ', H', J, rv, q⟩ := z
      exact ⟨v, H', J.os, J.bare, J.base, J.hok, rv, q⟩
    | next =>
      obtain ⟨σ', H', J, q⟩ := z
      exact ⟨.non, H', J.os, J.bare, J.base, J.hok, rfl, q⟩
    | brk =>
      obtain ⟨_, _, _, q⟩ := z
      exact q.elim
    | cont =>
      obtain ⟨_, _, _, q⟩ := z
      exact q.elim
/-- no exception leaves it -/
theorem fnG0 {x qual : Str} {st : Stmt} {N : List Str} (F : Fun K x qual st f fd) (S : FnScope N ps (defScope st)) (sz : ∀ vs H Q E, sp vs H Q E → vs.length = ps.length)
    (body : ∀ (cdv : Value) (A : Around) (outer : List Env) (s : Shared) (H : Hp) (vs : List V) (Q : VK) (E : XK), (A.deeper (envOfC qual (defScope st) s.heap.objs.size f cdv)).guards = some [] →
      Room k (A.deeper (envOfC qual (defScope st) s.heap.objs.size f cdv)) → sp vs H Q E →
      ∃ t, PSs (cxOf CX0 P w K mg base N qual (defScope st) f cdv A outer s H E).nox (defBody st) t ∧ t { nx := fun _ H' => Q .non H', rt := Q } (L2.start N vs) H) : FnG P w K mg base CX0 (k + 1) f fd ps sp :=
  fnG F S sz fun cdv A outer s H vs Q E g r h => let ⟨t, ht, q⟩ := body cdv A outer s H vs Q E g r h; ⟨t, ht.nox, q⟩
end
section
variable {X : Cx} {CX : CXT} {k : Nat} {f : Addr} {fd : FuncData} {ps : List Str} {sp : Sp} {dvs : List V} {ds : List Value} {E : XK} {x : Str} {p pos : Pos} {e : Expr} {es : List Expr} {t : TA}
theorem runG {pins : List (Addr × Obj)} {σ : L2.St} {H : Hp} {s : Shared} {Q : VK} {us : List Value} {vs : List V} (F : FnG X.prog X.w X.K X.mg X.base CX k f fd ps sp) (hgd : X.A.guards = some []) (hr : Room k X.A) (hb : Binds X.K fd ps ds) (hd : Vals dvs ds)
    (hx : Passes CX X E) (I : Inv X pins σ H s) (r : Vals vs us) (h : sp (vs ++ dvs) H Q E) : wpAny (model X.prog X.w) X.A (call (.ref f) us) (EP X pins σ Q) X.xe s := by
  have rr := r.append hd
  refine wpAny_call (codeAny_mono (F.go X.A hgd hr X.stack s H ⟨us, []⟩ (us ++ ds) (vs ++ dvs) Q E I.env0 (hb s us I.kIn (rr.length ▸ F.sz _ _ _ _ h)) rr h) fun z s' q => ?_)
  match z, q with
  | .error e, q => exact hx pins σ H s e s' I q
  | .ok (.ret u), q => exact I.after q
  | .ok .next, q => exact q.elim
  | .ok .brk, q => exact q.elim
  | .ok .cont, q => exact q.elim
theorem pe_callG (hgd : X.A.guards = some []) (F : FnG X.prog X.w X.K X.mg X.base CX k f fd ps sp) (hr : Room k X.A) (hg : Gl X x) (hm : X.mg x = some (.ref f)) (hk : PySem.W.keepIn X.K (.ref f) = true) (hb : Binds X.K fd ps ds) (hd : Vals dvs ds) (hx : Passes CX X E)
    (ha : PA X (e :: es) t) (hdb : (x == ("__debug__" : Str)) = false := by decide) (he : starEach (e :: es) X.env = (false, eval e X.env) :: starEach es X.env := by rfl) (hpl : (backTo pos (starEach es X.env)).any (·.1) = false := by rfl) :
    PE X (.Call (.Name x p) (e :: es) [] pos) (tCall sp dvs E t) :=
  ⟨fun pins s σ H Q I h => wpAny_Call_Name_kw (ld_glob I hg hm (PySem.W.callWith_K (h₀ := X.base) I.ok.mod.kin hk (thn (ha.run pos pins s σ H _ I h) fun us s1 ⟨vs, H1, I1, r, q⟩ => ⟨I1.kIn, runG F hgd hr hb hd hx I1 r q⟩) he hpl) hdb)⟩
theorem pe_callG0 (hgd : X.A.guards = some []) (F : FnG X.prog X.w X.K X.mg X.base CX k f fd ps sp) (hr : Room k X.A) (hg : Gl X x) (hm : X.mg x = some (.ref f)) (hk : PySem.W.keepIn X.K (.ref f) = true) (hb : Binds X.K fd ps ds) (hd : Vals dvs ds) (hx : Passes CX X E)
    (hdb : (x == ("__debug__" : Str)) = false := by decide) : PE X (.Call (.Name x p) [] [] pos) (tCall sp dvs E tNil) :=
  ⟨fun pins s σ H Q I h => wpAny_Call_Name_kw (ld_glob I hg hm (PySem.W.callWith_K0 I.kIn hk (runG (us := []) F hgd hr hb hd hx I .nil h)) hdb)⟩
end
/-! the law's own head -/
theorem law_callG {P : Program} {w : World} {K : PySem.W.Frag} {mg mb : Str → Option Value} {CX : CXT} {k : Nat} {fa a : Addr} {fd : FuncData} {x : Str} {sp : Sp} {s1 : Shared} {vs : List Value} {ns : List Int}
    (KX : K.In s1.heap) (hns : s1.heap.Ns mainGlobals mg) (hb : s1.heap.Ns builtinsNs mb) (hbb : ∀ x : Str, x ≠ "__name__" → mb x = bootBuiltins x) (hlim : s1.heap.NoLimit) (hg : s1.gens = #[])
    (ha : s1.heap.get? a = some { cls := .type "list", data := .seq vs.toArray }) (hi : IntsAre vs ns) (hl : ns.length ≤ sizeLine) (hr : Room k callerA)
    (F : ∀ base : Heap, K.In base → base.Ns mainGlobals mg → FnG P w K mg base CX k fa fd [x] sp) (hbind : ∀ (s : Shared) (u : Value), BindsTo s fd ⟨[u], []⟩ [(x, u)])
    (hsp : ∀ H : Hp, Only H → SqL K H a (ns.map V.int) → sp [.ref a] H (fun v _ => v = .bl true) fun _ _ _ => False)
    (hCX : ∀ H e s', CX [] H s1 (fun _ _ _ => False) e s' → False) :
    codeAny (model P w) callerA (.call (.ref fa) ⟨[.ref a], []⟩) (fun r s' => r = .ok (.ret (.bool true)) ∧ OldK s1.heap s'.heap ∧ s'.os = s1.os ∧ AllBare s'.gens) s1 := by
  -- the script is tracked, unless it is one of the text's own objects
  obtain ⟨H, hH⟩ : ∃ H : Hp, H = fun b => if b = a ∧ K.lookup a = none then some (.frz { cls := .type "list", data := .seq vs.toArray } (.lst (ns.map V.int))) else none := ⟨_, rfl⟩
  have at_ : ∀ b u, H b = some u → b = a ∧ K.lookup a = none ∧ u = .frz { cls := .type "list", data := .seq vs.toArray } (.lst (ns.map V.int)) := fun b u z => by
    rw [hH] at z
    dsimp only at z
    split at z
    · rename_i c
      exact ⟨c.1, c.2, (Option.some.inj z).symm⟩
    · cases z
  have off : ∀ b o, s1.heap.get? b = some o → (∀ q, K.lookup b = some q → True) → (∀ n, o.data ≠ .seq vs.toArray n) → H b = none := fun b o e _ d => by
    cases z : H b with
    | none => rfl
    | some u =>
      obtain ⟨rfl, _, _⟩ := at_ b u z
      rw [ha] at e
      cases e
      exact absurd rfl (d _)
  have kb : ∀ b o, K.lookup b = some o → H b = none := fun b o e => by
    cases z : H b with
    | none => rfl
    | some u =>
      obtain ⟨rfl, z2, _⟩ := at_ b u z
      rw [z2] at e
      cases e
  have ok : HOk P w H s1.heap := fun b u z => by
    obtain ⟨rfl, _, rfl⟩ := at_ b u z
    exact ⟨ha, by rw [List.length_map]; exact hl, vs, _, vals_ints hi, ha⟩
  have sq : SqL K H a (ns.map V.int) := by
    cases z : K.lookup a with
    | none =>
      refine .inl (.inr ⟨{ cls := .type "list", data := .seq vs.toArray }, ?_⟩)
      rw [hH]
      exact if_pos ⟨rfl, z⟩
    | some o =>
      have e := KX a o z
      rw [ha] at e
      cases e
      exact .inr ⟨_, vs.toArray, _, z, rfl, rfl, rfl, by rw [List.size_toArray, hi.length]; exact hl, by simpa using vals_ints hi⟩
  have only : Only H := fun b => by
    cases z : H b with
    | none => exact .inl rfl
    | some u =>
      obtain ⟨_, _, rfl⟩ := at_ b u z
      exact .inr ⟨_, _, rfl⟩
  have nsB : ∀ {b : Addr} {m : Str → Option Value}, s1.heap.Ns b m → (hidT s1.heap H).Ns b m := fun {b m} ⟨o, es, ep, e, d, r⟩ => ⟨o, es, ep, hidT_get e (off b o e (fun _ _ => trivial) fun n z => by rw [d] at z; cases z), d, r⟩
  have KB : K.In (hidT s1.heap H) := fun b o e => hidT_get (KX b o e) (kb b o e)
  have M : Mod K mg (hidT s1.heap H) := ⟨KB, nsB hns, ⟨mb, nsB hb, hbb⟩, let ⟨mc, h1, h2⟩ := hlim; ⟨mc, nsB h1, h2⟩⟩
  have E0' : Env0 P w K mg (hidT s1.heap H) callerA [] s1 H := ⟨rfl, M, fun b o e => of_hidT e, Nat.le_of_eq (hidT_size _ _), trivial, fun b z => absurd (show b ∈ ([] : List Addr) from z) (by simp), ok, .of_eq hg⟩
  refine codeAny_mono ((F _ KB (nsB hns)).go callerA rfl hr [] s1 H ⟨[.ref a], []⟩ [.ref a] [.ref a] _ _ E0' (hbind s1 (.ref a)) (.cons rfl .nil) (hsp H only sq)) fun r s' z => ?_
  match r, z with
  | .error e, z => exact (hCX H e s' z).elim
  | .ok .next, z => exact z.elim
  | .ok .brk, z => exact z.elim
  | .ok .cont, z => exact z.elim
  | .ok (.ret u), z =>
    obtain ⟨v, H', os, bare, un, ok', rv, q⟩ := z
    obtain rfl : v = .bl true := q
    obtain rfl : u = Value.bool true := rv
    refine ⟨rfl, OldK.of_keep fun b o e => ?_, os, bare⟩
    cases y : H b with
    | none => exact un.keep b o e y (fun c => absurd (show b ∈ ([] : List Addr) from c) (by simp)) (by simp)
    | some u =>
      obtain ⟨rfl, _, rfl⟩ := at_ b u y
      rw [ha] at e
      cases e
      exact (ok' _ _ (un.frzs _ _ _ y)).1
theorem walkG {l : PySem.W.OpenLaw} {n k : Nat} {q : Program} {loose : List Str} {XP : (Str → Option Value) → Heap → Prop} {YP : World → Heap → Prop} {d : DefRec} {K : Params → PySem.W.Frag} {sp : World → Sp} {x : Str}
    (hn : l.most = some n) (hn2 : n ≤ sizeLine) (hdf : d.params.defaults = []) (hr : Room k callerA) (hY : ∀ (w : World) (h : Heap), YP w h → (K w.params).In h)
    (F : ∀ (w : World) (mg : Str → Option Value) (fa : Addr) (h : Heap), (K w.params).In h → h.Ns mainGlobals mg → mg d.name = some (.ref fa) →
      ∃ fd : FuncData, (∀ (s : Shared) (u : Value), BindsTo s fd ⟨[u], []⟩ [(x, u)]) ∧ ∀ base : Heap, (K w.params).In base → base.Ns mainGlobals mg → FnG l.prog w (K w.params) mg base CX0 k fa fd [x] (sp w))
    (hsp : ∀ (w : World) (H : Hp) (a : Addr) (ns : List Int), ns.length ≤ n → Only H → SqL (K w.params) H a (ns.map V.int) → sp w [.ref a] H (fun v _ => v = .bl true) fun _ _ _ => False) :
    PySem.W.WalkO q loose XP YP l.row.toRowW d [] (fun f vs => PySem.call f vs) :=
  Att.attach_call hn hdf fun w s0 s1 mg mb fa o pm cd doc a vs ns G Y ho hd hcd hmg hobj hints hlen hg => by
    obtain ⟨fd, hb, hF⟩ := F w mg fa _ (hY w _ Y) G.T.g hmg
    exact law_callG (hY w _ Y) G.T.g G.T.b G.T.builtins G.T.nolimit hg hobj hints (Nat.le_trans hlen hn2) hr hF hb (fun H hO hS => hsp w H a ns hlen hO hS) fun H e s' z => z
end Wn
/-! repr of data -/
namespace Wn
open PySem PySem.Spec PyProof.Rows L2
/-- data that repr takes: leaves of at most B signs, weight at most W, depth at most D -/
structure Sm (d : PyData) (B D W : Nat) : Prop where
  show_ : d.showable = true
  leaf : d.leavesShort B = true
  nod : d.hasDict = false
  lay : d.canLay0 = true
  dep : d.depth ≤ D
  wei : d.bulk ≤ W
theorem Sm.all : ∀ {xs : List PyData} {B D W : Nat}, (∀ x ∈ xs, Sm x B D W) → PyData.showableAll xs = true ∧ PyData.leavesShortAll B xs = true ∧ PyData.hasDictAll xs = false ∧ PyData.canLayAll0 xs = true ∧ PyData.depthAll xs ≤ D ∧ PyData.bulkAll xs ≤ xs.length * (W + 1)
  | [], _, _, _, _ => ⟨rfl, rfl, rfl, rfl, Nat.zero_le _, Nat.zero_le _⟩
  | x :: xs, B, D, W, h => by
    obtain ⟨h1, h2, h3, h6, h4, h5⟩ := Sm.all (xs := xs) fun y hy => h y (List.mem_cons_of_mem _ hy)
    have hx := h x (List.mem_cons_self ..)
    refine ⟨?_, ?_, ?_, ?_, ?_, ?_⟩
    · show (x.showable && PyData.showableAll xs) = true
      rw [hx.show_, h1]
      rfl
    · show (x.leavesShort B && PyData.leavesShortAll B xs) = true
      rw [hx.leaf, h2]
      rfl
    · show (x.hasDict || PyData.hasDictAll xs) = false
      rw [hx.nod, h3]
      rfl
    · show (x.canLay0 && PyData.canLayAll0 xs) = true
      rw [hx.lay, h6]
      rfl
    · show max x.depth (PyData.depthAll xs) ≤ D
      exact Nat.max_le.mpr ⟨hx.dep, h4⟩
    · show x.bulk + 1 + PyData.bulkAll xs ≤ (xs.length + 1) * (W + 1)
      rw [Nat.succ_mul]
      have := hx.wei
      omega
theorem Sm.lst {xs : List PyData} {B D W : Nat} (n : Nat) (h : ∀ x ∈ xs, Sm x B D W) (hn : xs.length ≤ n) : Sm (.list xs) B (D + 1) (n * (W + 1)) := by
  obtain ⟨h1, h2, h3, h6, h4, h5⟩ := Sm.all h
  exact ⟨h1, h2, h3, h6, Nat.succ_le_succ h4, Nat.le_trans h5 (Nat.mul_le_mul_right _ hn)⟩
theorem Sm.tup {xs : List PyData} {B D W : Nat} (n : Nat) (h : ∀ x ∈ xs, Sm x B D W) (hn : xs.length ≤ n) : Sm (.tuple xs) B (D + 1) (n * (W + 1)) := by
  obtain ⟨h1, h2, h3, h6, h4, h5⟩ := Sm.all h
  exact ⟨h1, h2, h3, h6, Nat.succ_le_succ h4, Nat.le_trans h5 (Nat.mul_le_mul_right _ hn)⟩
theorem Sm.mono {d : PyData} {B D W D' W' : Nat} (h : Sm d B D W) (h1 : D ≤ D') (h2 : W ≤ W') : Sm d B D' W' := ⟨h.show_, h.leaf, h.nod, h.lay, Nat.le_trans h.dep h1, Nat.le_trans h.wei h2⟩
theorem log2_lt {a k : Nat} (hk : 1 ≤ k) (h : a < 2 ^ k) : a.log2 < k := by
  rcases Nat.eq_zero_or_pos a with z | z
  · rw [z, Nat.log2_zero]
    exact hk
  · exact (Nat.log2_lt (by omega)).mpr h
/-- a whole number below 10 ^ 12 and below 2 ^ k -/
theorem Sm.int {i : Int} {k : Nat} (hk : 1 ≤ k) (h : i.natAbs < 2 ^ k) (hk2 : k ≤ 39) : Sm (.int i) 13 0 k := by
  have hl := log2_lt hk h
  have h12 : i.natAbs < 10 ^ 12 := Nat.lt_of_lt_of_le h (Nat.le_trans (Nat.pow_le_pow_right (by decide) hk2) (by decide))
  refine ⟨?_, ?_, rfl, rfl, Nat.le_refl _, ?_⟩
  · show decide (i.natAbs.log2 < 1920) = true
    exact decide_eq_true (by omega)
  · show decide ((PyData.shown (.int i)).length ≤ 13) = true
    exact decide_eq_true (PyData.shown_int_le h12)
  · show 0 ≤ k
    omega
def Fits (d : PyData) : Prop := ∃ B D W, Sm d B D W ∧ 8 ≤ B ∧ D ≤ 100 ∧ (B + 2) * W + B ≤ 16777216
theorem Fits.len {d : PyData} (h : Fits d) : d.shown.length ≤ sizeLine := by
  obtain ⟨B, D, W, s, h1, h2, h3⟩ := h
  have := PyData.shown_le_bulk B h1 d s.leaf
  rw [sizeLine_eq]
  have : (B + 2) * d.bulk ≤ (B + 2) * W := Nat.mul_le_mul_left _ s.wei
  omega
theorem Fits.shaped {d : PyData} (h : d.canLay0 = true) (h2 : d.depth ≤ 64) : SeqAt.shaped d = true := by
  unfold SeqAt.shaped
  rw [h, decide_eq_true h2]
  rfl
theorem Sm.fits {d : PyData} {D W : Nat} (h : Sm d 13 D W) (h1 : D ≤ 64 := by decide) (h2 : W ≤ 1100000 := by decide) : Fits d := ⟨13, D, W, h, by decide, by omega, by omega⟩
theorem Sm.fitsB {d : PyData} {B D W : Nat} (h : Sm d B D W) (h0 : 8 ≤ B := by decide) (h1 : D ≤ 64 := by decide) (h2 : (B + 2) * W + B ≤ 16777216 := by decide) : Fits d := ⟨B, D, W, h, h0, by omega, h2⟩
theorem Sm.shaped {d : PyData} {B D W : Nat} (h : Sm d B D W) (h1 : D ≤ 64 := by decide) : SeqAt.shaped d = true := Fits.shaped h.lay (Nat.le_trans h.dep h1)
/-! data stands while lists and tuples stand -/
def Kp (H H' : Hp) : Prop := (∀ a xs, H a = some (.lst xs) → H' a = some (.lst xs)) ∧ (∀ a xs, H a = some (.tup xs) → H' a = some (.tup xs)) ∧ ∀ a o u, H a = some (.frz o u) → H' a = some (.frz o u)
theorem Kp.of {H H' : Hp} (g : Gr [] H H') : Kp H H' := ⟨fun a _ e => g a _ (by simp) e, fun a _ e => g a _ (by simp) e, fun a _ _ e => g a _ (by simp) e⟩
theorem Kp.ofM {H H' : Hp} {d : Addr} (g : Gr [d] H H') (h : ∃ kvs, H d = some (.dK kvs)) : Kp H H' := by
  obtain ⟨kvs, h⟩ := h
  have ne : ∀ {a o}, H a = some o → (∀ k, o ≠ .dK k) → a ∉ [d] := fun {a o} e k z => by
    rw [List.mem_singleton] at z
    subst z
    rw [h] at e
    exact k _ (Option.some.inj e).symm
  exact ⟨fun a _ e => g a _ (ne e fun _ z => by cases z) e, fun a _ e => g a _ (ne e fun _ z => by cases z) e, fun a _ _ e => g a _ (ne e fun _ z => by cases z) e⟩
theorem Kp.trans {H H1 H2 : Hp} (a : Kp H H1) (b : Kp H1 H2) : Kp H H2 := ⟨fun x _ e => b.1 x _ (a.1 x _ e), fun x _ e => b.2.1 x _ (a.2.1 x _ e), fun x _ _ e => b.2.2 x _ _ (a.2.2 x _ _ e)⟩
theorem Kp.sqL {K : PySem.W.Frag} {H H' : Hp} {a : Addr} {xs : List V} (k : Kp H H') (h : SqL K H a xs) : SqL K H' a xs := by
  rcases h with (h | ⟨o, h⟩) | h
  · exact .inl (.inl (k.1 _ _ h))
  · exact .inl (.inr ⟨o, k.2.2 _ _ _ h⟩)
  · exact .inr h
theorem Kp.sqT {K : PySem.W.Frag} {H H' : Hp} {a : Addr} {xs : List V} (k : Kp H H') (h : SqT K H a xs) : SqT K H' a xs := by
  rcases h with (h | ⟨o, h⟩) | h
  · exact .inl (.inl (k.2.1 _ _ h))
  · exact .inl (.inr ⟨o, k.2.2 _ _ _ h⟩)
  · exact .inr h
mutual
theorem Dp.kp {K : PySem.W.Frag} {H H' : Hp} (k : Kp H H') : ∀ {v : V} {d : PyData}, Dp K H v d → Dp K H' v d
  | _, _, .non => .non
  | _, _, .bl b => .bl b
  | _, _, .int i => .int i
  | _, _, .str x => .str x
  | _, _, .lst h1 h2 => .lst (k.sqL h1) (DpAll.kp k h2)
  | _, _, .tup h1 h2 => .tup (k.sqT h1) (DpAll.kp k h2)
theorem DpAll.kp {K : PySem.W.Frag} {H H' : Hp} (k : Kp H H') : ∀ {vs : List V} {ds : List PyData}, DpAll K H vs ds → DpAll K H' vs ds
  | _, _, .nil => .nil
  | _, _, .cons h1 h2 => .cons (Dp.kp k h1) (DpAll.kp k h2)
end
theorem dpAll_ints {K : PySem.W.Frag} {H : Hp} : ∀ ns : List Int, DpAll K H (ns.map V.int) (ns.map PyData.int)
  | [] => .nil
  | n :: r => .cons (.int n) (dpAll_ints r)
theorem dp_lst {K : PySem.W.Frag} {H : Hp} {a : Addr} {xs : List V} {ds : List PyData} (h : H a = some (.lst xs)) (h2 : DpAll K H xs ds) : Dp K H (.ref a) (.list ds) := .lst (sq_lst h) h2
theorem dp_tup {K : PySem.W.Frag} {H : Hp} {a : Addr} {xs : List V} {ds : List PyData} (h : H a = some (.tup xs)) (h2 : DpAll K H xs ds) : Dp K H (.ref a) (.tuple ds) := .tup (sq_tup h) h2
def rRepr (K : PySem.W.Frag) : List V → Hp → VK → Prop := fun xs H Q => ∃ (x : V) (d : PyData), xs = [x] ∧ Dp K H x d ∧ Fits d ∧ Q (.str d.shown) H
theorem call_repr {X : Cx} (hg : X.A.guards = some []) (hu : X.A.units + 200 < cLine) : CallR X (.builtin "repr") (rRepr X.K) := by
  intro pins s σ H xs us Q I r h
  obtain ⟨x, d, rfl, hd, hf, q⟩ := h
  obtain ⟨u, rfl, rx⟩ := vals1 r
  have fin : ∀ tk' tk, EP X pins σ Q (.str d.shown tk) { s with toks := tk' } := fun tk' tk => ⟨.str _, H, I.tok _, ⟨_, rfl⟩, q⟩
  have hl := hf.len
  cases hd with
  | non =>
    obtain rfl : u = Value.none := rx
    exact PySem.P.repr_of_none (fin _ _)
  | bl b =>
    obtain rfl : u = Value.bool b := rx
    exact PySem.P.repr_of_bool (fin _ _)
  | int i =>
    obtain ⟨t, rfl⟩ := rx
    obtain ⟨B, D, W, sm, _⟩ := hf
    exact PySem.P.repr_of_int (of_decide_eq_true sm.show_) (fin _ _)
  | str y =>
    obtain ⟨t, rfl⟩ := rx
    exact PySem.P.repr_of_str (fin _ _) hl
  | lst h1 h2 =>
    rename_i a xs ds
    obtain rfl : u = Value.ref a := rx
    obtain ⟨as, rd⟩ := Dp.reads I (.list ds) (.ref a) (.ref a) (.lst h1 h2) rfl
    obtain ⟨B, D, W, sm, _, hD, _⟩ := hf
    have := sm.dep
    refine repr_of_reads' rd sm.show_ (fun z => absurd (sm.nod.symm.trans z) (by decide)) hg (by omega) (fun _ _ e => e) (fun h' u tk k => ⟨.str _, H, I.un (Un.kept k) (I.hok.kept k), ⟨_, rfl⟩, q⟩) hl
  | tup h1 h2 =>
    rename_i a xs ds
    obtain rfl : u = Value.ref a := rx
    obtain ⟨as, rd⟩ := Dp.reads I (.tuple ds) (.ref a) (.ref a) (.tup h1 h2) rfl
    obtain ⟨B, D, W, sm, _, hD, _⟩ := hf
    have := sm.dep
    refine repr_of_reads' rd sm.show_ (fun z => absurd (sm.nod.symm.trans z) (by decide)) hg (by omega) (fun _ _ e => e) (fun h' u tk k => ⟨.str _, H, I.un (Un.kept k) (I.hok.kept k), ⟨_, rfl⟩, q⟩) hl
theorem gu_of {A : Around} {k : Nat} (hr : Room k A) : A.units + 200 < cLine := by
  have := hr.un
  omega
end Wn
/-! expressions that give data and leave all as it was -/
namespace Wn
open PySem PySem.Spec PyProof.Rows L2
section
variable {K : PySem.W.Frag} {σ : L2.St} {H : Hp}
def EvD (K : PySem.W.Frag) (te : TE) (σ : L2.St) (H : Hp) (d : PyData) : Prop := ∀ H1, Gr [] H H1 → ∀ Q : VK, (∀ v H2, Gr [] H1 H2 → Dp K H2 v d → Q v H2) → te σ H1 Q
def EvS (K : PySem.W.Frag) (ta : TA) (σ : L2.St) (H : Hp) (ds : List PyData) : Prop := ∀ H1, Gr [] H H1 → ∀ Q : List V → Hp → Prop, (∀ vs H2, Gr [] H1 H2 → DpAll K H2 vs ds → Q vs H2) → ta σ H1 Q
/-- a list that stands as such -/
def EvL (K : PySem.W.Frag) (te : TE) (σ : L2.St) (H : Hp) (ds : List PyData) : Prop := ∀ H1, Gr [] H H1 → ∀ Q : VK, (∀ p xs H2, Gr [] H1 H2 → H2 p = some (.lst xs) → DpAll K H2 xs ds → Q (.ref p) H2) → te σ H1 Q
theorem EvD.on {te : TE} {d : PyData} {H' : Hp} (h : EvD K te σ H d) (g : Gr [] H H') : EvD K te σ H' d := fun H1 g1 Q q => h H1 (g.trans g1) Q q
theorem EvL.d {te : TE} {ds : List PyData} (h : EvL K te σ H ds) : EvD K te σ H (.list ds) := fun H1 g Q q => h H1 g Q fun p xs H2 g2 e a => q _ H2 g2 (dp_lst e a)
theorem ev_var {i : Nat} {v : V} {d : PyData} (e : σ[i]? = some (some v)) (h : Dp K H v d) : EvD K (tVar i) σ H d := fun H1 g Q q => ⟨v, e, q v H1 (Gr.refl _ _) (Dp.kp (Kp.of g) h)⟩
theorem ev_varL {i : Nat} {p : Addr} {xs : List V} {ds : List PyData} (e : σ[i]? = some (some (.ref p))) (h : H p = some (.lst xs)) (a : DpAll K H xs ds) : EvL K (tVar i) σ H ds :=
  fun H1 g Q q => ⟨_, e, q p xs H1 (Gr.refl _ _) (g _ _ (by simp) h) (DpAll.kp (Kp.of g) a)⟩
theorem ev_int {i : Int} : EvD K (tC (.int i)) σ H (.int i) := fun H1 _ Q q => q _ H1 (Gr.refl _ _) (.int i)
theorem ev_bl {i : Bool} : EvD K (tC (.bl i)) σ H (.bool i) := fun H1 _ Q q => q _ H1 (Gr.refl _ _) (.bl i)
theorem ev_str {i : Str} : EvD K (tC (.str i)) σ H (.str i) := fun H1 _ Q q => q _ H1 (Gr.refl _ _) (.str i)
theorem ev_non : EvD K (tC .non) σ H .none := fun H1 _ Q q => q _ H1 (Gr.refl _ _) .non
theorem es_nil : EvS K tNil σ H [] := fun H1 _ Q q => q _ H1 (Gr.refl _ _) .nil
theorem es_cons {te : TE} {ta : TA} {d : PyData} {ds : List PyData} (h : EvD K te σ H d) (r : EvS K ta σ H ds) : EvS K (tCons te ta) σ H (d :: ds) := fun H1 g Q q =>
  h H1 g _ fun v H2 g2 dv => r H2 (g.trans g2) _ fun vs H3 g3 dvs => q _ H3 (g2.trans g3) (.cons (Dp.kp (Kp.of g3) dv) dvs)
theorem dpAll_len {H : Hp} : ∀ {vs : List V} {ds : List PyData}, DpAll K H vs ds → vs.length = ds.length
  | _, _, .nil => rfl
  | _, _, .cons _ t => congrArg (· + 1) (dpAll_len t)
theorem ev_tup {ta : TA} {ds : List PyData} (h : EvS K ta σ H ds) (hz : ds.length ≤ 1000 := by exact Nat.le_of_ble_eq_true rfl) : EvD K (tTup ta) σ H (.tuple ds) := fun H1 g Q q =>
  h H1 g _ fun vs H2 g2 a => ⟨by rw [dpAll_len a]; exact Nat.le_of_lt (small1000 hz), fun p np => q _ _ (g2.trans (Gr.new np)) (dp_tup upd_same (DpAll.kp (Kp.of (Gr.new np)) a))⟩
theorem el_lst {ta : TA} {ds : List PyData} (h : EvS K ta σ H ds) (hz : ds.length ≤ 1000 := by exact Nat.le_of_ble_eq_true rfl) : EvL K (tLst ta) σ H ds := fun H1 g Q q =>
  h H1 g _ fun vs H2 g2 a => ⟨by rw [dpAll_len a]; exact Nat.le_of_lt (small1000 hz), fun p np => q _ _ _ (g2.trans (Gr.new np)) upd_same (DpAll.kp (Kp.of (Gr.new np)) a)⟩
theorem ev_lst {ta : TA} {ds : List PyData} (h : EvS K ta σ H ds) (hz : ds.length ≤ 1000 := by exact Nat.le_of_ble_eq_true rfl) : EvD K (tLst ta) σ H (.list ds) := (el_lst h hz).d
theorem dpAll_append {H : Hp} : ∀ {vs ws : List V} {ds es : List PyData}, DpAll K H vs ds → DpAll K H ws es → DpAll K H (vs ++ ws) (ds ++ es)
  | _, _, _, _, .nil, b => b
  | _, _, _, _, .cons h t, b => .cons h (dpAll_append t b)
theorem el_cat {ta tb : TE} {ds es : List PyData} (h1 : EvL K ta σ H ds) (h2 : EvL K tb σ H es) (hz : ds.length + es.length ≤ 1000 := by exact Nat.le_of_ble_eq_true rfl) : EvL K (tOp rCat ta tb) σ H (ds ++ es) := fun H1 g Q q =>
  h1 H1 g _ fun p xs H2 g2 e2 a2 => h2 H2 (g.trans g2) _ fun p3 ys H3 g3 e3 a3 => by
    have e2' := g3 _ _ (by simp) e2
    refine ⟨p, p3, xs, ys, rfl, rfl, e2', e3, by rw [dpAll_len a2, dpAll_len a3]; exact Nat.le_of_lt (small1000 hz), fun p4 np => ?_⟩
    exact q p4 _ _ ((g2.trans g3).trans (Gr.new np)) upd_same (dpAll_append (DpAll.kp (Kp.of (g3.trans (Gr.new np))) a2) (DpAll.kp (Kp.of (Gr.new np)) a3))
/-! two data compared -/
theorem ev_eq {ta tb : TE} {d e : PyData} (h1 : EvD K ta σ H d) (h2 : EvD K tb σ H e) (s1 : SeqAt.shaped d = true) (s2 : SeqAt.shaped e = true) : EvD K (tOp (rEqD K) ta tb) σ H (.bool (PyData.eqv d e)) := fun H1 g Q q =>
  h1 H1 g _ fun v H2 g2 a => h2 H2 (g.trans g2) _ fun w H3 g3 b => ⟨d, e, Dp.kp (Kp.of g3) a, b, s1, s2, q _ H3 (g2.trans g3) (.bl _)⟩
theorem ev_ne {ta tb : TE} {d e : PyData} (h1 : EvD K ta σ H d) (h2 : EvD K tb σ H e) (s1 : SeqAt.shaped d = true) (s2 : SeqAt.shaped e = true) : EvD K (tOp (rNeD K) ta tb) σ H (.bool (!PyData.eqv d e)) := fun H1 g Q q =>
  h1 H1 g _ fun v H2 g2 a => h2 H2 (g.trans g2) _ fun w H3 g3 b => ⟨d, e, Dp.kp (Kp.of g3) a, b, s1, s2, q _ H3 (g2.trans g3) (.bl _)⟩
theorem iteFb {b : Bool} {A B : Prop} (h : b = false) (x : B) : if b = true then A else B := by
  rw [h]
  exact iteF x
theorem iteTb {b : Bool} {A B : Prop} (h : b = true) (x : A) : if b = true then A else B := by
  rw [h]
  exact iteT x
/-! statements over them -/
theorem st_asgD {te : TE} {i : Nat} {d : PyData} {D : Ends} (h : EvD K te σ H d) (k : ∀ v H2, Gr [] H H2 → Dp K H2 v d → D.nx (σ.set i (some v)) H2) : tAsg te (gName i) D σ H := h H (Gr.refl _ _) _ k
theorem st_asgL {te : TE} {i : Nat} {ds : List PyData} {D : Ends} (h : EvL K te σ H ds) (k : ∀ p xs H2, Gr [] H H2 → H2 p = some (.lst xs) → DpAll K H2 xs ds → D.nx (σ.set i (some (.ref p))) H2) : tAsg te (gName i) D σ H := h H (Gr.refl _ _) _ k
theorem dp_bool {H : Hp} {v : V} {b : Bool} (h : Dp K H v (.bool b)) : v = .bl b := by cases h; rfl
theorem dp_int {H : Hp} {v : V} {b : Int} (h : Dp K H v (.int b)) : v = .int b := by cases h; rfl
theorem st_retB {te : TE} {b : Bool} {D : Ends} (h : EvD K te σ H (.bool b)) (k : ∀ H2, Gr [] H H2 → D.rt (.bl b) H2) : tRet te D σ H := h H (Gr.refl _ _) _ fun v H2 g e => by rw [dp_bool e]; exact k H2 g
/-- a test that is data -/
theorem tt_of {te : TE} {b : Bool} {H1 : Hp} {Q : Bool → Hp → Prop} (h : EvD K te σ H (.bool b)) (g : Gr [] H H1) (q : ∀ H2, Gr [] H1 H2 → Q b H2) : tTest te σ H1 Q := h H1 g _ fun v H2 g2 e => ⟨b, dp_bool e, q H2 g2⟩
theorem tb_of {te : TE} {b : Bool} {H1 : Hp} {Q : Bool → Hp → Prop} (h : EvD K te σ H (.bool b)) (g : Gr [] H H1) (q : ∀ H2, Gr [] H1 H2 → Q b H2) : tB te σ H1 Q := h H1 g _ fun v H2 g2 e => ⟨b, dp_bool e, q H2 g2⟩
theorem ev_andV {ta tb : TE} {a b : Bool} (h1 : EvD K ta σ H (.bool a)) (h2 : EvD K tb σ H (.bool b)) : EvD K (tAndV ta tb) σ H (.bool (a && b)) := fun H1 g Q q =>
  h1 H1 g _ fun v H2 g2 e => ⟨a, dp_bool e, by
    cases a with
    | true => exact iteT (h2 H2 (g.trans g2) _ fun w H3 g3 e3 => q w H3 (g2.trans g3) e3)
    | false => exact iteF (q _ H2 g2 (.bl false))⟩
end
end Wn
/-! sum of a tuple of whole numbers -/
namespace Wn
open PySem PySem.Spec PyProof.Rows L2
section
variable {prog : Program} {w : World} {A : Around} {E : Value → Shared → Prop} {s : Shared} {l : Addr} {its : List Value} {ns : List Int} {Q : Value → Shared → Prop}
theorem sum_tup0 {xs : Array (Int × Tok)} (hh : A.handled = none) (hl : s.heap.IsTuple l (intItems xs))
    (h : ∀ h' tk t', (∀ b o, s.heap.get? b = some o → h'.get? b = some o) → Q (.int (preSum (numAt xs) xs.size) t') { s with heap := h', toks := tk }) : wpAny (model prog w) A (call (.builtin "sum") [.ref l]) Q E s := by
  refine call_sum_walkG (wpAny_pyIter_tuple hl ?_)
  obtain ⟨o, ho, hc, n, hd⟩ := hl
  have lt : l < s.heap.objs.size := Heap.lt_size ho
  have kp : ∀ b u, s.heap.get? b = some u → (s.heap.push { cls := .type "tuple_iterator", data := .fields #[.ref l, .int 0 0] }).get? b = some u := fun b u e => Heap.get?_push_of_some _ e
  refine ⟨s.heap.objs.size, _, _, _, _, _, numAt xs, rfl, Walks.tuple (A := A.in1) hh s.heap.objs.size l (Nat.ne_of_lt lt) (intItems xs), ⟨⟨_, Heap.get?_push_size _ rfl, rfl, rfl⟩, ⟨o, kp _ _ ho, hc, n, hd⟩⟩, fun b hb => ?_, fun _ _ => intItems_at, fun h' tk t' hk => ?_⟩
  · have hz : (s.heap.push { cls := .type "tuple_iterator", data := .fields #[.ref l, .int 0 0] }).objs.size = s.heap.objs.size + 1 := by simp [Heap.push]
    simp only [List.mem_cons, List.not_mem_nil, or_false] at hb
    show b < (s.heap.push _).objs.size
    rw [hz]
    rcases hb with rfl | rfl
    · exact Nat.lt_succ_self _
    · exact Nat.lt_succ_of_lt lt
  · have := h h' tk t' (fun b u e => hk b u (by
      rw [List.mem_singleton]
      exact Nat.ne_of_lt (Heap.lt_size e)) (kp b u e))
    simpa [intItems] using this
theorem sum_tup (hh : A.handled = none) (hl : s.heap.IsTuple l its.toArray) (hi : IntsAre its ns)
    (h : ∀ h' tk t', (∀ b o, s.heap.get? b = some o → h'.get? b = some o) → Q (.int ns.sum t') { s with heap := h', toks := tk }) : wpAny (model prog w) A (call (.builtin "sum") [.ref l]) Q E s := by
  obtain ⟨xs, e⟩ := hi.allInts.items
  have hn : numsOf (intItems xs).toList = ns := by
    rw [← e]
    exact hi.numsOf
  rw [nums_intItems] at hn
  rw [e] at hl
  refine sum_tup0 hh hl fun h' tk t' hk => ?_
  have := h h' tk t' hk
  rw [preSum_eq, List.take_of_length_le (by simp), hn]
  exact this
end
def rSumT (K : PySem.W.Frag) : List V → Hp → VK → Prop := fun vs H Q => ∃ (a : Addr) (ns : List Int), vs = [V.ref a] ∧ SqT K H a (ns.map V.int) ∧ Q (.int ns.sum) H
theorem cr_sumT {X : Cx} (hc : X.calm = true) : CallR X (.builtin "sum") (rSumT X.K) := by
  intro pins s σ H vs us Q I r h
  obtain ⟨a, ns, rfl, hs, q⟩ := h
  obtain ⟨its, rv, hl, _⟩ := I.tuple hs
  rw [Vals.ref1 r]
  exact sum_tup (I.ok.hd hc) hl rv.ints fun h' tk t' hk => ⟨.int _, H, I.kept hk, ⟨_, rfl⟩, q⟩
end Wn
/-! a list with a step: xs[::k] -/
namespace Wn
open PySem PySem.Spec PyProof.Rows L2
def stepV (xs : List V) (k : Nat) : List V := (List.range ((xs.length + k - 1) / k)).filterMap fun i => xs[k * i]?
theorem vals_picks {xs : List V} {us : List Value} (r : Vals xs us) (f : Nat → Nat) : ∀ js : List Nat, Vals (js.filterMap fun i => xs[f i]?) (js.filterMap fun i => us[f i]?)
  | [] => .nil
  | j :: js => by
    have ih := vals_picks r f js
    cases e : xs[f j]? with
    | none =>
      have e2 := r.none_of e
      rw [List.filterMap_cons, List.filterMap_cons, e, e2]
      exact ih
    | some x =>
      obtain ⟨u, e2, h⟩ := r.get e
      rw [List.filterMap_cons, List.filterMap_cons, e, e2]
      exact .cons h ih
theorem pick_step (us : List Value) {k : Nat} (hk : 1 ≤ k) : slicePick us.toArray none none (some (k : Int)) = ((List.range ((us.length + k - 1) / k)).filterMap fun i => us[k * i]?).toArray := by
  have e : sliceBounds none none (some (k : Int)) us.toArray.size = ((0 : Int), (us.length : Int), (k : Int)) := by
    have h : (k : Int) > 0 := by omega
    simp only [sliceBounds, Option.getD_some, h, if_true, List.size_toArray]
  unfold slicePick
  rw [e]
  show (List.filterMap (fun i => us.toArray[i]?) (sliceRange 0 (us.length : Int) (k : Int))).toArray = _
  congr 1
  have e2 : sliceRange 0 (us.length : Int) (k : Int) = (List.range ((us.length + k - 1) / k)).map fun i => k * i := by
    unfold sliceRange
    have h : (k : Int) > 0 := by omega
    rw [if_pos h]
    have c : (if (0 : Int) < (us.length : Int) then ((us.length : Int) - 0 + k - 1) / k else 0).toNat = (us.length + k - 1) / k := by
      by_cases z : (0 : Int) < (us.length : Int)
      · rw [if_pos z, show ((us.length : Int) - 0 + k - 1) = ((us.length + k - 1 : Nat) : Int) by omega, ← Int.natCast_ediv]
        rfl
      · rw [if_neg z]
        have : us.length = 0 := by omega
        rw [this, Nat.zero_add, Nat.div_eq_of_lt (by omega)]
        rfl
    dsimp only
    rw [c]
    apply List.map_congr_left
    intro i _
    rw [Int.zero_add, ← Int.natCast_mul]
    rfl
  rw [e2, List.filterMap_map]
  congr 1
  funext i
  simp
theorem stepV_len (xs : List V) (k : Nat) (hk : 1 ≤ k) : (stepV xs k).length ≤ xs.length := by
  unfold stepV
  refine Nat.le_trans (List.length_filterMap_le _ _) ?_
  rw [List.length_range]
  rcases Nat.eq_zero_or_pos xs.length with z | z
  · rw [z, Nat.zero_add, Nat.div_eq_of_lt (by omega)]
    exact Nat.le_refl _
  · refine Nat.lt_succ_iff.mp ((Nat.div_lt_iff_lt_mul (by omega)).mpr ?_)
    have : xs.length * 1 ≤ xs.length * k := Nat.mul_le_mul_left _ hk
    rw [Nat.succ_mul]
    omega
def rStL (K : PySem.W.Frag) : V → V → Hp → VK → Prop := fun x y H Q => ∃ (a : Addr) (xs : List V) (k : Nat), x = .ref a ∧ y = .int k ∧ 1 ≤ k ∧ SqL K H a xs ∧ ∀ p, H p = none → Q (.ref p) (upd H p (.lst (stepV xs k)))
def tStL (r : R2) (te ts : TE) : TE := fun σ H Q => te σ H fun x H1 => ts σ H1 fun y H2 => r x y H2 Q
variable {X : Cx} {e st : Expr} {te ts : TE} {pos p2 : Pos}
theorem pe_stepL {r : R2} (he : PE X e te) (hs : PE X st ts) (hr : r = rStL X.K := by rfl) : PE X (.Subscript e (.Slice none none (some st) p2) pos) (tStL r te ts) := by
  subst hr
  refine ⟨fun pins s σ H Q I h => ?_⟩
  refine Subscript_ (thn (he.run pins s σ H _ I h) fun v s1 ⟨x, H1, I1, r1, q1⟩ => ?_)
  refine wpAny_Slice ?_
  rw [evalPart_none]
  refine wpAny_pure (wpAny_pure ?_)
  rw [evalPart_some]
  refine thn (hs.run pins s1 σ H1 _ I1 q1) fun vs s3 ⟨y, H3, I3, ry, q3⟩ => ?_
  obtain ⟨a, xs, k, rfl, rfl, hk, hx, q⟩ := q3
  cases r1
  obtain ⟨t, rfl⟩ := ry
  have I4 : Inv X pins σ H3 { s3 with heap := s3.heap.push { cls := .type "slice", data := .fields #[.none, .none, .int k t] } } := I3.kept (t' := s3.toks) fun b ob q => Heap.get?_push_of_some _ q
  obtain ⟨its, r, ht, hz⟩ := I4.list hx
  have hlen := r.length
  have hg : wpAny (model X.prog X.w) X.A (getItem (.ref a) (.ref s3.heap.objs.size)) (EP X pins σ Q) X.xe { s3 with heap := s3.heap.push { cls := .type "slice", data := .fields #[.none, .none, .int k t] } } := by
    refine wpAny_getItem_list_slice (st := some (k : Int)) ht.isList (Heap.IsSliceOf.new ..) .none .none (.int _ _) (by intro z; have := Option.some.inj z; omega) ?_ (by rw [List.size_toArray] <;> omega)
    rw [pick_step its hk, ← hlen]
    refine ⟨.ref _, _, I4.laid (t' := s3.toks) (o := .lst (stepV xs k)) (fun b ob q => Heap.get?_push_of_some _ q) (Nat.le_refl _) ?_, rfl, q _ (I4.hok.fresh (Nat.le_refl _))⟩
    exact ⟨Nat.le_trans (stepV_len xs k hk) hz, _, 0, vals_picks r _ _, Heap.get?_push_size _ rfl⟩
  show wpAny (model X.prog X.w) X.A (subscriptTail e (.Slice none none (some st) p2) (.ref a) (.ref s3.heap.objs.size)) (EP X pins σ Q) X.xe { s3 with heap := s3.heap.push { cls := .type "slice", data := .fields #[.none, .none, .int k t] } }
  exact tail_any (ops := [.ref a, .ref s3.heap.objs.size]) ht.isList.typeIs slot_list_getitem.lookup hg (by with_unfolding_all rfl)
end Wn
/-! sums of powers, and which cuts balance -/
namespace Wn
open PySem PySem.Spec PyProof.Rows L2
def geo (g : Nat) : Nat → Nat
  | 0 => 0
  | c + 1 => geo g c + g ^ c
theorem geo_add (g a : Nat) : ∀ d, geo g (a + d) = geo g a + g ^ a * geo g d
  | 0 => by simp [geo]
  | d + 1 => by
    rw [← Nat.add_assoc]
    show geo g (a + d) + g ^ (a + d) = geo g a + g ^ a * (geo g d + g ^ d)
    rw [geo_add g a d, Nat.mul_add, Nat.pow_add, Nat.add_assoc]
theorem geo_mul (g m : Nat) : ∀ c, geo g (m * c) = geo g m * geo (g ^ m) c
  | 0 => by simp [geo]
  | c + 1 => by
    show geo g (m * c + m) = geo g m * (geo (g ^ m) c + (g ^ m) ^ c)
    rw [geo_add, geo_mul g m c, Nat.mul_add, ← Nat.pow_mul, Nat.mul_comm (g ^ (m * c))]
theorem geo_tel (g : Nat) : ∀ c, geo g c * g + 1 = geo g c + g ^ c
  | 0 => by simp [geo]
  | c + 1 => by
    show (geo g c + g ^ c) * g + 1 = geo g c + g ^ c + g ^ (c + 1)
    rw [Nat.add_mul, Nat.pow_succ]
    have := geo_tel g c
    omega
def restSum (b n x s c : Nat) : Nat := ((List.range c).map fun i => rem b n x (s * i)).sum
theorem restSum_succ (b n x s c : Nat) : restSum b n x s (c + 1) = restSum b n x s c + rem b n x (s * c) := by
  unfold restSum
  rw [List.range_succ, List.map_append, List.sum_append]
  simp
theorem restSum_mod (b n x s : Nat) : ∀ c, restSum b n x s c % n = x * geo (b ^ s) c % n
  | 0 => by simp [restSum, geo]
  | c + 1 => by
    rw [restSum_succ, Nat.add_mod, restSum_mod b n x s c]
    show (_ + rem b n x (s * c) % n) % n = x * (geo (b ^ s) c + (b ^ s) ^ c) % n
    rw [Nat.mul_add, Nat.add_mod (x * _)]
    unfold rem
    rw [Nat.mod_mod, Nat.pow_mul]
def bal (b n s c : Nat) : Bool := decide (restSum b n 1 s c % n = 0)
theorem bal_iff {b n s c : Nat} : bal b n s c = true ↔ n ∣ geo (b ^ s) c := by
  unfold bal
  rw [decide_eq_true_eq, restSum_mod, Nat.one_mul]
  exact (Nat.dvd_iff_mod_eq_zero ..).symm
theorem bal_mul {b n s c m : Nat} (h : bal b n (m * s) c = true) : bal b n s (m * c) = true := by
  rw [bal_iff] at h ⊢
  rw [geo_mul, ← Nat.pow_mul, Nat.mul_comm s m]
  exact Nat.dvd_trans h (Nat.dvd_mul_left _ _)
theorem bal_prime {b n s c L : Nat} (hb : 1 ≤ b) (hn : 2 ≤ n) (hp : ∀ k, 2 ≤ k → k < n → ¬ n % k = 0) (hL : IsPer b n L) (hc : 2 ≤ c) (hs : 1 ≤ s) (e : L = s * c) : bal b n s c = true := by
  rw [bal_iff]
  have hsL : s < L := by
    rw [e]
    have : s * 2 ≤ s * c := Nat.mul_le_mul_left _ hc
    omega
  have g1 : 1 ≤ b ^ s := Nat.one_le_pow _ _ hb
  have h1 : (b ^ s) ^ c % n = 1 % n := by
    rw [← Nat.pow_mul, ← e]
    exact hL.2.1
  have h2 : ¬ n ∣ b ^ s - 1 := fun z => hL.2.2 s hs hsL ((mod_iff g1).mpr z).symm
  have t := geo_tel (b ^ s) c
  have t2 : geo (b ^ s) c * (b ^ s - 1) = (b ^ s) ^ c - 1 := by
    rw [Nat.mul_sub, Nat.mul_one]
    omega
  have h3 : n ∣ geo (b ^ s) c * (b ^ s - 1) := by
    rw [t2]
    exact (mod_iff (Nat.one_le_pow _ _ g1)).mp h1.symm
  have hd : Nat.gcd n (b ^ s - 1) ∣ n := Nat.gcd_dvd_left _ _
  have hdn := Nat.le_of_dvd (by omega) hd
  have hd0 : 1 ≤ Nat.gcd n (b ^ s - 1) := Nat.gcd_pos_of_pos_left _ (by omega)
  have hd1 : Nat.gcd n (b ^ s - 1) = 1 := by
    rcases Nat.lt_or_eq_of_le hdn with z | z
    · rcases Nat.lt_or_eq_of_le hd0 with y | y
      · exact absurd (Nat.mod_eq_zero_of_dvd hd) (hp _ y z)
      · exact y.symm
    · exact absurd (z ▸ Nat.gcd_dvd_right n (b ^ s - 1)) h2
  exact Nat.Coprime.dvd_of_dvd_mul_right hd1 h3
/-! which cuts -/
def from2 (k : Nat) : List Nat := (List.range k).map (2 + ·)
theorem from2_succ (k : Nat) : from2 (k + 1) = from2 k ++ [2 + k] := by
  unfold from2
  rw [List.range_succ, List.map_append]
  rfl
theorem mem_from2 {k c : Nat} : c ∈ from2 k ↔ 2 ≤ c ∧ c < 2 + k := by
  unfold from2
  rw [List.mem_map]
  constructor
  · rintro ⟨i, hi, rfl⟩
    rw [List.mem_range] at hi
    omega
  · rintro ⟨h1, h2⟩
    exact ⟨c - 2, List.mem_range.mpr (by omega), by omega⟩
def splitsL (L : Nat) : List Nat := (from2 (L - 1)).filter fun c => decide (L % c = 0)
theorem mem_splits {L c : Nat} (hL : 1 ≤ L) : c ∈ splitsL L ↔ 2 ≤ c ∧ c ∣ L := by
  unfold splitsL
  rw [List.mem_filter, mem_from2, decide_eq_true_eq]
  constructor
  · rintro ⟨⟨h1, h2⟩, h3⟩
    exact ⟨h1, Nat.dvd_of_mod_eq_zero h3⟩
  · rintro ⟨h1, h2⟩
    have := Nat.le_of_dvd hL h2
    exact ⟨⟨h1, by omega⟩, Nat.mod_eq_zero_of_dvd h2⟩
def dueL (b n L : Nat) : List Nat := (splitsL L).filter fun c => bal b n (L / c) c
def below (xs : List Nat) (c : Nat) : List Nat := xs.filter fun k => decide (k < c) && decide (c % k = 0)
def isLeast (xs : List Nat) (c : Nat) : Bool := (below xs c).isEmpty
def leastL (xs : List Nat) : List Nat := xs.filter (isLeast xs)
theorem asc_splits (L : Nat) : (splitsL L).Pairwise (· < ·) := by
  unfold splitsL from2
  refine List.Pairwise.filter _ ?_
  rw [List.pairwise_map]
  exact List.Pairwise.imp (fun h => by omega) List.pairwise_lt_range
theorem asc_due (b n L : Nat) : (dueL b n L).Pairwise (· < ·) := (asc_splits L).filter _
theorem isLeast_iff {xs : List Nat} {c : Nat} : isLeast xs c = true ↔ ∀ k ∈ xs, k < c → ¬ c % k = 0 := by
  unfold isLeast below
  rw [List.isEmpty_iff, List.filter_eq_nil_iff]
  constructor
  · intro h k hk hc hm
    exact h k hk (by rw [decide_eq_true hc, decide_eq_true hm]; rfl)
  · intro h k hk hm
    rw [Bool.and_eq_true, decide_eq_true_eq, decide_eq_true_eq] at hm
    exact h k hk hm.1 hm.2
theorem least_under {xs : List Nat} (h2 : ∀ k ∈ xs, 1 ≤ k) : ∀ (m k : Nat), k ≤ m → k ∈ xs → ∃ k0 ∈ xs, k0 ∣ k ∧ isLeast xs k0 = true
  | 0, k, hm, hk => absurd (h2 k hk) (by omega)
  | m + 1, k, hm, hk => by
    by_cases h : isLeast xs k = true
    · exact ⟨k, hk, Nat.dvd_refl k, h⟩
    · rw [isLeast_iff] at h
      have : ∃ j, j ∈ xs ∧ j < k ∧ k % j = 0 := by
        apply Classical.byContradiction
        intro z
        exact h fun j hj hl hm' => z ⟨j, hj, hl, hm'⟩
      obtain ⟨j, hj, hl, hm'⟩ := this
      obtain ⟨k0, h0, hd, hs⟩ := least_under h2 m j (by omega) hj
      exact ⟨k0, h0, Nat.dvd_trans hd (Nat.dvd_of_mod_eq_zero hm'), hs⟩
/-- the look at the least ones found so far -/
theorem least_step {xs : List Nat} (h2 : ∀ k ∈ xs, 1 ≤ k) (asc : xs.Pairwise (· < ·)) {i : Nat} (hi : i < xs.length) :
    (((xs.take i).filter (isLeast xs)).map fun k => !decide (xs[i] % k = 0)).all id = isLeast xs xs[i] := by
  rw [Bool.eq_iff_iff, List.all_map, List.all_eq_true, isLeast_iff]
  have lt : ∀ k ∈ xs.take i, k < xs[i] := fun k hk => by
    obtain ⟨j, hj, rfl⟩ := List.mem_iff_getElem.mp hk
    rw [List.length_take] at hj
    rw [List.getElem_take]
    exact List.pairwise_iff_getElem.mp asc j i (by omega) hi (by omega)
  have back : ∀ k ∈ xs, k < xs[i] → k ∈ xs.take i := fun k hk hl => by
    obtain ⟨j, hj, rfl⟩ := List.mem_iff_getElem.mp hk
    rw [List.mem_iff_getElem]
    have hji : j < i := by
      rcases Nat.lt_trichotomy j i with z | z | z
      · exact z
      · subst z
        omega
      · have := List.pairwise_iff_getElem.mp asc i j hi hj z
        omega
    exact ⟨j, by rw [List.length_take]; omega, by rw [List.getElem_take]⟩
  constructor
  · intro h k hk hl hm
    obtain ⟨k0, h0, hd, hs⟩ := least_under h2 k k (Nat.le_refl _) hk
    have hk0 : k0 < xs[i] := Nat.lt_of_le_of_lt (Nat.le_of_dvd (h2 k hk) hd) hl
    have := h k0 (List.mem_filter.mpr ⟨back k0 h0 hk0, hs⟩)
    rw [Function.comp_apply, id_eq, Bool.not_eq_true', decide_eq_false_iff_not] at this
    exact this (Nat.mod_eq_zero_of_dvd (Nat.dvd_trans hd (Nat.dvd_of_mod_eq_zero hm)))
  · intro h k hk
    obtain ⟨hk1, hk2⟩ := List.mem_filter.mp hk
    rw [Function.comp_apply, id_eq, Bool.not_eq_true', decide_eq_false_iff_not]
    exact h k (List.mem_of_mem_take hk1) (lt k hk1)
theorem due_mul {b n L c k : Nat} (hL : 1 ≤ L) (hc : c ∈ dueL b n L) (hk : k ∈ splitsL L) (hd : k % c = 0) : k ∈ dueL b n L := by
  obtain ⟨hc1, hc2⟩ := List.mem_filter.mp hc
  refine List.mem_filter.mpr ⟨hk, ?_⟩
  obtain ⟨k1, k2⟩ := (mem_splits hL).mp hk
  obtain ⟨c1, c2⟩ := (mem_splits hL).mp hc1
  obtain ⟨m, rfl⟩ := Nat.dvd_of_mod_eq_zero hd
  obtain ⟨s, rfl⟩ := k2
  have hm : 1 ≤ m := by
    rcases Nat.eq_zero_or_pos m with z | z
    · subst z
      omega
    · exact z
  have e1 : c * m * s / c = m * s := by
    rw [Nat.mul_assoc]
    exact Nat.mul_div_cancel_left _ (by omega)
  have e2 : c * m * s / (c * m) = s := Nat.mul_div_cancel_left _ (by omega)
  rw [e1] at hc2
  rw [e2, Nat.mul_comm c m]
  exact bal_mul hc2
theorem due_prime {b n L : Nat} (hb : 1 ≤ b) (hn : 2 ≤ n) (hp : ∀ k, 2 ≤ k → k < n → ¬ n % k = 0) (hL : IsPer b n L) : dueL b n L = splitsL L := by
  unfold dueL
  rw [List.filter_eq_self]
  intro c hc
  obtain ⟨h1, s, e⟩ := (mem_splits hL.1).mp hc
  have hs : 1 ≤ s := by
    rcases Nat.eq_zero_or_pos s with z | z
    · rw [z, Nat.mul_zero] at e
      have := hL.1
      omega
    · exact z
  have : L / c = s := by
    rw [e]
    exact Nat.mul_div_cancel_left _ (by omega)
  rw [this]
  exact bal_prime hb hn hp hL h1 hs (by rw [e, Nat.mul_comm])
/-! lists of whole numbers from 0 on -/
def vn (xs : List Nat) : List V := xs.map fun k => V.int (k : Nat)
def ni (xs : List Nat) : List Int := xs.map fun k => ((k : Nat) : Int)
theorem vn_ni (xs : List Nat) : vn xs = (ni xs).map V.int := by
  unfold vn ni
  rw [List.map_map]
  rfl
theorem vn_len (xs : List Nat) : (vn xs).length = xs.length := by simp [vn]
theorem vn_snoc (xs : List Nat) (k : Nat) : vn xs ++ [V.int (k : Nat)] = vn (xs ++ [k]) := by simp [vn]
theorem vn_get {xs : List Nat} {i : Nat} {y : V} (h : (vn xs)[i]? = some y) : ∃ hi : i < xs.length, y = V.int (xs[i] : Nat) := by
  unfold vn at h
  rw [List.getElem?_map] at h
  cases e : xs[i]? with
  | none =>
    rw [e] at h
    cases h
  | some n =>
    rw [e] at h
    obtain ⟨hi, e2⟩ := List.getElem?_eq_some_iff.mp e
    subst e2
    exact ⟨hi, (Option.some.inj h).symm⟩
theorem ni_sum : ∀ xs : List Nat, (ni xs).sum = ((xs.sum : Nat) : Int)
  | [] => rfl
  | x :: r => by
    show (x : Int) + (ni r).sum = ((x + r.sum : Nat) : Int)
    rw [ni_sum r]
    omega
theorem filt_yes {xs : List Nat} {g : Nat → Bool} {i : Nat} (hi : i < xs.length) (h : g xs[i] = true) : (xs.take (i + 1)).filter g = (xs.take i).filter g ++ [xs[i]] := by
  rw [List.take_succ_eq_append_getElem hi, List.filter_append, List.filter_cons, if_pos h]
  rfl
theorem filt_no {xs : List Nat} {g : Nat → Bool} {i : Nat} (hi : i < xs.length) (h : g xs[i] = false) : (xs.take (i + 1)).filter g = (xs.take i).filter g := by
  rw [List.take_succ_eq_append_getElem hi, List.filter_append, List.filter_cons, if_neg (by rw [h]; decide)]
  simp
theorem from2_len (k : Nat) : (from2 k).length = k := by simp [from2]
theorem from2_get {k i : Nat} (h : i < k) : (from2 k)[i]'(by rw [from2_len]; exact h) = 2 + i := by simp [from2]
theorem eqv_niL (ys : List Nat) : PyData.eqv (.list ((ni ys).map PyData.int)) (.list []) = ys.isEmpty := by
  cases ys with
  | nil => rfl
  | cons y r => rfl
theorem inV_ni (k : Nat) : ∀ xs : List Nat, inV (.int (k : Nat)) (vn xs) = decide (k ∈ xs) := by
  intro xs
  induction xs with
  | nil => rfl
  | cons y r ih =>
    show ((((y : Nat) : Int) == ((k : Nat) : Int)) || inV (.int (k : Nat)) (vn r)) = _
    rw [ih, Bool.eq_iff_iff, Bool.or_eq_true, beq_iff_eq, decide_eq_true_eq, decide_eq_true_eq, List.mem_cons]
    constructor
    · rintro (h | h)
      · exact .inl (by omega)
      · exact .inr h
    · rintro (h | h)
      · exact .inl (by omega)
      · exact .inr h
theorem flat_ni : ∀ xs : List Nat, (vn xs).all flatV = true
  | [] => rfl
  | _ :: r => flat_ni r
theorem blkOk_of {N N0 : List Str} {sc sc0 scope : Scope} {own : List (Str × Nat)} (hN : N = N0) (hs : sc = sc0) (h : blkC N0 sc0 scope own = true) : BlkOk N sc scope own := by
  subst hN hs
  exact blkOk_by h
end Wn
/-! values of digits, and the sum of the pieces -/
namespace Wn
open PySem PySem.Spec PyProof.Rows L2
def wrt (b : Nat) (ds : List Nat) : Nat := ds.foldl (fun f d => f * b + d) 0
theorem wrt_snoc (b : Nat) (ds : List Nat) (d : Nat) : wrt b (ds ++ [d]) = wrt b ds * b + d := by simp [wrt]
def dg (b n x lo c : Nat) : List Nat := (List.range c).map fun i => rem b n x (lo + i) * b / n
theorem dg_len (b n x lo c : Nat) : (dg b n x lo c).length = c := by simp [dg]
theorem dg_succ (b n x lo c : Nat) : dg b n x lo (c + 1) = dg b n x lo c ++ [rem b n x (lo + c) * b / n] := by
  unfold dg
  rw [List.range_succ, List.map_append]
  rfl
theorem wrt_dg (b n x lo : Nat) : ∀ c, n * wrt b (dg b n x lo c) + rem b n x (lo + c) = rem b n x lo * b ^ c
  | 0 => by simp [dg, wrt]
  | c + 1 => by
    have ih := wrt_dg b n x lo c
    have dm := Nat.div_add_mod (rem b n x (lo + c) * b) n
    rw [rem_succ] at dm
    rw [dg_succ, wrt_snoc, Nat.pow_succ, ← Nat.mul_assoc, ← ih, Nat.mul_add, Nat.add_mul, ← Nat.mul_assoc]
    have e : lo + (c + 1) = lo + c + 1 := rfl
    rw [e]
    omega
/-- the value of piece number j of k digits -/
def pce (b n x k j : Nat) : Nat := wrt b (dg b n x (k * j) k)
def pcs (b n x k c : Nat) : List Nat := (List.range c).map (pce b n x k)
theorem pcs_len (b n x k c : Nat) : (pcs b n x k c).length = c := by simp [pcs]
theorem pcs_succ (b n x k c : Nat) : pcs b n x k (c + 1) = pcs b n x k c ++ [pce b n x k c] := by
  unfold pcs
  rw [List.range_succ, List.map_append]
  rfl
theorem pcs_sum (b n x k : Nat) : ∀ c, n * (pcs b n x k c).sum + restSum b n x k c + rem b n x (k * c) = b ^ k * restSum b n x k c + rem b n x 0
  | 0 => by simp [pcs, restSum]
  | c + 1 => by
    have ih := pcs_sum b n x k c
    have w := wrt_dg b n x (k * c) k
    have e : k * (c + 1) = k * c + k := rfl
    rw [e, pcs_succ, List.sum_append, restSum_succ, Nat.mul_add, Nat.mul_add]
    have e2 : ([pce b n x k c] : List Nat).sum = pce b n x k c := by simp
    rw [e2]
    unfold pce
    rw [Nat.mul_comm (b ^ k) (rem b n x (k * c)), ← w]
    omega
theorem pcs_all {b n x k c : Nat} (hb : 1 ≤ b) (h : rem b n x (k * c) = rem b n x 0) : n * (pcs b n x k c).sum = (b ^ k - 1) * restSum b n x k c := by
  have e := pcs_sum b n x k c
  rw [h] at e
  have h1 : 1 ≤ b ^ k := Nat.one_le_pow _ _ hb
  rw [Nat.sub_mul, Nat.one_mul]
  omega
theorem pcs_quot {b n x k c : Nat} (hb : 2 ≤ b) (hk : 1 ≤ k) (hn : 1 ≤ n) (h : rem b n x (k * c) = rem b n x 0) :
    ((pcs b n x k c).sum % (b ^ k - 1) = 0 ↔ restSum b n x k c % n = 0) ∧ (restSum b n x k c % n = 0 → (pcs b n x k c).sum / (b ^ k - 1) = restSum b n x k c / n) := by
  have e := pcs_all (b := b) (n := n) (x := x) (k := k) (c := c) (by omega) h
  have h1 : 2 ≤ b ^ k := Nat.le_trans hb (Nat.le_self_pow (by omega) b)
  generalize (pcs b n x k c).sum = S at e ⊢
  generalize restSum b n x k c = R at e ⊢
  generalize hm : b ^ k - 1 = m at e ⊢
  have m1 : 1 ≤ m := by omega
  refine ⟨⟨fun z => ?_, fun z => ?_⟩, fun z => ?_⟩
  · obtain ⟨q, rfl⟩ := Nat.dvd_of_mod_eq_zero z
    have : m * R = m * (n * q) := by rw [← e, Nat.mul_left_comm]
    rw [Nat.eq_of_mul_eq_mul_left m1 this]
    exact Nat.mul_mod_right _ _
  · obtain ⟨q, rfl⟩ := Nat.dvd_of_mod_eq_zero z
    have : n * S = n * (m * q) := by rw [e, Nat.mul_left_comm]
    rw [Nat.eq_of_mul_eq_mul_left hn this]
    exact Nat.mul_mod_right _ _
  · obtain ⟨q, rfl⟩ := Nat.dvd_of_mod_eq_zero z
    have : n * S = n * (m * q) := by rw [e, Nat.mul_left_comm]
    rw [Nat.eq_of_mul_eq_mul_left hn this, Nat.mul_div_cancel_left _ m1, Nat.mul_div_cancel_left _ hn]
theorem pce_lt {b n x k j : Nat} (hb : 1 ≤ b) (hn : 1 ≤ n) : pce b n x k j < b ^ k := by
  have w := wrt_dg b n x (k * j) k
  have r := rem_lt (b := b) (n := n) (x := x) (i := k * j) hn
  unfold pce
  have h1 : n * wrt b (dg b n x (k * j) k) ≤ rem b n x (k * j) * b ^ k := by omega
  have h2 : rem b n x (k * j) * b ^ k < n * b ^ k := Nat.mul_lt_mul_of_pos_right r (Nat.pow_pos hb)
  exact Nat.lt_of_mul_lt_mul_left (Nat.lt_of_le_of_lt h1 h2)
theorem rem_period {b n x L : Nat} (h : b ^ L % n = 1 % n) : rem b n x L = rem b n x 0 := by
  unfold rem
  rw [Nat.mul_mod, h, ← Nat.mul_mod, Nat.pow_zero]
/-! whole numbers of more signs -/
theorem Sm.intB {i : Int} {k : Nat} (hk : 1 ≤ k) (h : i.natAbs < 2 ^ k) (hk2 : k ≤ 1000) : Sm (.int i) 303 0 k := by
  have hl := log2_lt hk h
  have h12 : i.natAbs < 10 ^ 302 := Nat.lt_of_lt_of_le h (Nat.le_trans (Nat.pow_le_pow_right (by decide) hk2) (by decide +kernel))
  refine ⟨?_, ?_, rfl, rfl, Nat.le_refl _, ?_⟩
  · show decide (i.natAbs.log2 < 1920) = true
    exact decide_eq_true (by omega)
  · show decide ((PyData.shown (.int i)).length ≤ 303) = true
    refine decide_eq_true ?_
    have e := int_text_length_le10 (k := 302) (by decide) h12
    show (Str.ofString (toString i)).length ≤ 303
    rw [PySem.ofString_length]
    exact e
  · show 0 ≤ k
    omega
/-- .. of up to 1900 bits -/
theorem Sm.intW {i : Int} (h : i.natAbs < 2 ^ 1900) : Sm (.int i) 600 0 0 := by
  have hl := log2_lt (k := 1900) (by decide) h
  have h12 : i.natAbs < 10 ^ 599 := Nat.lt_of_lt_of_le h (by decide +kernel)
  refine ⟨?_, ?_, rfl, rfl, Nat.le_refl _, Nat.le_refl _⟩
  · show decide (i.natAbs.log2 < 1920) = true
    exact decide_eq_true (by omega)
  · show decide ((PyData.shown (.int i)).length ≤ 600) = true
    refine decide_eq_true ?_
    have e := int_text_length_le10 (k := 599) (by decide) h12
    show (Str.ofString (toString i)).length ≤ 600
    rw [PySem.ofString_length]
    exact e
theorem Sm.int0 {i : Int} {k : Nat} (hk : 1 ≤ k) (h : i.natAbs < 2 ^ k) (hk2 : k ≤ 39) : Sm (.int i) 13 0 0 := by
  obtain ⟨a, b, c, d, e, _⟩ := Sm.int hk h hk2
  exact ⟨a, b, c, d, e, Nat.le_refl _⟩
end Wn
/-! d.update(e) for dicts of whole numbers and texts; dict(xs) with a name -/
namespace Wn
open PySem PySem.Spec PyProof.Rows L2
def rUpd : V → List V → Hp → VK → Prop := fun x vs H Q => ∃ (a o : Addr) (kvs more : List (Key × V)), x = .ref a ∧ vs = [.ref o] ∧ a ≠ o ∧ H a = some (.dK kvs) ∧ H o = some (.dK more) ∧ kvs.length + more.length ≤ sizeLine ∧ Q .non (upd H a (.dK (mergeK kvs more)))
theorem mt_update {X : Cx} : MtR X "dict.update" rUpd := by
  intro pins s σ H x vs v us Q I rx rv h
  obtain ⟨a, o, kvs, more, rfl, rfl, hne, ha, ho, hz, q⟩ := h
  cases rx
  obtain ⟨u, rfl, ru⟩ := rv.one
  cases ru
  obtain ⟨z1, n1, vs1, rel1, d1⟩ := dk_of I.hok ha
  obtain ⟨z2, n2, vs2, rel2, d2⟩ := dk_of I.hok ho
  have l1 := rel1.length
  have l2 := rel2.length
  refine call_meetsIn PySem.F.slot_dict_update d1.typeIs PySem.F.entry_dict_update (PySem.F.args_dict_update_2 _ _) (meets_dict_update (mixKind X.prog X.w) a o hne n2) ⟨vs1, vs2, d1, d2, by omega, fun h' d1' d2' hs => ?_⟩
  have hlm := length_mergeK more kvs
  have he : ∃ q, h'.get? a = some q := let ⟨q, _, _, hq, _⟩ := d1'; ⟨q, hq⟩
  exact ⟨.non, _, d_write I (by rw [ha]; exact True.intro) hs he (dk_new (by omega) n1 (rel2.merge rel1) d1'), rfl, q⟩
def rDP (K : PySem.W.Frag) : List V → Hp → VK → Prop := fun xs H Q => ∃ (a : Addr) (ps : List Addr) (kvs : List (Key × V)), xs = [.ref a] ∧ SqL K H a (ps.map V.ref) ∧ Paired (fun p kv => SqT K H p [kV kv.1, kv.2]) ps kvs ∧
    ∀ p, H p = none → Q (.ref p) (upd H p (.dK (mergeK [] kvs)))
theorem call_dP {X : Cx} (h : X.calm = true) : CallR X (.type "dict") (rDP X.K) := call_dictP h
theorem valV_merge : ∀ (more kvs : List (Key × V)) (k : Key), (valV (mergeK kvs more) k).isSome = ((valV kvs k).isSome || decide (∃ kv ∈ more, kv.1 = k))
  | [], kvs, k => by simp [mergeK]
  | p :: r, kvs, k => by
    show (valV (mergeK (putK kvs p.1 p.2) r) k).isSome = _
    rw [valV_merge r, valV_put, Bool.eq_iff_iff]
    by_cases e : k = p.1
    · subst e
      simp
    · rw [if_neg e]
      have e' : ¬ p.1 = k := fun z => e z.symm
      simp [e']
end Wn
/-! wheels: rows of remainders -/
namespace Wn
open PySem PySem.Spec PyProof.Rows L2
def topB (b n L x : Nat) : Bool := decide (Nat.gcd x n = 1) && (List.range L).all fun i => decide (x ≤ rem b n x i)
def wl (b n L : Nat) : List Nat := (List.range n).filter (topB b n L)
def InOrb (b n L y r : Nat) : Prop := ∃ i, i < L ∧ rem b n y i = r
theorem top_iff {b n L x : Nat} : topB b n L x = true ↔ Nat.gcd x n = 1 ∧ ∀ i, i < L → x ≤ rem b n x i := by
  unfold topB
  rw [Bool.and_eq_true, decide_eq_true_eq, List.all_eq_true]
  constructor
  · rintro ⟨h1, h2⟩
    refine ⟨h1, fun i hi => ?_⟩
    have := h2 i (List.mem_range.mpr hi)
    rwa [decide_eq_true_eq] at this
  · rintro ⟨h1, h2⟩
    exact ⟨h1, fun i hi => decide_eq_true (h2 i (List.mem_range.mp hi))⟩
theorem rem_rem (b n y i j : Nat) : rem b n (rem b n y i) j = rem b n y (i + j) := by
  unfold rem
  rw [Nat.mod_mul_mod, Nat.mul_assoc, ← Nat.pow_add]
theorem rem_per {b n L y : Nat} (h : IsPer b n L) (hy : y < n) : rem b n y L = y := by
  unfold rem
  rw [Nat.mul_mod, h.2.1, ← Nat.mul_mod, Nat.mul_one, Nat.mod_eq_of_lt hy]
theorem orb_symm {b n L x y : Nat} (h : IsPer b n L) (hy : y < n) (o : InOrb b n L y x) : InOrb b n L x y := by
  obtain ⟨i, hi, e⟩ := o
  subst e
  rcases Nat.eq_zero_or_pos i with z | z
  · subst z
    exact ⟨0, h.1, by rw [rem_rem, rem_zero hy]⟩
  · exact ⟨L - i, by omega, by rw [rem_rem, show i + (L - i) = L by omega, rem_per h hy]⟩
theorem rem_cop {b n x : Nat} (g : Nat.gcd b n = 1) (gx : Nat.gcd x n = 1) (i : Nat) : Nat.gcd (rem b n x i) n = 1 := by
  unfold rem
  rw [← Nat.gcd_rec n (x * b ^ i), Nat.gcd_comm]
  exact Nat.Coprime.mul_left gx (cop_pow g i)
theorem not_top {b n L x : Nat} (g : Nat.gcd b n = 1) (h : IsPer b n L) (hx : x < n) (gx : Nat.gcd x n = 1) : topB b n L x = false ↔ ∃ y, y < x ∧ Nat.gcd y n = 1 ∧ InOrb b n L y x := by
  have hn : 1 ≤ n := by omega
  constructor
  · intro z
    have z' : ¬ topB b n L x = true := by rw [z]; decide
    rw [top_iff] at z'
    have : ∃ i, i < L ∧ rem b n x i < x := by
      apply Classical.byContradiction
      intro c
      exact z' ⟨gx, fun i hi => Nat.le_of_not_lt fun l => c ⟨i, hi, l⟩⟩
    obtain ⟨i, hi, l⟩ := this
    exact ⟨_, l, rem_cop g gx i, orb_symm h hx ⟨i, hi, rfl⟩⟩
  · rintro ⟨y, hy, gy, o⟩
    obtain ⟨j, hj, e⟩ := orb_symm h (by omega) o
    cases c : topB b n L x with
    | false => rfl
    | true =>
      have := (top_iff.mp c).2 j hj
      omega
/-- who has been met before x comes -/
def Met (b n L k r : Nat) : Prop := ∃ y, y < k ∧ Nat.gcd y n = 1 ∧ InOrb b n L y r
theorem met_top {b n L k r : Nat} (g : Nat.gcd b n = 1) (h : IsPer b n L) (hk : k ≤ n) : Met b n L k r ↔ ∃ y, y < k ∧ topB b n L y = true ∧ InOrb b n L y r := by
  constructor
  · rintro ⟨y, hy, gy, i, hi, e⟩
    -- the least of its row
    obtain ⟨m, hm, ⟨j, hj, ej⟩, q⟩ := least (fun z => ∃ j, j < L ∧ rem b n y j = z) y ⟨0, h.1, rem_zero (by omega)⟩
    have hjm : rem b n y j = m := ej
    refine ⟨m, by omega, top_iff.mpr ⟨?_, fun t ht => ?_⟩, ?_⟩
    · rw [← hjm]
      exact rem_cop g gy j
    · apply Nat.le_of_not_lt
      intro l
      refine q _ l ⟨(j + t) % L, Nat.mod_lt _ h.1, ?_⟩
      rw [← hjm, rem_rem]
      have := Nat.div_add_mod (j + t) L
      show rem b n y ((j + t) % L) = rem b n y (j + t)
      conv => rhs; rw [← this]
      rw [← rem_rem]
      congr 1
      unfold rem
      rw [Nat.mul_mod, h.mul, ← Nat.mul_mod, Nat.mul_one, Nat.mod_eq_of_lt (by omega)]
    · refine ⟨(L - j + i) % L, Nat.mod_lt _ h.1, ?_⟩
      have := Nat.div_add_mod (L - j + i) L
      rw [← e, ← hjm, rem_rem]
      have e2 : rem b n y (j + (L - j + i) % L) = rem b n y (j + (L - j + i)) := by
        conv => rhs; rw [← this]
        rw [show j + (L * ((L - j + i) / L) + (L - j + i) % L) = L * ((L - j + i) / L) + (j + (L - j + i) % L) by omega, ← rem_rem (i := L * ((L - j + i) / L))]
        congr 1
        unfold rem
        rw [Nat.mul_mod, h.mul, ← Nat.mul_mod, Nat.mul_one, Nat.mod_eq_of_lt (by omega)]
      rw [e2, show j + (L - j + i) = L + i by omega, ← rem_rem, rem_per h (by omega)]
  · rintro ⟨y, hy, t, o⟩
    exact ⟨y, hy, (top_iff.mp t).1, o⟩
theorem met_succ {b n L k r : Nat} : Met b n L (k + 1) r ↔ Met b n L k r ∨ (Nat.gcd k n = 1 ∧ InOrb b n L k r) := by
  constructor
  · rintro ⟨y, hy, gy, o⟩
    rcases Nat.lt_or_eq_of_le (show y ≤ k by omega) with z | z
    · exact .inl ⟨y, z, gy, o⟩
    · subst z
      exact .inr ⟨gy, o⟩
  · rintro (⟨y, hy, gy, o⟩ | ⟨gk, o⟩)
    · exact ⟨y, by omega, gy, o⟩
    · exact ⟨k, by omega, gk, o⟩
/-- a number whose least one stands before it brings nothing new -/
theorem met_skip {b n L k r : Nat} (g : Nat.gcd b n = 1) (h : IsPer b n L) (hk : k < n) (c : topB b n L k = false) : Met b n L (k + 1) r ↔ Met b n L k r := by
  rw [met_top g h (by omega), met_top g h (by omega)]
  constructor
  · rintro ⟨y, hy, t, o⟩
    rcases Nat.lt_or_eq_of_le (show y ≤ k by omega) with z | z
    · exact ⟨y, z, t, o⟩
    · subst z
      rw [c] at t
      cases t
  · rintro ⟨y, hy, t, o⟩
    exact ⟨y, by omega, t, o⟩
def rl (b n x L : Nat) : List Nat := (List.range L).map fun i => rem b n x i
theorem rl_len (b n x L : Nat) : (rl b n x L).length = L := by simp [rl]
theorem mem_rl {b n x L r : Nat} : r ∈ rl b n x L ↔ InOrb b n L x r := by
  unfold rl
  rw [List.mem_map]
  constructor
  · rintro ⟨i, hi, e⟩
    exact ⟨i, List.mem_range.mp hi, e⟩
  · rintro ⟨i, hi, e⟩
    exact ⟨i, List.mem_range.mpr hi, e⟩
theorem rl_lt {b n x L r : Nat} (hn : 1 ≤ n) (h : r ∈ rl b n x L) : r < n := by
  obtain ⟨i, _, rfl⟩ := mem_rl.mp h
  exact rem_lt hn
def copL (n : Nat) : List Nat := (List.range n).filter fun x => decide (Nat.gcd x n = 1)
theorem wl_take_succ {b n L k : Nat} (hk : k < n) : ((List.range n).take (k + 1)).filter (topB b n L) = ((List.range n).take k).filter (topB b n L) ++ (if topB b n L k = true then [k] else []) := by
  rw [List.take_succ_eq_append_getElem (by simpa using hk), List.filter_append, List.getElem_range, List.filter_cons]
  split <;> simp
end Wn
namespace Wn
open PySem PySem.Spec PyProof.Rows L2
theorem orb_trans {b n L x y r : Nat} (h : IsPer b n L) (hy : y < n) (o : InOrb b n L y x) (o2 : InOrb b n L x r) : InOrb b n L y r := by
  obtain ⟨i, hi, rfl⟩ := o
  obtain ⟨j, hj, rfl⟩ := o2
  refine ⟨(i + j) % L, Nat.mod_lt _ h.1, ?_⟩
  rw [rem_rem]
  have := Nat.div_add_mod (i + j) L
  show rem b n y ((i + j) % L) = rem b n y (i + j)
  conv => rhs; rw [← this]
  rw [← rem_rem]
  congr 1
  unfold rem
  rw [Nat.mul_mod, h.mul, ← Nat.mul_mod, Nat.mul_one, Nat.mod_eq_of_lt hy]
theorem asc_cop (n : Nat) : (copL n).Pairwise (· < ·) := List.Pairwise.filter _ List.pairwise_lt_range
theorem mem_cop {n x : Nat} : x ∈ copL n ↔ x < n ∧ Nat.gcd x n = 1 := by
  unfold copL
  rw [List.mem_filter, List.mem_range, decide_eq_true_eq]
theorem cop_len (n : Nat) : (copL n).length ≤ n := by
  unfold copL
  exact Nat.le_trans (List.length_filter_le _ _) (by simp)
theorem cop_take {n i y : Nat} (hi : i < (copL n).length) : y ∈ (copL n).take i ↔ y < (copL n)[i] ∧ Nat.gcd y n = 1 := by
  have hx := mem_cop.mp (List.getElem_mem hi)
  constructor
  · intro h
    obtain ⟨j, hj, rfl⟩ := List.mem_iff_getElem.mp h
    rw [List.length_take] at hj
    rw [List.getElem_take]
    exact ⟨List.pairwise_iff_getElem.mp (asc_cop n) j i (by omega) hi (by omega), (mem_cop.mp (List.getElem_mem _)).2⟩
  · rintro ⟨hl, hg⟩
    have hm : y ∈ copL n := mem_cop.mpr ⟨by omega, hg⟩
    obtain ⟨j, hj, rfl⟩ := List.mem_iff_getElem.mp hm
    rw [List.mem_iff_getElem]
    have hji : j < i := by
      rcases Nat.lt_trichotomy j i with z | z | z
      · exact z
      · subst z
        omega
      · have := List.pairwise_iff_getElem.mp (asc_cop n) i j hi hj z
        omega
    exact ⟨j, by rw [List.length_take]; omega, by rw [List.getElem_take]⟩
theorem cop_top (b n L : Nat) : (copL n).filter (topB b n L) = wl b n L := by
  unfold copL wl
  rw [List.filter_filter]
  congr 1
  funext x
  cases t : topB b n L x with
  | false => rfl
  | true => rw [decide_eq_true (top_iff.mp t).1]; rfl
theorem valV_mem : ∀ (l : List (Key × V)) (k : Key), (valV l k).isSome = true ↔ ∃ kv ∈ l, kv.1 = k
  | [], k => by simp [valV]
  | p :: r, k => by
    by_cases e : p.1 = k
    · rw [valV_pos e]
      simp [e]
    · rw [valV_neg e, valV_mem r]
      simp [e]
end Wn
/-! set(xs) of a list of whole numbers -/
namespace Wn
open PySem PySem.Spec PyProof.Rows L2
abbrev eSet (w : World) : Obj := { cls := .type "set", dict := none, data := .set #[] 0 (.fresh 0 0 (!w.params.followText "set-order")) }
section
variable {P : Program} {w : World} {A : Around} {E : Value → Shared → Prop} {z : Shared}
theorem set_lst {l : Addr} {us : Array Value} (ks : List Int) {Q : Value → Shared → Prop} (hh : A.handled = none) (hl : z.heap.IsList l us) (hu : IntsAre us.toList ks) (hb : ks.length + 1 < scanBound)
    (go : ∀ (hp : Heap) (tk c : Nat), SetR w hp z.heap.objs.size (fun j => decide (j ∈ ks)) c → (∀ b o, z.heap.get? b = some o → hp.get? b = some o) → Q (.ref z.heap.objs.size) { z with heap := hp, toks := tk }) :
    wpAny (model P w) A (call (.type "set") [.ref l]) Q E z := by
  have hsz : us.size = ks.length := Array.length_toList (xs := us) ▸ IntsAre.length hu
  obtain ⟨c0, t0, mr⟩ := F.called_set.mro
  have p1 := F.called_set.made; have p2 := F.called_set.sub
  refine wpAny_call (codeAny_of_tree (show wpAny _ _ (callAny (.type "set") _) _ _ _ from wpAny_pure ⟨Code.quiet_builtin _ (by decide +kernel), codeAny_builtin F.entry_type_call ?_⟩))
  rw [Around.under_plain (weight_type_call_type "set" [Value.ref l] []) rfl]
  have p3 := F.called_set.notType; have p4 := F.called_set.canCreate; have p5 := F.typeCall_set_1 (.ref l)
  repeat (any_goals (first | assumption | wp_step))
  refine codeAny_mono (code_set_led1 (.ref l) (E := E) (Q₁ := fun v s1 => v = .ref z.heap.objs.size ∧ s1 = { z with heap := z.heap.push (eSet w) }) ⟨rfl, rfl⟩) fun r s1 hr => ?_
  cases r with
  | error e => exact hr
  | ok fl =>
    cases fl with
    | ret v =>
      obtain ⟨rfl, rfl⟩ := hr
      have aS : (z.heap.push (eSet w)).get? z.heap.objs.size = some (eSet w) := Heap.get?_push_size _ rfl
      have tS : Shared.TypeIs { z with heap := z.heap.push (eSet w) } (.ref z.heap.objs.size) "set" := ⟨_, aS, rfl⟩
      have p6 := F.called_set.init.lookup; have p7 := F.called_set.init.bind (.ref z.heap.objs.size)
      repeat (any_goals (first | assumption | wp_step))
      refine codeAny_mono (codeAny_call_builtin (R := wants (fun r s2 => r = .none ∧ ∃ hp tk c, s2 = { z with heap := hp, toks := tk } ∧ SetR w hp z.heap.objs.size (fun j => decide (j ∈ ks)) c ∧ (∀ b o, z.heap.get? b = some o → hp.get? b = some o)) E)
        F.called_set.init.plain F.entry_set_init (check_set_init_1 tS ?_)) fun r2 s2 hr2 => ?_
      · obtain ⟨⟨oc, od, odata, osl⟩, ho, hc, nl, hd⟩ := hl
        simp only at hc hd; subst hc; subst hd
        have ho' : (z.heap.push (eSet w)).get? l = some { cls := .type "list", dict := od, data := .seq us nl, slots := osl } := Heap.get?_push_of_some _ ho
        have q1 := F.sub_list_set; have q2 := F.sub_list_frozenset
        have q3 : (Value.type "list" == Value.type "dict") = false := by decide
        have il : (z.heap.push (eSet w)).IsList l us := ⟨_, ho', rfl, nl, rfl⟩
        unfold Builtin.«set.__init__» noKeywords Builtin.Frozenset.updateFrom
        generalize eI : pyIter = PI; wp_walk; subst eI
        refine wpAny_pyIter_list il (wpAny_bind (wpAny_runValue ?_))
        have lt : l < z.heap.objs.size := Heap.lt_size ho
        have h3 : A.in1.in1.in1.handled = none := by simp [hh]
        have eI : (z.heap.push (eSet w)).objs.size = z.heap.objs.size + 1 := Heap.size_push ..
        have nI : l ≠ (z.heap.push (eSet w)).objs.size := by rw [eI]; exact Nat.ne_of_lt (Nat.lt_succ_of_lt lt)
        have nS : z.heap.objs.size ∉ [(z.heap.push (eSet w)).objs.size, l] := by
          rw [eI]; simp only [List.mem_cons, List.not_mem_nil, or_false]; exact fun h => h.elim (Nat.ne_of_lt (Nat.lt_succ_self _)) (Nat.ne_of_gt lt)
        have items : ∀ (i : Nat) (v : Value), us[i]? = some v → ∃ k t, ks[i]? = some k ∧ v = .int k t := fun i v hv => by
          have hi : i < ks.length := hsz ▸ (Array.getElem?_eq_some_iff.mp hv).1
          obtain ⟨t, e⟩ := PyProof.Rows.IntsAre.int_at hu i v (by simpa using hv)
          exact ⟨ks[i], t, by simp [hi], by rw [e]; simp [hi]⟩
        refine set_update_ints ((Walks.list h3 _ l nI us).toS) z.heap.objs.size nS ks hsz hb items (us.size - 0) 0 _ (by omega) (Nat.zero_le _) ⟨⟨_, Heap.get?_push_size _ rfl, rfl, rfl⟩, il.push _⟩ ⟨0, Nat.le_refl 0, setR_new_at (Heap.get?_push_of_some _ aS)⟩ fun s3 c3 mv hc3 R3 => ?_
        obtain ⟨h3', g3, d3, tk3, os3⟩ := s3
        have e1 : g3 = z.gens := mv.gens; have e2 : d3 = z.drawn := mv.drawn; have e3 : os3 = z.os := mv.os
        subst e1; subst e2; subst e3
        refine wpAny_pure (show wpAny _ _ (ret Value.none) _ _ _ from wpAny_pure ⟨rfl, h3', tk3, c3, rfl, R3, fun b o e => ?_⟩)
        have lb : b < z.heap.objs.size := Heap.lt_size e
        refine mv.heap b o ?_ (Heap.get?_push_of_some _ (Heap.get?_push_of_some _ e))
        simp only [List.mem_cons, List.not_mem_nil, or_false]; rw [eI]; exact fun h => h.elim (Nat.ne_of_lt lb) (Nat.ne_of_lt (Nat.lt_succ_of_lt lb))
      · cases r2 with
        | error e => exact hr2
        | ok fl2 =>
          cases fl2 with
          | ret r =>
            obtain ⟨rfl, hp, tk, c, rfl, R, kp⟩ := hr2
            repeat (any_goals (first | assumption | wp_step))
            exact go _ _ _ R kp
          | _ => exact hr2.elim
    | _ => exact hr.elim
end
theorem ints_vals : ∀ {ns : List Int} {us : List Value}, Vals (ns.map V.int) us → IntsAre us ns
  | [], _, .nil => .nil
  | _ :: _, _, .cons ⟨k, e⟩ t => e ▸ IntsAre.cons _ k (ints_vals t)
def rSetL (K : PySem.W.Frag) (w : World) : List V → Hp → VK → Prop := fun xs H Q => ∃ (l : Addr) (ns : List Int), xs = [V.ref l] ∧ SqL K H l (ns.map V.int) ∧ ns.length ≤ 4000 ∧
  ∀ (a : Addr) (ks : List Int), H a = none → ks.Nodup → (∀ k, k ∈ ks ↔ k ∈ ns) → Q (.ref a) (upd H a (SetO w a (fun j => decide (j ∈ ns)) ks.length))
theorem call_setL {X : Cx} (hc : X.calm = true) : CallR X (.type "set") (rSetL X.K X.w) := by
  intro pins s σ H xs us Q I r h
  obtain ⟨l, ns, rfl, hs, hz, q⟩ := h
  obtain ⟨its, rv, hl, _⟩ := I.list hs
  rw [Vals.ref1 r]
  refine set_lst ns (I.ok.hd hc) hl.isList (by simpa using ints_vals rv) (by unfold scanBound; omega) fun hp tk c R kp => ?_
  have R' := R
  obtain ⟨o, es, ep, t, _, _, _, _, nd, hm, _, _, hn, _⟩ := R
  have e : (es.toList.map keyOf).length = c := by rw [List.length_map, Array.length_toList, hn]
  have free := I.hok.fresh (Nat.le_refl s.heap.objs.size)
  have q' := q s.heap.objs.size (es.toList.map keyOf) free nd (fun k => by rw [← hm]; simp)
  rw [e] at q'
  exact ⟨.ref _, _, I.laid (t' := tk) kp (Nat.le_refl _) (setO_new R'), rfl, q'⟩
/-! ascending lists with the same members are one -/
theorem asc_eq : ∀ {xs ys : List Int}, xs.Pairwise (· < ·) → ys.Pairwise (· < ·) → (∀ k, k ∈ xs ↔ k ∈ ys) → xs = ys
  | [], [], _, _, _ => rfl
  | [], y :: ys, _, _, h => absurd ((h y).mpr List.mem_cons_self) (by simp)
  | x :: xs, [], _, _, h => absurd ((h x).mp List.mem_cons_self) (by simp)
  | x :: xs, y :: ys, hx, hy, h => by
    have hx' := List.pairwise_cons.mp hx
    have hy' := List.pairwise_cons.mp hy
    have e : x = y := by
      rcases List.mem_cons.mp ((h x).mp List.mem_cons_self) with z | z
      · exact z
      · rcases List.mem_cons.mp ((h y).mpr List.mem_cons_self) with z2 | z2
        · exact z2.symm
        · have h1 := hy'.1 x z
          have h2 := hx'.1 y z2
          omega
    subst e
    rw [asc_eq hx'.2 hy'.2 fun k => ?_]
    have hk := h k
    simp only [List.mem_cons] at hk
    constructor
    · intro z
      rcases hk.mp (.inr z) with z2 | z2
      · have := hx'.1 k z
        omega
      · exact z2
    · intro z
      rcases hk.mpr (.inr z) with z2 | z2
      · have := hy'.1 k z
        omega
      · exact z2
end Wn
/-! a tuple times any small number -/
namespace Wn
open PySem PySem.Spec PyProof.Rows L2
theorem tmul_same (l : Addr) (us : Array Value) (n : Nat) (dd : Option Addr) (sl : Array (Option Value)) (k : Int) (u : Tok) (c0 : (decide (k < -(2 ^ 63)) || decide (k ≥ 2 ^ 63)) = false) (c1 : (us.isEmpty || k == 1) = true) :
    Meets (Builtin.«tuple.__mul__» ⟨[.ref l, .int k u], []⟩) (fun _ R s => s.heap.get? l = some { cls := .type "tuple", dict := dd, data := .seq us n, slots := sl } ∧ R (.ok (.ret (Value.ref l))) s) :=
  .of_wp fun prog w A R s ⟨hl, go⟩ => by
    obtain ⟨hp, g, d, tk, os⟩ := s
    have f1 := AutoSeq1.idx_int
    wp_walk using wpAny_loadPart' hl
    repeat (first
      | (refine wpAny_ite_false (decide_eq_false (by rw [c0]; exact Bool.false_ne_true)) ?_; wp_walk using wpAny_loadPart' hl)
      | (refine wpAny_ite_true (decide_eq_true (by rw [c1])) ?_; wp_walk using wpAny_loadPart' hl))
    exact ⟨_, rfl, go⟩
theorem tmul_none (l : Addr) (us : Array Value) (n : Nat) (dd : Option Addr) (sl : Array (Option Value)) (k : Int) (u : Tok) (c0 : (decide (k < -(2 ^ 63)) || decide (k ≥ 2 ^ 63)) = false) (c1 : (us.isEmpty || k == 1) = false) (c2 : (decide (k ≤ 0) || us.isEmpty) = true) :
    Meets (Builtin.«tuple.__mul__» ⟨[.ref l, .int k u], []⟩) (fun _ R s => s.heap.get? l = some { cls := .type "tuple", dict := dd, data := .seq us n, slots := sl } ∧
      R (.ok (.ret (Value.ref s.heap.objs.size))) { s with heap := s.heap.push { cls := Value.type "tuple", data := Data.seq #[] }, toks := s.toks }) :=
  .of_wp fun prog w A R s ⟨hl, go⟩ => by
    obtain ⟨hp, g, d, tk, os⟩ := s
    have f1 := AutoSeq1.idx_int
    wp_walk using wpAny_loadPart' hl
    repeat (first
      | (refine wpAny_ite_false (decide_eq_false (by rw [c0]; exact Bool.false_ne_true)) ?_; wp_walk using wpAny_loadPart' hl)
      | (refine wpAny_ite_false (decide_eq_false (by rw [c1]; exact Bool.false_ne_true)) ?_; wp_walk using wpAny_loadPart' hl)
      | (refine wpAny_ite_true (decide_eq_true (by rw [c2])) ?_; wp_walk using wpAny_loadPart' hl))
    exact ⟨_, rfl, go⟩
def rRepG (K : PySem.W.Frag) : R2 := fun x y H Q => ∃ (l : Addr) (k : Int) (xs : List V), x = .ref l ∧ y = .int k ∧ SqT K H l xs ∧ (-1000 ≤ k ∧ k ≤ 1000 ∧ xs.length ≤ 1000) ∧
  ((k = 1 ∨ xs = []) → Q (.ref l) H) ∧ (k ≠ 1 → xs ≠ [] → ∀ p, H p = none → Q (.ref p) (upd H p (.tup (List.replicate k.toNat xs).flatten)))
theorem op_repG {X : Cx} : OpR X (binaryOp .Mult) (rRepG X.K) := by
  intro pins s σ H x y v u Q I rx ry h
  obtain ⟨l, k, xs, rfl, rfl, hT, ⟨h0, h1, hz⟩, q1, q2⟩ := h
  by_cases hb : 2 ≤ k ∧ xs ≠ []
  · exact op_repT pins s σ H _ _ _ _ _ I rx ry ⟨l, k, xs, rfl, rfl, hT, hb.2, hb.1, h1, hz, q2 (by omega) hb.2⟩
  cases rx
  obtain ⟨t, rfl⟩ := ry
  obtain ⟨its, r, ⟨⟨cls, dd, data, sl⟩, ho, hc, n, hd⟩, hs⟩ := I.tuple hT
  simp only at hc hd
  subst hc hd
  have c0 : (decide (k < -(2 ^ 63)) || decide (k ≥ 2 ^ 63)) = false := by
    rw [decide_eq_false (by omega), decide_eq_false (by omega)] <;> rfl
  have hne : its.toArray.isEmpty = true ↔ xs = [] := by
    cases r with
    | nil => exact ⟨fun _ => rfl, fun _ => rfl⟩
    | cons a b => exact ⟨fun z => by simp at z, fun z => by cases z⟩
  by_cases c1 : (its.toArray.isEmpty || k == 1) = true
  · have hk : k = 1 ∨ xs = [] := by
      rcases Bool.or_eq_true _ _ ▸ c1 with z | z
      · exact .inr (hne.mp z)
      · exact .inl (beq_iff_eq.mp z)
    refine wpAny_binaryOp_repeat_ref (T := "tuple") (U := "int") (by decide) ⟨_, ho, rfl⟩ (fun s' => typeIs_int s' k t) noFill_tuple_mul F.fills_int_mul F.slot_int_rmul repeat_tuple F.slot_int_index.lookup
      (call_meets F.slot_int_rmul (typeIs_int s k t) F.entry_int_rmul (F.args_int_rmul_2 _ _) (int_rmul_tuple k t l its.toArray n dd sl)
        ⟨ho, rfl, ⟨_, ho, rfl⟩, call_meets F.slot_tuple_mul ⟨_, ho, rfl⟩ F.entry_tuple_mul (F.args_tuple_mul_2 _ _) (tmul_same l its.toArray n dd sl k t c0 c1) ⟨ho, .ref l, H, I, rfl, q1 hk⟩⟩)
  · have c1' : (its.toArray.isEmpty || k == 1) = false := by simpa using c1
    rw [Bool.or_eq_false_iff] at c1'
    have hx : xs ≠ [] := fun z => by
      rw [hne.mpr z] at c1'
      cases c1'.1
    have hk1 : k ≠ 1 := fun z => by
      have := c1'.2
      rw [z] at this
      cases this
    have hk0 : k ≤ 0 := by
      rcases Int.lt_or_le 0 k with z | z
      · exact absurd ⟨by omega, hx⟩ hb
      · exact z
    have q3 := q2 hk1 hx s.heap.objs.size (I.hok.fresh (Nat.le_refl _))
    rw [show k.toNat = 0 by omega] at q3
    refine wpAny_binaryOp_repeat_ref (T := "tuple") (U := "int") (by decide) ⟨_, ho, rfl⟩ (fun s' => typeIs_int s' k t) noFill_tuple_mul F.fills_int_mul F.slot_int_rmul repeat_tuple F.slot_int_index.lookup
      (call_meets F.slot_int_rmul (typeIs_int s k t) F.entry_int_rmul (F.args_int_rmul_2 _ _) (int_rmul_tuple k t l its.toArray n dd sl)
        ⟨ho, rfl, ⟨_, ho, rfl⟩, call_meets F.slot_tuple_mul ⟨_, ho, rfl⟩ F.entry_tuple_mul (F.args_tuple_mul_2 _ _) (tmul_none l its.toArray n dd sl k t c0 (by rw [c1'.1, c1'.2]; rfl) (by rw [decide_eq_true hk0]; rfl)) ⟨ho, ?_⟩⟩)
    refine ⟨.ref s.heap.objs.size, _, I.laid (t' := s.toks) (o := .tup (List.replicate 0 xs).flatten) (fun b ob q => Heap.get?_push_of_some _ q) (Nat.le_refl _) ?_, rfl, q3⟩
    exact ⟨Nat.zero_le _, [], .nil, IsTup.new _ _⟩
end Wn
/-! rotations -/
namespace Wn
open PySem PySem.Spec PyProof.Rows L2
def rotL (ds : List Nat) (k : Nat) : List Nat := ds.drop k ++ ds.take k
theorem rotL_len (ds : List Nat) (k : Nat) : (rotL ds k).length = ds.length := by
  unfold rotL
  rw [List.length_append, List.length_drop, List.length_take]
  omega
theorem rotL_zero (ds : List Nat) : rotL ds 0 = ds := by simp [rotL]
theorem rotL_succ {ds : List Nat} {k : Nat} (h : k < ds.length) : (rotL ds k).drop 1 ++ (rotL ds k).take 1 = rotL ds (k + 1) := by
  unfold rotL
  rw [List.drop_eq_getElem_cons h]
  simp only [List.cons_append, List.drop_succ_cons, List.drop_zero, List.take_succ_cons, List.take_zero]
  rw [List.append_assoc, List.take_succ_eq_append_getElem h]
theorem mem_rotL {ds : List Nat} {k x : Nat} (h : x ∈ rotL ds k) : x ∈ ds := by
  unfold rotL at h
  rcases List.mem_append.mp h with z | z
  · exact List.mem_of_mem_drop z
  · exact List.mem_of_mem_take z
/-- the repeating digits -/
def dgl (b n x L : Nat) : List Nat := (List.range L).map fun i => rem b n x i * b / n
theorem dgl_len (b n x L : Nat) : (dgl b n x L).length = L := by simp [dgl]
theorem rem_cyc {b n x L : Nat} (h : IsPer b n L) (i : Nat) : rem b n x (i + L) = rem b n x i := by
  unfold rem
  rw [Nat.pow_add, ← Nat.mul_assoc, Nat.mul_mod, h.2.1, ← Nat.mul_mod, Nat.mul_one]
theorem dgl_rot {b n x L k : Nat} (h : IsPer b n L) (hk : k ≤ L) : rotL (dgl b n x L) k = dgl b n (rem b n x k) L := by
  unfold rotL
  apply List.ext_getElem
  · rw [List.length_append, List.length_drop, List.length_take, dgl_len, dgl_len]
    omega
  · intro i h1 h2
    rw [dgl_len] at h2
    rw [List.getElem_append]
    split
    · rename_i hi
      rw [List.length_drop, dgl_len] at hi
      rw [List.getElem_drop]
      simp only [dgl, List.getElem_map, List.getElem_range]
      rw [rem_rem]
    · rename_i hi
      rw [List.length_drop, dgl_len] at hi
      rw [List.getElem_take]
      simp only [dgl, List.getElem_map, List.getElem_range, List.length_drop, List.length_map, List.length_range]
      rw [rem_rem, show k + i = i - (L - k) + L by omega, rem_cyc h]
theorem dgl_inj {b n x y L : Nat} (hb : 2 ≤ b) (h : IsPer b n L) (hx : x < n) (hy : y < n) (e : dgl b n x L = dgl b n y L) : x = y := by
  have hn : 1 ≤ n := by omega
  have hd : ∀ i, i < L → rem b n x i * b / n = rem b n y i * b / n := fun i hi => by
    have h1 : (dgl b n x L)[i]'(by rw [dgl_len]; exact hi) = (dgl b n y L)[i]'(by rw [dgl_len]; exact hi) := by simp only [e]
    simp only [dgl, List.getElem_map, List.getElem_range] at h1
    exact h1
  have st : ∀ z i, rem b n z i * b = n * (rem b n z i * b / n) + rem b n z (i + 1) := fun z i => by
    rw [← rem_succ]
    exact (Nat.div_add_mod _ _).symm
  -- the difference grows by the base at each step
  have key : ∀ i, i ≤ L → (rem b n x i : Int) - rem b n y i = ((x : Int) - y) * (b : Int) ^ i := by
    intro i
    induction i with
    | zero =>
      intro _
      rw [rem_zero hx, rem_zero hy]
      simp
    | succ i ih =>
      intro hi
      have h1 := ih (by omega)
      have h2 := st x i
      have h3 := st y i
      rw [hd i (by omega)] at h2
      generalize rem b n y i * b / n = q at h2 h3
      have h4 : (rem b n x i : Int) * b = n * q + rem b n x (i + 1) := by exact_mod_cast h2
      have h5 : (rem b n y i : Int) * b = n * q + rem b n y (i + 1) := by exact_mod_cast h3
      rw [Int.pow_succ, ← Int.mul_assoc, ← h1, Int.sub_mul]
      omega
  have k := key L (Nat.le_refl _)
  rw [rem_per h hx, rem_per h hy] at k
  have hL := h.1
  have hp : (2 : Int) ≤ (b : Int) ^ L := by
    have : 2 ≤ b ^ L := Nat.le_trans hb (Nat.le_self_pow (by omega) b)
    exact_mod_cast this
  have : ((x : Int) - y) * ((b : Int) ^ L - 1) = 0 := by
    rw [Int.mul_sub, Int.mul_one]
    omega
  rcases Int.mul_eq_zero.mp this with z | z <;> omega
/-- among the first ones each comes once -/
theorem rem_once {b n x L i j : Nat} (g : Nat.gcd b n = 1) (gx : Nat.gcd x n = 1) (h : IsPer b n L) (hi : i < L) (hj : j < L) (e : rem b n x i = rem b n x j) : i = j := by
  have key : ∀ {i j : Nat}, i < j → j < L → rem b n x i = rem b n x j → False := fun {i j} hij hj e => by
    have e1 : b ^ i % n = b ^ j % n := mod_cancel gx e
    have e2 : b ^ (j - i) % n = 1 % n := by
      refine mod_cancel (cop_pow g i) ?_
      rw [← Nat.pow_add, show i + (j - i) = j by omega, Nat.mul_one]
      exact e1.symm
    exact h.2.2 (j - i) (by omega) (by omega) e2
  rcases Nat.lt_trichotomy i j with z | z | z
  · exact (key z hj e).elim
  · exact z
  · exact (key z hi e.symm).elim
/-- the first place from which y comes; the period where there is none -/
def topI (b n x y L : Nat) : Nat := ((List.range L).find? fun i => decide (rem b n x i = y)).getD L
theorem topI_hit {b n x y L i : Nat} (hi : i < L) (e : rem b n x i = y) (no : ∀ j, j < i → rem b n x j ≠ y) : topI b n x y L = i := by
  unfold topI
  have : (List.range L).find? (fun i => decide (rem b n x i = y)) = some i := by
    rw [List.find?_range_eq_some]
    refine ⟨decide_eq_true e, List.mem_range.mpr hi, fun j hj => ?_⟩
    simp only [Bool.not_eq_true', decide_eq_false_iff_not]
    exact no j hj
  rw [this]
  rfl
theorem topI_miss {b n x y L : Nat} (no : ∀ j, j < L → rem b n x j ≠ y) : topI b n x y L = L := by
  unfold topI
  have : (List.range L).find? (fun i => decide (rem b n x i = y)) = none := by
    rw [List.find?_eq_none]
    intro i hi
    rw [decide_eq_true_eq]
    exact no i (List.mem_range.mp hi)
  rw [this]
  rfl
theorem topI_cases (b n x y L : Nat) : (topI b n x y L < L ∧ rem b n x (topI b n x y L) = y ∧ ∀ j, j < topI b n x y L → rem b n x j ≠ y) ∨ (topI b n x y L = L ∧ ∀ j, j < L → rem b n x j ≠ y) := by
  by_cases h : ∃ i, i < L ∧ rem b n x i = y
  · obtain ⟨i, hi, e⟩ := h
    obtain ⟨m, hm, pm, q⟩ := least (fun i => rem b n x i = y) i e
    have e1 := topI_hit (L := L) (show m < L by omega) pm (fun j hj z => q j hj z)
    rw [e1]
    exact .inl ⟨by omega, pm, fun j hj z => q j hj z⟩
  · have no : ∀ j, j < L → rem b n x j ≠ y := fun j hj z => h ⟨j, hj, z⟩
    exact .inr ⟨topI_miss no, no⟩
end Wn
/-! values of digits and of their rotations; multipliers -/
namespace Wn
open PySem PySem.Spec PyProof.Rows L2
theorem wrt_from (b : Nat) : ∀ (ds : List Nat) (f : Nat), ds.foldl (fun f d => f * b + d) f = f * b ^ ds.length + wrt b ds
  | [], f => by simp [wrt]
  | d :: r, f => by
    have h1 := wrt_from b r (f * b + d)
    have h2 := wrt_from b r (0 * b + d)
    unfold wrt at h1 h2 ⊢
    simp only [List.foldl_cons, List.length_cons]
    rw [h1, h2, Nat.pow_succ, Nat.add_mul, Nat.zero_mul, Nat.zero_add, Nat.mul_assoc, Nat.mul_comm b]
    omega
theorem wrt_cons (b x : Nat) (r : List Nat) : wrt b (x :: r) = x * b ^ r.length + wrt b r := by
  have := wrt_from b r (0 * b + x)
  rw [Nat.zero_mul, Nat.zero_add] at this
  rw [← this]
  simp [wrt]
theorem wrt_append (b : Nat) (xs ys : List Nat) : wrt b (xs ++ ys) = wrt b xs * b ^ ys.length + wrt b ys := by
  rw [← wrt_from b ys (wrt b xs)]
  simp [wrt, List.foldl_append]
theorem wrt_lt {b : Nat} : ∀ {ds : List Nat}, (∀ d ∈ ds, d < b) → wrt b ds < b ^ ds.length
  | [], _ => by simp [wrt]
  | x :: r, h => by
    have ih := wrt_lt (ds := r) fun d hd => h d (List.mem_cons_of_mem _ hd)
    have hx := h x List.mem_cons_self
    rw [wrt_cons, List.length_cons, Nat.pow_succ, Nat.mul_comm (b ^ r.length)]
    have : (x + 1) * b ^ r.length ≤ b * b ^ r.length := Nat.mul_le_mul_right _ hx
    rw [Nat.succ_mul] at this
    omega
theorem rot_at {ds : List Nat} {i : Nat} (h : i < ds.length) : rotL ds i = ds[i] :: (ds.drop (i + 1) ++ ds.take i) := by
  unfold rotL
  rw [List.drop_eq_getElem_cons h]
  rfl
theorem wrt_rot {b : Nat} {ds : List Nat} {i : Nat} (h : i < ds.length) (hb : 1 ≤ b) : ((wrt b (rotL ds i) : Nat) : Int) * (b : Int) - ((ds[i] : Nat) : Int) * (((b ^ ds.length : Nat) : Int) - 1) = ((wrt b (rotL ds (i + 1)) : Nat) : Int) := by
  have e : rotL ds (i + 1) = (ds.drop (i + 1) ++ ds.take i) ++ [ds[i]] := by
    rw [← rotL_succ h, rot_at h]
    rfl
  have hl : (ds.drop (i + 1) ++ ds.take i).length + 1 = ds.length := by
    rw [List.length_append, List.length_drop, List.length_take]
    omega
  rw [rot_at h, e, wrt_cons, wrt_snoc, ← hl]
  generalize ds.drop (i + 1) ++ ds.take i = r
  generalize wrt b r = w
  generalize ds[i] = x
  rw [Nat.pow_succ]
  generalize b ^ r.length = p
  push_cast
  rw [Int.add_mul, Int.mul_sub, Int.mul_one, Int.mul_assoc (x : Int) (p : Int) (b : Int)]
  omega
/-- k times their value is that of a rotation -/
def IsMul (b : Nat) (ds : List Nat) (k : Nat) : Prop := ∃ j, j < ds.length ∧ wrt b (rotL ds j) = k * wrt b ds
/-- those met among the first i rotations -/
def mulL (b : Nat) (ds : List Nat) (i : Nat) : List Nat := ((List.range i).filter fun j => decide (wrt b (rotL ds j) % wrt b ds = 0)).map fun j => wrt b (rotL ds j) / wrt b ds
theorem mulL_succ (b : Nat) (ds : List Nat) (i : Nat) : mulL b ds (i + 1) = mulL b ds i ++ (if wrt b (rotL ds i) % wrt b ds = 0 then [wrt b (rotL ds i) / wrt b ds] else []) := by
  unfold mulL
  rw [List.range_succ, List.filter_append, List.map_append]
  congr 1
  by_cases h : wrt b (rotL ds i) % wrt b ds = 0
  · rw [if_pos h, List.filter_cons_of_pos (by simpa using h)]
    rfl
  · rw [if_neg h, List.filter_cons_of_neg (by simpa using h)]
    rfl
theorem mulL_len (b : Nat) (ds : List Nat) (i : Nat) : (mulL b ds i).length ≤ i := by
  unfold mulL
  rw [List.length_map]
  exact Nat.le_trans (List.length_filter_le _ _) (by simp)
theorem mem_mulL {b : Nat} {ds : List Nat} {k i : Nat} (hv : 1 ≤ wrt b ds) : k ∈ mulL b ds i ↔ ∃ j, j < i ∧ wrt b (rotL ds j) = k * wrt b ds := by
  unfold mulL
  rw [List.mem_map]
  constructor
  · rintro ⟨j, hj, rfl⟩
    rw [List.mem_filter, List.mem_range, decide_eq_true_eq] at hj
    exact ⟨j, hj.1, (Nat.div_mul_cancel (Nat.dvd_of_mod_eq_zero hj.2)).symm⟩
  · rintro ⟨j, hj, e⟩
    refine ⟨j, ?_, ?_⟩
    · rw [List.mem_filter, List.mem_range, decide_eq_true_eq, e]
      exact ⟨hj, Nat.mul_mod_left _ _⟩
    · rw [e, Nat.mul_div_cancel _ hv]
/-- there are few of them -/
def Few (b : Nat) (ds : List Nat) : Prop := ∀ ks : List Nat, ks.Nodup → (∀ k ∈ ks, IsMul b ds k) → ks.length < 64
theorem nodup_sub {xs : List Nat} : ∀ {ys : List Nat}, xs.Nodup → (∀ x ∈ xs, x ∈ ys) → xs.length ≤ ys.length := by
  intro ys
  induction ys generalizing xs with
  | nil =>
    intro _ h
    cases xs with
    | nil => exact Nat.le_refl _
    | cons x r => exact absurd (h x List.mem_cons_self) (by simp)
  | cons y ys ih =>
    intro nd h
    have h1 := ih (nd.erase y) fun x hx => by
      have hm := List.mem_of_mem_erase hx
      rcases List.mem_cons.mp (h x hm) with e | e
      · subst e
        exact absurd hx (List.Nodup.not_mem_erase nd)
      · exact e
    rw [List.length_cons]
    by_cases hy : y ∈ xs
    · rw [List.length_erase_of_mem hy] at h1
      omega
    · rw [List.erase_of_not_mem hy] at h1
      omega
theorem few_of {b p : Nat} {ds : List Nat} (hv : 1 ≤ wrt b ds) (hp : p < 64) (h : ∀ j, j < ds.length → ∃ i, i < p ∧ rotL ds j = rotL ds i) : Few b ds := fun ks nd hk => by
  have := nodup_sub (ys := (List.range p).map fun i => wrt b (rotL ds i) / wrt b ds) nd fun k hm => by
    obtain ⟨j, hj, e⟩ := hk k hm
    obtain ⟨i, hi, e2⟩ := h j hj
    exact List.mem_map.mpr ⟨i, List.mem_range.mpr hi, by rw [← e2, e, Nat.mul_div_cancel _ hv]⟩
  rw [List.length_map, List.length_range] at this
  omega
theorem few_len {b : Nat} {ds : List Nat} (hv : 1 ≤ wrt b ds) (h : ds.length < 64) : Few b ds := few_of hv h fun j hj => ⟨j, hj, rfl⟩
/-- digits twice over -/
theorem rot_twice {ds : List Nat} {j : Nat} (h1 : ds.length ≤ j) (h2 : j < (ds ++ ds).length) : rotL (ds ++ ds) j = rotL (ds ++ ds) (j - ds.length) := by
  unfold rotL
  rw [List.length_append] at h2
  rw [List.drop_append, List.take_append, List.drop_append, List.take_append, List.drop_eq_nil_of_le h1, List.take_of_length_le h1, show j - ds.length - ds.length = 0 by omega]
  simp only [List.nil_append, List.drop_zero, List.take_zero, List.append_nil, List.append_assoc]
theorem few_twice {b : Nat} {ds : List Nat} (hv : 1 ≤ wrt b (ds ++ ds)) (h : ds.length < 64) : Few b (ds ++ ds) := few_of hv h fun j hj => by
  rcases Nat.lt_or_ge j ds.length with z | z
  · exact ⟨j, z, rfl⟩
  · refine ⟨j - ds.length, ?_, rot_twice z hj⟩
    rw [List.length_append] at hj
    omega
/-- a number up to 1000 has no common divisor with one of two primes -/
theorem gcd_prime {b p : Nat} (hp : ∀ g, g ≤ p → g ∣ p → g = 1 ∨ g = p) (h0 : 1 ≤ p) (h : Nat.gcd b p ≠ 1) : p ∣ b := by
  rcases hp _ (Nat.le_of_dvd h0 (Nat.gcd_dvd_right b p)) (Nat.gcd_dvd_right b p) with e | e
  · exact absurd e h
  · rw [← e]
    exact Nat.gcd_dvd_left b p
theorem cop_two {b p q : Nat} (hb : 1 ≤ b) (hp : ∀ g, g ≤ p → g ∣ p → g = 1 ∨ g = p) (hq : ∀ g, g ≤ q → g ∣ q → g = 1 ∨ g = q) (p0 : 1 ≤ p) (q0 : 1 ≤ q) (c : Nat.gcd p q = 1) (hl : b < p * q) : Nat.gcd b p = 1 ∨ Nat.gcd b q = 1 := by
  by_cases h1 : Nat.gcd b p = 1
  · exact .inl h1
  · by_cases h2 : Nat.gcd b q = 1
    · exact .inr h2
    · have := Nat.le_of_dvd hb (Nat.Coprime.mul_dvd_of_dvd_of_dvd c (gcd_prime hp p0 h1) (gcd_prime hq q0 h2))
      omega
theorem cop_43_47 {b : Nat} (h1 : 1 ≤ b) (h2 : b ≤ 1000) : Nat.gcd b 43 = 1 ∨ Nat.gcd b 47 = 1 := cop_two h1 (by decide) (by decide) (by decide) (by decide) (by decide) (by omega)
/-- two ascending rows of numbers with the same members -/
theorem ascN_eq {xs ys : List Nat} (hx : xs.Pairwise (· < ·)) (hy : ys.Pairwise (· < ·)) (h : ∀ k, k ∈ xs ↔ k ∈ ys) : xs = ys := by
  have key : ∀ {zs : List Nat}, zs.Pairwise (· < ·) → (ni zs).Pairwise (· < ·) := fun hz => List.Pairwise.map _ (fun a b h => by omega) hz
  have := asc_eq (key hx) (key hy) fun k => by
    unfold ni
    rw [List.mem_map, List.mem_map]
    exact ⟨fun ⟨a, ha, e⟩ => ⟨a, (h a).mp ha, e⟩, fun ⟨a, ha, e⟩ => ⟨a, (h a).mpr ha, e⟩⟩
  unfold ni at this
  exact (List.map_inj_right (fun a b e => by omega)).mp this
/-- rows of whole numbers whose members are natural ones -/
theorem ni_of : ∀ {zs : List Int}, (∀ k ∈ zs, 0 ≤ k) → ∃ xs : List Nat, zs = ni xs
  | [], _ => ⟨[], rfl⟩
  | z :: zs, h => by
    obtain ⟨xs, e⟩ := ni_of (zs := zs) fun k hk => h k (List.mem_cons_of_mem _ hk)
    have := h z List.mem_cons_self
    exact ⟨z.toNat :: xs, by rw [e]; show z :: ni xs = ((z.toNat : Nat) : Int) :: ni xs; rw [Int.toNat_of_nonneg this]⟩
theorem mem_ni {xs : List Nat} {k : Nat} : ((k : Nat) : Int) ∈ ni xs ↔ k ∈ xs := by
  unfold ni
  rw [List.mem_map]
  constructor
  · rintro ⟨a, ha, e⟩
    rw [show k = a by omega]
    exact ha
  · exact fun h => ⟨k, h, rfl⟩
end Wn
open PySem PySem.W PySem.Calls PyProof.Rows Builtin
open L2
namespace Wn
/-! counts by keys -/
def kvP (ps : List (Nat × Nat)) : List (Key × V) := ps.map fun p => ((Sum.inl ((p.1 : Nat) : Int) : Key), V.int (p.2 : Nat))
structure Cnt (g : Nat → Nat) (ps : List (Nat × Nat)) : Prop where
  nd : (ps.map Prod.fst).Nodup
  mem : ∀ q c, (q, c) ∈ ps ↔ g q = c ∧ 1 ≤ c
theorem Cnt.nil : Cnt (fun _ => 0) [] := ⟨List.nodup_nil, fun q c => ⟨fun h => (by cases h), fun ⟨h1, h2⟩ => by omega⟩⟩
theorem Cnt.congr {g g' : Nat → Nat} {ps : List (Nat × Nat)} (h : Cnt g ps) (e : ∀ q, g q = g' q) : Cnt g' ps := ⟨h.nd, fun q c => by rw [h.mem, e]⟩
theorem kvP_key {ps : List (Nat × Nat)} {q : Nat} {kv : Key × V} (h : kv ∈ kvP ps) (e : kv.1 = (Sum.inl ((q : Nat) : Int) : Key)) : ∃ c, (q, c) ∈ ps ∧ kv.2 = .int (c : Nat) := by
  obtain ⟨⟨q', c⟩, hp, rfl⟩ := List.mem_map.mp h
  have e2 : ((q' : Nat) : Int) = (q : Int) := Sum.inl.inj e
  have : q' = q := by omega
  subst this
  exact ⟨c, hp, rfl⟩
theorem Cnt.get {g : Nat → Nat} {ps : List (Nat × Nat)} (h : Cnt g ps) (q : Nat) : valV (kvP ps) (Sum.inl ((q : Nat) : Int) : Key) = if g q = 0 then none else some (.int (g q : Nat)) := by
  unfold valV
  cases e : (kvP ps).find? fun kv => decide (kv.1 = (Sum.inl ((q : Nat) : Int) : Key)) with
  | none =>
    by_cases g0 : g q = 0
    · rw [if_pos g0]
      rfl
    · exfalso
      have hm := (h.mem q (g q)).mpr ⟨rfl, by omega⟩
      have := List.find?_eq_none.mp e _ (List.mem_map.mpr ⟨_, hm, rfl⟩)
      simp at this
  | some kv =>
    have h1 := List.mem_of_find?_eq_some e
    have h2 := List.find?_some e
    obtain ⟨c, hc, hv⟩ := kvP_key h1 (of_decide_eq_true h2)
    obtain ⟨h3, h4⟩ := (h.mem q c).mp hc
    rw [if_neg (by omega), h3]
    exact congrArg some hv
theorem Cnt.put {g : Nat → Nat} {ps : List (Nat × Nat)} (h : Cnt g ps) (q d : Nat) (hd : 1 ≤ d) :
    ∃ ps', putK (kvP ps) (Sum.inl ((q : Nat) : Int) : Key) (.int ((g q + d : Nat) : Int)) = kvP ps' ∧ Cnt (fun z => g z + if z = q then d else 0) ps' := by
  by_cases g0 : g q = 0
  · refine ⟨ps ++ [(q, g q + d)], ?_, ?_, fun q' c => ?_⟩
    · rw [putK_new _ (by rw [h.get, if_pos g0])]
      unfold kvP
      rw [List.map_append]
      rfl
    · rw [List.map_append, List.nodup_append]
      refine ⟨h.nd, by simp, ?_⟩
      intro x hx y hy e
      rw [List.map_cons, List.map_nil, List.mem_singleton] at hy
      obtain ⟨⟨q', c⟩, hp, e3⟩ := List.mem_map.mp hx
      obtain ⟨h3, h4⟩ := (h.mem q' c).mp hp
      have e4 : q' = q := (show q' = x from e3).trans (e.trans hy)
      rw [e4] at h3
      omega
    · rw [List.mem_append, List.mem_singleton, h.mem]
      by_cases e : q' = q
      · subst e
        rw [if_pos rfl]
        constructor
        · rintro (⟨h1, h2⟩ | h1)
          · omega
          · have := (Prod.mk.inj h1).2
            omega
        · rintro ⟨h1, h2⟩
          exact .inr (by rw [h1])
      · rw [if_neg e, Nat.add_zero]
        constructor
        · rintro (h1 | h1)
          · exact h1
          · exact absurd (Prod.mk.inj h1).1 e
        · exact fun h1 => .inl h1
  · have hm := (h.mem q (g q)).mpr ⟨rfl, by omega⟩
    refine ⟨ps.map fun p => if p.1 = q then (p.1, g q + d) else p, ?_, ?_, fun q' c => ?_⟩
    · unfold putK
      rw [if_pos]
      · unfold kvP
        rw [List.map_map, List.map_map]
        refine List.map_congr_left fun p _ => ?_
        show (if (Sum.inl ((p.1 : Nat) : Int) : Key) = Sum.inl ((q : Nat) : Int) then _ else _) = _
        by_cases e : p.1 = q
        · rw [if_pos (by rw [e])]
          show _ = (fun p : Nat × Nat => ((Sum.inl ((p.1 : Nat) : Int) : Key), V.int (p.2 : Nat))) (if p.1 = q then (p.1, g q + d) else p)
          rw [if_pos e]
        · rw [if_neg (fun z => e (by have := Sum.inl.inj z; omega))]
          show _ = (fun p : Nat × Nat => ((Sum.inl ((p.1 : Nat) : Int) : Key), V.int (p.2 : Nat))) (if p.1 = q then (p.1, g q + d) else p)
          rw [if_neg e]
      · rw [List.any_eq_true]
        exact ⟨_, List.mem_map.mpr ⟨_, hm, rfl⟩, decide_eq_true rfl⟩
    · rw [List.map_map, show ps.map (Prod.fst ∘ fun p => if p.1 = q then (p.1, g q + d) else p) = ps.map Prod.fst from List.map_congr_left fun p _ => by
        show (if p.1 = q then (p.1, g q + d) else p).1 = p.1
        split <;> rfl]
      exact h.nd
    · rw [List.mem_map]
      by_cases e : q' = q
      · subst e
        rw [if_pos rfl]
        constructor
        · rintro ⟨⟨q2, c2⟩, hp, e2⟩
          by_cases e3 : q2 = q'
          · rw [if_pos e3] at e2
            have := (Prod.mk.inj e2).2
            omega
          · rw [if_neg e3] at e2
            exact absurd (Prod.mk.inj e2).1 e3
        · rintro ⟨h1, h2⟩
          refine ⟨_, hm, ?_⟩
          rw [if_pos rfl, h1]
      · rw [if_neg e, Nat.add_zero, ← h.mem]
        constructor
        · rintro ⟨⟨q2, c2⟩, hp, e2⟩
          by_cases e3 : q2 = q
          · rw [if_pos e3] at e2
            exact absurd ((Prod.mk.inj e2).1.symm.trans e3) e
          · rw [if_neg e3] at e2
            rw [← e2]
            exact hp
        · intro hp
          exact ⟨_, hp, if_neg e⟩
/-- all keys are values of a list -/
theorem Cnt.len {g : Nat → Nat} {ps : List (Nat × Nat)} {ks : List Nat} (h : Cnt g ps) (hk : ∀ q, 1 ≤ g q → q ∈ ks) : ps.length ≤ ks.length := by
  have := nodup_sub (ys := ks) h.nd fun x hx => by
    obtain ⟨⟨q, c⟩, hp, rfl⟩ := List.mem_map.mp hx
    obtain ⟨h1, h2⟩ := (h.mem q c).mp hp
    exact hk q (by omega)
  rwa [List.length_map] at this
/-- the keys in their order -/
def IsKeys (g : Nat → Nat) (ks : List Nat) : Prop := ks.Pairwise (· < ·) ∧ ∀ q, q ∈ ks ↔ 1 ≤ g q
theorem IsKeys.uniq {g : Nat → Nat} {ks ks' : List Nat} (h : IsKeys g ks) (h' : IsKeys g ks') : ks = ks' := ascN_eq h.1 h'.1 fun k => (h.2 k).trans (h'.2 k).symm
def prs (g : Nat → Nat) (ks : List Nat) : List (Nat × Nat) := ks.map fun q => (q, g q)
/-- a list of the pairs, ascending -/
theorem Cnt.sorted {g : Nat → Nat} {ps ys : List (Nat × Nat)} (h : Cnt g ps) (hp : ys.Perm ps) (hs : ys.Pairwise fun x y => ¬ (y.1 < x.1)) : IsKeys g (ys.map Prod.fst) ∧ ys = prs g (ys.map Prod.fst) := by
  have nd : (ys.map Prod.fst).Nodup := (hp.map Prod.fst).nodup_iff.mpr h.nd
  refine ⟨⟨?_, fun q => ?_⟩, ?_⟩
  · rw [List.pairwise_map]
    rw [List.nodup_iff_pairwise_ne, List.pairwise_map] at nd
    exact (hs.and nd).imp fun ⟨h1, h2⟩ => by omega
  · rw [List.mem_map]
    constructor
    · rintro ⟨⟨q', c⟩, hm, rfl⟩
      obtain ⟨h1, h2⟩ := (h.mem q' c).mp (hp.mem_iff.mp hm)
      show 1 ≤ g q'
      omega
    · intro hq
      exact ⟨(q, g q), hp.mem_iff.mpr ((h.mem q (g q)).mpr ⟨rfl, hq⟩), rfl⟩
  · unfold prs
    rw [List.map_map]
    conv => lhs; rw [← List.map_id ys]
    refine List.map_congr_left fun p hm => ?_
    obtain ⟨q, c⟩ := p
    obtain ⟨h1, h2⟩ := (h.mem q c).mp (hp.mem_iff.mp hm)
    show (q, c) = (q, g q)
    rw [h1]
def cntQ (f : Nat → Nat) (ms : List Nat) (q : Nat) : Nat := (ms.filter fun x => decide (f x = q)).length
theorem cntQ_perm {f : Nat → Nat} {ms ms' : List Nat} (h : ms.Perm ms') (q : Nat) : cntQ f ms q = cntQ f ms' q := (h.filter _).length_eq
theorem cntQ_app (f : Nat → Nat) (ms ms' : List Nat) (q : Nat) : cntQ f (ms ++ ms') q = cntQ f ms q + cntQ f ms' q := by
  unfold cntQ
  rw [List.filter_append, List.length_append]
theorem cntQ_const {f : Nat → Nat} {ms : List Nat} {q0 : Nat} (h : ∀ x ∈ ms, f x = q0) (q : Nat) : cntQ f ms q = if q = q0 then ms.length else 0 := by
  unfold cntQ
  by_cases e : q = q0
  · rw [if_pos e, List.filter_eq_self.mpr fun x hx => decide_eq_true (by rw [h x hx, e])]
  · rw [if_neg e, List.filter_eq_nil_iff.mpr fun x hx => by
      rw [decide_eq_true_eq, h x hx]
      exact fun z => e z.symm]
    rfl
theorem cntQ_pos {f : Nat → Nat} {ms : List Nat} {q : Nat} (h : 1 ≤ cntQ f ms q) : q ∈ ms.map f := by
  unfold cntQ at h
  obtain ⟨x, hx⟩ := List.exists_mem_of_length_pos h
  obtain ⟨h1, h2⟩ := List.mem_filter.mp hx
  rw [decide_eq_true_eq] at h2
  exact List.mem_map.mpr ⟨x, h1, h2⟩
end Wn
namespace Wn
open PySem PySem.Spec PyProof.Rows L2
theorem rem_pow (b n x k j : Nat) : rem (b ^ k) n x j = rem b n x (k * j) := by
  unfold rem
  rw [Nat.pow_mul]
theorem IsPer.pow {b n k c : Nat} (h : IsPer b n (k * c)) (hk : 1 ≤ k) (hc : 1 ≤ c) : IsPer (b ^ k) n c := by
  obtain ⟨h1, h2, h3⟩ := h
  refine ⟨hc, by rw [← Nat.pow_mul]; exact h2, fun j hj1 hj2 => ?_⟩
  rw [← Nat.pow_mul]
  exact h3 (k * j) (Nat.mul_pos hk hj1) ((Nat.mul_lt_mul_left hk).mpr hj2)
theorem restSum_rl (b n x k c : Nat) : restSum b n x k c = (rl (b ^ k) n x c).sum := by
  unfold restSum rl
  refine congrArg List.sum (List.map_congr_left fun i _ => ?_)
  rw [rem_pow]
theorem rest_shift (b n x k : Nat) : ∀ m, restSum b n (rem b n x k) k m + rem b n x 0 = restSum b n x k (m + 1)
  | 0 => by
    rw [restSum_succ]
    simp [restSum]
  | m + 1 => by
    rw [restSum_succ, restSum_succ b n x k (m + 1), ← rest_shift b n x k m, rem_rem, show k + k * m = k * (m + 1) by rw [Nat.mul_succ, Nat.add_comm]]
    omega
theorem rest_next {b n x k c : Nat} (h : IsPer b n (k * c)) : restSum b n (rem b n x k) k c = restSum b n x k c := by
  have h1 := rest_shift b n x k c
  rw [restSum_succ, show rem b n x (k * c) = rem b n x 0 from by have := rem_cyc (x := x) h 0; rwa [Nat.zero_add] at this] at h1
  omega
theorem rest_orb {b n x k c : Nat} (h : IsPer b n (k * c)) (hx : x < n) : ∀ i, restSum b n (rem b n x (k * i)) k c = restSum b n x k c
  | 0 => by rw [Nat.mul_zero, rem_zero hx]
  | i + 1 => by
    rw [Nat.mul_succ, ← rem_rem, rest_next h]
    exact rest_orb h hx i
theorem rest_mem {b n x k c r : Nat} (h : IsPer b n (k * c)) (hx : x < n) (hr : r ∈ rl (b ^ k) n x c) : restSum b n r k c = restSum b n x k c := by
  obtain ⟨i, _, e⟩ := mem_rl.mp hr
  rw [← e, rem_pow]
  exact rest_orb h hx i
theorem rest_bal {b n k c x : Nat} (h : bal b n k c = true) : restSum b n x k c % n = 0 := by
  unfold bal at h
  rw [decide_eq_true_eq, restSum_mod, Nat.one_mul] at h
  rw [restSum_mod, Nat.mul_mod, h, Nat.mul_zero, Nat.zero_mod]
/-- the sum of the pieces is nines times the sum of the remainders over n -/
theorem pcs_div {b n x k c : Nat} (hb : 2 ≤ b) (hk : 1 ≤ k) (hn : 1 ≤ n) (h : IsPer b n (k * c)) : ((pcs b n x k c).sum % (b ^ k - 1) = 0 ↔ restSum b n x k c % n = 0) ∧ (restSum b n x k c % n = 0 → (pcs b n x k c).sum / (b ^ k - 1) = restSum b n x k c / n) := by
  have e := pcs_all (b := b) (n := n) (x := x) (k := k) (c := c) (by omega) (by have := rem_cyc (x := x) h 0; rwa [Nat.zero_add] at this)
  have b2 : 2 ≤ b ^ k := Nat.le_trans (by simpa using hb) (Nat.pow_le_pow_right (by omega) hk)
  have b1 : 1 ≤ b ^ k - 1 := by omega
  generalize b ^ k - 1 = m at e b1
  generalize (pcs b n x k c).sum = S at e
  generalize restSum b n x k c = R at e
  have h1 : ∀ t, R = n * t → S = m * t := fun t z => by
    rw [z] at e
    have : n * S = n * (m * t) := by
      rw [e]
      exact Nat.mul_left_comm m n t
    exact Nat.eq_of_mul_eq_mul_left hn this
  have h2 : ∀ t, S = m * t → R = n * t := fun t z => by
    rw [z] at e
    have : m * R = m * (n * t) := by
      rw [← e]
      exact Nat.mul_left_comm n m t
    exact Nat.eq_of_mul_eq_mul_left b1 this
  refine ⟨⟨fun z => ?_, fun z => ?_⟩, fun z => ?_⟩
  · obtain ⟨t, ht⟩ := Nat.dvd_of_mod_eq_zero z
    rw [h2 t ht, Nat.mul_mod_right]
  · obtain ⟨t, ht⟩ := Nat.dvd_of_mod_eq_zero z
    rw [h1 t ht, Nat.mul_mod_right]
  · obtain ⟨t, ht⟩ := Nat.dvd_of_mod_eq_zero z
    rw [h1 t ht, ht, Nat.mul_div_cancel_left _ b1, Nat.mul_div_cancel_left _ hn]
/-! the members of the orbits of the least ones -/
def msQ (B n c i : Nat) : List Nat := ((List.range i).filter (topB B n c)).flatMap fun y => rl B n y c
theorem msQ_succ (B n c i : Nat) : msQ B n c (i + 1) = msQ B n c i ++ (if topB B n c i = true then rl B n i c else []) := by
  unfold msQ
  rw [List.range_succ, List.filter_append, List.flatMap_append]
  by_cases h : topB B n c i = true
  · rw [if_pos h, List.filter_cons, if_pos h]
    simp
  · rw [if_neg h, List.filter_cons, if_neg h]
    simp
theorem mem_msQ {B n c i r : Nat} (g : Nat.gcd B n = 1) (h : IsPer B n c) (hi : i ≤ n) : r ∈ msQ B n c i ↔ Met B n c i r := by
  rw [met_top g h hi]
  unfold msQ
  rw [List.mem_flatMap]
  constructor
  · rintro ⟨y, hy, hr⟩
    obtain ⟨h1, h2⟩ := List.mem_filter.mp hy
    exact ⟨y, List.mem_range.mp h1, h2, mem_rl.mp hr⟩
  · rintro ⟨y, h1, h2, h3⟩
    exact ⟨y, List.mem_filter.mpr ⟨List.mem_range.mpr h1, h2⟩, mem_rl.mpr h3⟩
theorem rl_nodup {B n c x : Nat} (g : Nat.gcd B n = 1) (h : IsPer B n c) (gx : Nat.gcd x n = 1) : (rl B n x c).Nodup := by
  unfold rl
  rw [List.nodup_iff_pairwise_ne, List.pairwise_map, List.pairwise_iff_getElem]
  intro u v hu hv huv e
  rw [List.getElem_range, List.getElem_range] at e
  rw [List.length_range] at hu hv
  have := rem_once g gx h hu hv e
  omega
theorem msQ_nodup {B n c : Nat} (g : Nat.gcd B n = 1) (h : IsPer B n c) : ∀ i, i ≤ n → (msQ B n c i).Nodup
  | 0, _ => by simp [msQ]
  | i + 1, hi => by
    rw [msQ_succ]
    by_cases ht : topB B n c i = true
    · rw [if_pos ht]
      have gi := (top_iff.mp ht).1
      refine List.nodup_append.mpr ⟨msQ_nodup g h i (by omega), rl_nodup g h gi, fun x hx y hy e => ?_⟩
      subst e
      obtain ⟨y, h1, h2, h3⟩ := (mem_msQ g h (by omega)).mp hx
      have back := orb_symm h (by omega) (mem_rl.mp hy)
      have := orb_trans h (by omega) h3 back
      have nt := (not_top g h (by omega) gi).mpr ⟨y, h1, h2, this⟩
      rw [nt] at ht
      cases ht
    · rw [if_neg ht, List.append_nil]
      exact msQ_nodup g h i (by omega)
theorem filt_len {xs ys : List Nat} {p : Nat → Bool} (hx : xs.Nodup) (hy : ys.Nodup) (h : ∀ r, r ∈ xs ↔ r ∈ ys) : (xs.filter p).length = (ys.filter p).length := by
  refine Nat.le_antisymm (nodup_sub (hx.filter _) fun r hr => ?_) (nodup_sub (hy.filter _) fun r hr => ?_)
  · obtain ⟨h1, h2⟩ := List.mem_filter.mp hr
    exact List.mem_filter.mpr ⟨(h r).mp h1, h2⟩
  · obtain ⟨h1, h2⟩ := List.mem_filter.mp hr
    exact List.mem_filter.mpr ⟨(h r).mpr h1, h2⟩
/-- in the end all that have no common divisor with n -/
theorem met_all {B n c r : Nat} (hn : 1 ≤ n) (g : Nat.gcd B n = 1) (h : IsPer B n c) : Met B n c n r ↔ r < n ∧ Nat.gcd r n = 1 := by
  constructor
  · rintro ⟨y, h1, h2, i, h3, rfl⟩
    exact ⟨rem_lt hn, rem_cop g h2 i⟩
  · rintro ⟨h1, h2⟩
    exact ⟨r, h1, h2, 0, h.1, rem_zero h1⟩
theorem cnt_all {B n c : Nat} {f : Nat → Nat} {ts : List Nat} (hn : 1 ≤ n) (g : Nat.gcd B n = 1) (h : IsPer B n c) (ht : ts.Nodup) (hm : ∀ r, r ∈ ts ↔ r < n ∧ Nat.gcd r n = 1) (q : Nat) : cntQ f (msQ B n c n) q = cntQ f ts q :=
  filt_len (msQ_nodup g h n (Nat.le_refl _)) ht fun r => ((mem_msQ g h (Nat.le_refl _)).trans (met_all hn g h)).trans (hm r).symm
end Wn
/-! counts from both ends; how many there are -/
namespace Wn
open PySem PySem.Spec PyProof.Rows L2
theorem cnt_sum {f : Nat → Nat} {ks : List Nat} (nd : ks.Nodup) : ∀ ms : List Nat, (∀ x ∈ ms, f x ∈ ks) → (ks.map fun q => cntQ f ms q).sum = ms.length
  | [], hh => by
    clear hh
    induction ks with
    | nil => rfl
    | cons k r ih =>
      rw [List.map_cons, List.sum_cons, ih (List.nodup_cons.mp nd).2]
      rfl
  | x :: ms, h => by
    have ih := cnt_sum nd ms fun y hy => h y (List.mem_cons_of_mem _ hy)
    have one : ∀ q, cntQ f (x :: ms) q = (if f x = q then 1 else 0) + cntQ f ms q := fun q => by
      unfold cntQ
      rw [List.filter_cons]
      by_cases e : f x = q
      · rw [if_pos (decide_eq_true e), if_pos e, List.length_cons, Nat.add_comm]
      · rw [if_neg (by simpa using e), if_neg e, Nat.zero_add]
    have split : ∀ l : List Nat, (l.map fun q => cntQ f (x :: ms) q).sum = (l.map fun q => if f x = q then 1 else 0).sum + (l.map fun q => cntQ f ms q).sum := fun l => by
      induction l with
      | nil => rfl
      | cons a r ih =>
        rw [List.map_cons, List.map_cons, List.map_cons, List.sum_cons, List.sum_cons, List.sum_cons, ih, one]
        omega
    have hit : ∀ l : List Nat, l.Nodup → (l.map fun q => if f x = q then 1 else 0).sum = if f x ∈ l then 1 else 0 := fun l nl => by
      induction l with
      | nil => rfl
      | cons a r ih =>
        obtain ⟨n1, n2⟩ := List.nodup_cons.mp nl
        rw [List.map_cons, List.sum_cons, ih n2]
        by_cases e : f x = a
        · rw [if_pos e, if_neg (by rw [e]; exact n1), if_pos (by rw [e]; simp)]
        · rw [if_neg e]
          by_cases m : f x ∈ r
          · rw [if_pos m, if_pos (by simp [m])]
          · rw [if_neg m, if_neg (by simp [m, e])]
    rw [split, hit ks nd, if_pos (h x (by simp)), ih, List.length_cons, Nat.add_comm]
/-- the remainder of the other end -/
theorem rem_neg {b n x i : Nat} (hx : 1 ≤ x) (hxn : x < n) (g : Nat.gcd b n = 1) (gx : Nat.gcd x n = 1) (hn : 2 ≤ n) : rem b n (n - x) i + rem b n x i = n := by
  have h1 : (rem b n (n - x) i + rem b n x i) % n = 0 := by
    unfold rem
    rw [← Nat.add_mod, ← Nat.add_mul, Nat.sub_add_cancel (by omega), Nat.mul_mod_right]
  have h2 := rem_lt (b := b) (n := n) (x := x) (i := i) (by omega)
  have h3 := rem_lt (b := b) (n := n) (x := n - x) (i := i) (by omega)
  have h4 : 1 ≤ rem b n x i := by
    rcases Nat.eq_zero_or_pos (rem b n x i) with z | z
    · have := rem_cop g gx i
      rw [z, Nat.gcd_zero_left] at this
      omega
    · exact z
  obtain ⟨t, ht⟩ := Nat.dvd_of_mod_eq_zero h1
  have : t = 1 := by
    rcases Nat.lt_or_ge t 2 with z | z
    · have : t ≠ 0 := fun z => by
        rw [z, Nat.mul_zero] at ht
        omega
      omega
    · have : n * 2 ≤ n * t := Nat.mul_le_mul_left _ z
      omega
  rw [this, Nat.mul_one] at ht
  exact ht
theorem rest_neg {b n x k : Nat} (hx : 1 ≤ x) (hxn : x < n) (g : Nat.gcd b n = 1) (gx : Nat.gcd x n = 1) (hn : 2 ≤ n) : ∀ c, restSum b n (n - x) k c + restSum b n x k c = n * c
  | 0 => by simp [restSum]
  | c + 1 => by
    have e1 := rest_neg (b := b) (k := k) hx hxn g gx hn c
    have e2 := rem_neg (b := b) (i := k * c) hx hxn g gx hn
    rw [restSum_succ, restSum_succ, Nat.mul_succ]
    omega
theorem rest_pos {b n x k c : Nat} (hx : 1 ≤ x) (hxn : x < n) (g : Nat.gcd b n = 1) (gx : Nat.gcd x n = 1) (hn : 2 ≤ n) (hc : 1 ≤ c) : 1 ≤ restSum b n x k c := by
  obtain ⟨c, rfl⟩ : ∃ d, c = d + 1 := ⟨c - 1, by omega⟩
  rw [restSum_succ]
  have h4 : 1 ≤ rem b n x (k * c) := by
    rcases Nat.eq_zero_or_pos (rem b n x (k * c)) with z | z
    · have := rem_cop g gx (k * c)
      rw [z, Nat.gcd_zero_left] at this
      omega
    · exact z
  omega
/-- the quotient of the other end -/
theorem quo_neg {b n x k c : Nat} (hx : 1 ≤ x) (hxn : x < n) (g : Nat.gcd b n = 1) (gx : Nat.gcd x n = 1) (hn : 2 ≤ n) (h : restSum b n x k c % n = 0) : restSum b n (n - x) k c / n + restSum b n x k c / n = c := by
  have e := rest_neg (b := b) (k := k) hx hxn g gx hn c
  obtain ⟨t, ht⟩ := Nat.dvd_of_mod_eq_zero h
  rw [ht] at e ⊢
  have hle : n * t ≤ n * c := by omega
  have htc : t ≤ c := Nat.le_of_mul_le_mul_left hle (by omega)
  have e2 : restSum b n (n - x) k c = n * (c - t) := by
    rw [Nat.mul_sub]
    omega
  rw [e2, Nat.mul_div_cancel_left _ (by omega), Nat.mul_div_cancel_left _ (by omega)]
  omega
theorem neg_cop {n x : Nat} (hx : x ≤ n) (g : Nat.gcd x n = 1) : Nat.gcd (n - x) n = 1 := by
  have h := Nat.gcd_dvd_left (n - x) n
  have h2 := Nat.gcd_dvd_right (n - x) n
  have h3 : Nat.gcd (n - x) n ∣ x := by
    have := Nat.dvd_sub h2 h
    rwa [show n - (n - x) = x by omega] at this
  have := Nat.dvd_gcd h3 h2
  rw [g] at this
  exact Nat.dvd_one.mp this
end Wn
namespace Wn
open PySem PySem.Spec PyProof.Rows L2
/-! list.count of flat items -/
theorem count_vals {y : V} : ∀ {ys : List V} {its : List Value}, Vals ys its → ys.all flatV = true → its.countP (eqU y) = ys.countP fun z => eqV z y
  | [], _, h, _ => by cases h; rfl
  | z :: ys, _, h, f => by
    cases h with
    | cons rz rt =>
      rw [List.all_cons, Bool.and_eq_true] at f
      rw [List.countP_cons, List.countP_cons, count_vals rt f.2, eqU_of rz f.1]
section
variable {X : Cx}
def rCount (K : PySem.W.Frag) : V → List V → Hp → VK → Prop := fun x xs H Q => ∃ (a : Addr) (ys : List V) (y : V), x = V.ref a ∧ xs = [y] ∧ SqL K H a ys ∧ flatV y = true ∧ ys.all flatV = true ∧ Q (.int ((ys.countP fun z => eqV z y : Nat) : Int)) H
theorem mt_count : MtR X "list.count" (rCount X.K) := by
  intro pins s σ H x xs v us Q I rx rxs h
  obtain ⟨a, ys, y, rfl, rfl, hs, fy, fys, q⟩ := h
  cases rx
  cases rxs with
  | cons ry rt =>
    rename_i uy ut
    cases rt
    obtain ⟨its, rv, ⟨⟨cls, dd, data, sl⟩, n, ho, hc, hdn, hd⟩, hlen⟩ := I.list hs
    simp only at hc hd
    subst hc hd
    refine call_meets PySem.F.slot_list_count ⟨_, ho, rfl⟩ PySem.F.entry_list_count (PySem.F.args_list_count_2 _ _)
      (SeqAt.list_countAt a its.toArray n dd sl uy (eqU y)) ⟨ho, fun u' hu' => mem_eqAt ry fy rv fys u' (by simpa using hu'), ?_⟩
    rw [← count_vals rv fys] at q
    exact ⟨.int (its.countP (eqU y) : Nat), H, I.tok _, ⟨_, rfl⟩, q⟩
variable {T : String} {name id : Str} {r : V → List V → Hp → VK → Prop} {o e : Expr} {es : List Expr} {to : TE} {t : TA} {apos cpos : Pos}
theorem pe_bmC {K' : PySem.W.Frag} {idn : String} {nm : Str} (pa : PlainAttrs T) (slot : Slot T nm idn) (hty : typeOf (.builtin idn) = pure (.type "method_descriptor")) (hm : MtR X idn r) (ho : PE X o to) (ha : PA X (e :: es) t) (hK : X.K = K')
    (hbase : attributeBase o nm X.env (eval o X.env) = eval o X.env := by rfl)
    (hfew : ((backTo cpos (starEach (e :: es) X.env)).all (fun x => !x.1) && (backToKw cpos (keywordEach [] X.env)).all (fun x => x.1.isSome)
      && decide ((e :: es).length + ([] : List Keyword).length + (if ([] : List Keyword).isEmpty then 0 else 1) < 30)) = true := by rfl)
    (hline : (apos.endLine == cpos.line) = true := by rfl) (hs : starEach (e :: es) X.env = (false, eval e X.env) :: starEach es X.env := by rfl) (hplain : (backTo cpos (starEach es X.env)).any (·.1) = false := by rfl) :
    PE X (.Call (.Attribute o nm apos) (e :: es) [] cpos) (tBM K' T r to t) := hK ▸ pe_bm pa slot hty hm ho ha hbase hfew hline hs hplain
end
end Wn
/-! errors of one's own, over any built-in one: made, kept as values, looked at -/
namespace Wn
open PySem PySem.Spec PyProof.Rows L2
/-! the first store to such an error -/
section
open PySem.W PySem.HandSPX Builtin Builtin.ObjectAttr
variable {prog : Program} {w : World} {A : Around} {E : Value → Shared → Prop} {s : Shared} {K : PySem.W.Frag} {C : Addr} {B : String} {bmB : List Value}
theorem osa_one {x t : Addr} {name : Str} {tk : Tok} {v : Value} {R : Result → Shared → Prop} (SF : StoreFacts B bmB "object.__setattr__" "object") (X : K.In s.heap) (hx : s.heap.get? x = some (PySem.W.excObj C t none .none))
    (hp : PySem.W.excOver K C bmB = true) (ht : PySem.W.takerIn K C name = some none) (hh : PySem.W.hasDictIn K C = true)
    (h : ∀ dx h' tk', (∀ b o, b ≠ x → s.heap.get? b = some o → h'.get? b = some o) → s.heap.objs.size ≤ dx → dx ≠ x → h'.get? x = some (PySem.W.excObj C t (some dx) .none) → h'.Ns1 dx (fun y => if y = name then some v else none) → R (.ok (.ret .none)) { s with heap := h', toks := tk' }) :
    codeAny (model prog w) A (.call (.builtin "object.__setattr__") ⟨[.ref x, .str name tk, v], []⟩) R s := by
  have hlt := Heap.lt_size hx
  have hne : s.heap.objs.size ≠ x := Nat.ne_of_gt hlt
  refine osa_openX (od := none) SF X ⟨hx, rfl, rfl, trivial⟩ hp ht fun b => ?_
  obtain ⟨cd, hc, hd⟩ := any_some hh
  refine wpAny_bind (wpAny_pure (wpAny_bind (instanceDict_exc hx (looks_clsIn X hc) hd ?_)))
  have e1 : (s.heap.push (dictOf [] 0)).get? x = some (PySem.W.excObj C t none .none) := Heap.get?_push_of_some _ hx
  obtain ⟨G, hG⟩ : ∃ G, G = (s.heap.push (dictOf [] 0)).update x (fun o => { o with dict := some s.heap.objs.size }) := ⟨_, rfl⟩
  have gx : G.get? x = some (PySem.W.excObj C t (some s.heap.objs.size) .none) := by
    rw [hG]
    exact Heap.get?_update_self _ e1 rfl
  have go : ∀ b, b ≠ x → G.get? b = (s.heap.push (dictOf [] 0)).get? b := fun b hb => by
    rw [hG]
    exact Heap.get?_update_ne _ _ _ _ hb
  have gd : G.Ns s.heap.objs.size (fun _ => none) := by
    refine ⟨_, #[], 0, (go _ hne).trans (Heap.get?_push_size _ rfl), rfl, fun e he => ?_, fun _ => rfl⟩
    exact absurd he (by simp)
  rw [← hG]
  show wpAny (model prog w) A.in1 (storeInDict s.heap.objs.size (.str name tk) name v) _ _ { s with heap := G }
  obtain ⟨hp0, g, d, tt, os⟩ := s
  refine store_in_new gd fun h' tk' hn hs => ?_
  refine h _ h' tk' (fun b o hb e => ?_) (Nat.le_refl _) hne ((hs.2 x hne.symm).trans gx) hn
  have hbs : b ≠ hp0.objs.size := Nat.ne_of_lt (Heap.lt_size e)
  exact (hs.2 b hbs).trans ((go b hb).trans (Heap.get?_push_of_some _ e))
end
/-- what the text says of an error's class: C, over the built-in B, with the field f and its own __init__ at fI -/
structure ErrC (K : PySem.W.Frag) (C fI : Addr) (f : Str) (B newId initId : String) (bmB : List Value) : Prop where
  F : ExcBaseFacts B newId initId bmB
  SF : StoreFacts B bmB "object.__setattr__" "object"
  ini : PySem.W.excInitIn K C bmB newId = true
  ov : PySem.W.excOver K C bmB = true
  hd : PySem.W.hasDictIn K C = true
  sa : PySem.W.findIn K (.ref C) "__setattr__" = some (some (.builtin "object.__setattr__"))
  exC : PySem.W.subIn K (.ref C) (.type "BaseException") = some true
  tyC : PySem.W.typeIn K (.ref C) = some (.type "type")
  kC : PySem.W.keepIn K (.ref C) = true
  tk : PySem.W.takerIn K C f = some none
  no : PySem.W.findIn K (.ref C) f = some none
  iC : PySem.W.findIn K (.ref C) "__init__" = some (some (.ref fI))
  tI : PySem.W.typeIn K (.ref fI) = some (.type "function")
  ga : PySem.W.findIn K (.ref C) "__getattribute__" = some (some (.builtin "BaseException.__getattribute__"))
  gg : PySem.W.findIn K (.ref C) "__getattr__" = some none
  ha : PySem.W.findIn K (.ref C) "__class__" = some (some (.builtin "object.__class__"))
  mr : PySem.W.mroIn K C (.type "object") = some true
section
variable {X : Cx} {pins : List (Addr × Obj)} {σ : L2.St} {H : Hp} {s : Shared} {a C fI dx : Addr} {f : Str} {y : V} {u : Value} {B newId initId : String} {bmB : List Value} {A : Around} {E : Value → Shared → Prop}
theorem ErrC.xf {K : PySem.W.Frag} (T : ErrC K C fI f B newId initId bmB) : XfC K C := ⟨T.ga, T.gg, T.exC, T.hd⟩
/-- self.f = y, the first one -/
theorem ostE {Q : Unit → Shared → Prop} (T : ErrC X.K C fI f B newId initId bmB) (I : Inv X pins σ H s) (e : H a = some (exo a C none)) (ry : RelV y u)
    (h : ∀ dx s', H dx = none → dx ≠ a → Inv X pins σ (upd (upd H dx (exd dx [(f, y)])) a (exo a C (some dx))) s' → Q () s') : wpAny (model X.prog X.w) A (setAttr (.ref a) f u) Q E s := by
  obtain ⟨t1, ho⟩ := exo_at I.hok e
  refine PySem.W.set_plain I.kIn (od := none) ⟨ho, rfl, rfl, trivial⟩ T.sa ?_
  refine osa_one (s := { s with toks := s.toks + 1 }) T.SF I.kIn ho T.ov T.tk T.hd fun d2 G tk2 keep lo ne gx gn => ?_
  have free2 : H d2 = none := I.hok.fresh lo
  have lt2 : ∀ {b : Addr} {o : Obj}, s.heap.get? b = some o → b ≠ d2 := fun z => Nat.ne_of_lt (Nat.lt_of_lt_of_le (Heap.lt_size z) lo)
  have nA : ∀ {b : Addr}, H b = none → b ≠ a := fun z w => by
    rw [w, e] at z
    cases z
  have un : Un X.fs [] H (upd (upd H d2 (exd d2 [(f, y)])) a (exo a C (some d2))) s.heap G := by
    constructor
    · exact fun b o q n _ _ => keep b o (nA n) q
    · exact fun b o q n _ _ => ⟨o.slots, keep b o (nA n) q⟩
    · intro b o q n _
      rw [upd_ne (nA n), upd_ne (lt2 q)]
      exact n
    · intro b o q _
      by_cases w : b = a
      · subst w
        exact ⟨_, gx⟩
      · exact ⟨o, keep b o w q⟩
    · intro b xs q
      rw [upd_ne (at_ne e q exo_tup), upd_ne (ne_of_none q free2)]
      exact q
    · intro b o v q
      rw [upd_ne (at_ne e q exo_frz), upd_ne (ne_of_none q free2)]
      exact q
    · intro b ps q
      refine ⟨#[], ?_⟩
      rw [upd_ne (at_ne e q exo_tbl), upd_ne (ne_of_none q free2), q]
      simp
  refine h d2 _ free2 ne (I.un (t' := tk2) un fun b o q => ?_)
  by_cases w : b = a
  · subst w
    rw [upd_same] at q
    cases q
    exact exo_ok gx
  rw [upd_ne w] at q
  by_cases w2 : b = d2
  · subst w2
    rw [upd_same] at q
    cases q
    exact exd_ok gn (relO_put (fs := []) ry fun g => True.intro)
  rw [upd_ne w2] at q
  refine (I.hok b o q).stay (fun c v hc z => keep c v ?_ z) (fun c hc => ?_) (fun c xs hc => ?_)
  · rcases hc with hc | hc
    · rw [hc]
      exact w
    · exact at_ne e hc exo_own
  · rw [upd_ne (at_ne e hc exo_own), upd_ne (ne_of_none hc free2)]
    exact hc
  · rw [upd_ne (at_ne e hc exo_tup), upd_ne (ne_of_none hc free2)]
    exact hc
/-- the built-in's __init__: nothing of it is told -/
theorem oinitE {us : List Value} {Q : Value → Shared → Prop} (T : ErrC X.K C fI f B newId initId bmB) (I : Inv X pins σ H s) (e : H a = some (exo a C none)) (hl : us.length ≤ sizeLine) (h : ∀ s', Inv X pins σ H s' → Q .none s') :
    wpAny (model X.prog X.w) A (call (.builtin initId) (.ref a :: us)) Q E s := by
  obtain ⟨t1, ho⟩ := exo_at I.hok e
  obtain ⟨nm, N, qn, bs, bm, hdct, sn, sub, ab, col, dd, k0, k1, k2, k3, k5, hC, hT⟩ := PySem.W.excInit_of I.kIn T.ini
  obtain ⟨hp, g, d, t, os⟩ := s
  refine wpAny_call (PySem.HandSPX.init_base T.F hT hC ho hl fun G t2 k gx => ?_)
  have J := I.write (t' := t) (x := a) (e := a) (o := exo a C none) (by rw [e]; exact True.intro) (.inl rfl) k ⟨_, gx⟩ (exo_ok gx)
  rw [show upd H a (exo a C none) = H from funext fun b => by
    by_cases w : b = a
    · rw [w, upd_same, e]
    · rw [upd_ne w]] at J
  exact h _ J
end
/-- W.__init__(self, ..), W one's own class or a built-in one -/
def tInitE (K : PySem.W.Frag) (C : Addr) (ta : TA) : TE := fun σ H Q => ta σ H fun vs H1 => ∃ (a : Addr) (ws : List V), vs = .ref a :: ws ∧ ws.length ≤ 1000 ∧ H1 a = some (exo a C none) ∧ Q .non H1
/-- self.f = e -/
def tOstE (K : PySem.W.Frag) (C : Addr) (f : Str) (to te : TE) : TS := fun D σ H => te σ H fun y H1 => to σ H1 fun x H2 => ∃ a : Addr, x = .ref a ∧ H2 a = some (exo a C none) ∧ ∀ dx, H2 dx = none → dx ≠ a → D.nx σ (upd (upd H2 dx (exd dx [(f, y)])) a (exo a C (some dx)))
section
variable {X : Cx} {o e : Expr} {es : List Expr} {to te : TE} {ta : TA} {f : Str} {p p' p1 p2 pos : Pos} {C fI W : Addr} {B newId initId : String} {bmB : List Value} {mc : Value} {wn : Str}
theorem call_initE {pl : Sem Bool} (T : ErrC X.K C fI f B newId initId bmB) (ha : PA X (e :: es) ta) {pins : List (Addr × Obj)} {s : Shared} {σ : L2.St} {H : Hp} {Q : VK} (I : Inv X pins σ H s) (h : tInitE X.K C ta σ H Q)
    (he : starEach (e :: es) X.env = (false, eval e X.env) :: starEach es X.env := by rfl) (hpl : (backTo pos (starEach es X.env)).any (·.1) = false := by rfl) :
    wpAny (model X.prog X.w) X.A (callWith pos (Value.builtin initId) [] (backTo pos (starEach (e :: es) X.env)) []) (EP X pins σ Q) X.xe s := by
  refine PyProof.Rows.callWith_method1 (thn (ha.run pos pins s σ H _ I h) fun us s1 ⟨vs, H1, I1, r1, a, ws, ev, hl, ea, q⟩ => ?_) he hpl
  subst ev
  cases r1 with
  | @cons _ u0 _ ur ra rw' =>
    obtain rfl : u0 = Value.ref a := ra
    have hlen : ur.length ≤ sizeLine := by
      rw [← Paired.length rw', sizeLine_eq]
      omega
    exact oinitE T I1 ea hlen fun s' J => ⟨.non, H1, J, rfl, q⟩
/-- a class of one's own: its name holds W, whose __init__ is the built-in's -/
theorem pe_initW {pl : Sem Bool} (T : ErrC X.K C fI f B newId initId bmB) (hg : Gl X wn) (hm : X.mg wn = some (.ref W)) (r : ClX.CRead X.K W mc) (at_ : PySem.W.findCls X.K (.ref W) mc "__init__" = some (.val (.builtin initId))) (hh : PySem.W.handedIn (.builtin initId) = true) (ha : PA X (e :: es) ta)
    (hc : eval (.Call (.Attribute (.Name wn p1) "__init__" p2) (e :: es) [] pos) X.env = (do
      let ov ← eval (.Name wn p1) X.env
      standAt p2.atName
      let (f, first) ← holding [ov] (getMethod ov "__init__" pl)
      callWith pos f first (backTo pos (starEach (e :: es) X.env)) (backToKw pos (keywordEach [] X.env))) := by rfl)
    (hdb : (wn == ("__debug__" : Str)) = false := by decide)
    (he : starEach (e :: es) X.env = (false, eval e X.env) :: starEach es X.env := by rfl) (hpl : (backTo pos (starEach es X.env)).any (·.1) = false := by rfl) :
    PE X (.Call (.Attribute (.Name wn p1) "__init__" p2) (e :: es) [] pos) (tInitE X.K C ta) := by
  refine ⟨fun pins s σ H Q I h => ?_⟩
  refine PySem.W.methodCall_KW (ld_glob I hg hm ?_ hdb) hc
  refine PySem.W.method_cls I.kIn r.ga ?_
  refine PySem.W.cls_value I.kIn r.rd at_ hh ?_
  show wpAny _ _ (callWith pos (Value.builtin initId) [] (backTo pos (starEach (e :: es) X.env)) []) _ _ _
  exact call_initE (pl := pl) T ha (I.tok _) h he hpl
end
end Wn
namespace Wn
open PySem PySem.Spec PyProof.Rows L2
/-! C(e): the error made by its own __init__, which keeps sp -/
section
variable {X : Cx} {e : Expr} {es : List Expr} {ta : TA} {f : Str} {p pos : Pos} {C fI : Addr} {B newId initId : String} {bmB : List Value}
theorem pmkE {CX : CXT} {x : Str} {k : Nat} {fd : FuncData} {ps : List Str} {sp : Sp} (T : ErrC X.K C fI f B newId initId bmB) (F1 : FnOk X.prog X.w X.K X.mg X.base CX k fI fd ps sp) (hr : Room (k + 1) X.A) (hb : Binds X.K fd ps []) (hx : Passes CX X (fun _ _ _ => False))
    (hg : Gl X x) (hm : X.mg x = some (.ref C)) (ha : PA X (e :: es) ta)
    (hdb : (x == ("__debug__" : Str)) = false := by decide) (he : starEach (e :: es) X.env = (false, eval e X.env) :: starEach es X.env := by rfl) (hpl : (backTo pos (starEach es X.env)).any (·.1) = false := by rfl) :
    PMk X (.Call (.Name x p) (e :: es) [] pos) (tMkO C sp [] ta) := by
  intro pins s σ H Q I h
  refine wpAny_Call_Name_kw (ld_glob I hg hm ?_ hdb)
  refine PySem.W.callWith_K (h₀ := X.base) I.ok.mod.kin T.kC (thn (ha.run pos pins s σ H _ I h) fun us s1 hh => ?_) he hpl
  obtain ⟨vs, H1, I1, r1, hz, q1⟩ := hh
  refine ⟨I1.kIn, ?_⟩
  show wpAny _ _ (call (.ref C) us) _ _ _
  obtain ⟨nm, N, qn, bs, bm, hdct, sn, sub, ab, col, dd, k0, k1, k2, k3, k5, hC, hT⟩ := PySem.W.excInit_of I1.kIn T.ini
  obtain ⟨h0, g, dr, tk, os⟩ := s1
  obtain ⟨a, haa⟩ : ∃ a, a = h0.objs.size + 1 := ⟨_, rfl⟩
  have lo : h0.objs.size ≤ a := by rw [haa]; exact Nat.le_succ _
  have fresh : H1 a = none := I1.hok.fresh lo
  obtain ⟨G, hG⟩ : ∃ G, G = (h0.push (PySem.W.kdv_tup us)).push (PySem.HandSPX.excO C h0.objs.size) := ⟨_, rfl⟩
  have keep : ∀ b o, h0.get? b = some o → G.get? b = some o := fun b o z => by
    rw [hG]
    exact Heap.get?_push_of_some _ (Heap.get?_push_of_some _ z)
  have gA : G.get? a = some (PySem.HandSPX.excO C h0.objs.size) := by
    rw [hG, haa]
    heap_get
  have I2 : Inv X pins σ (upd H1 a (exo a C none)) ⟨G, g, dr, tk, os⟩ := I1.laid (t' := tk) (a := a) (o := exo a C none) (h' := G) keep lo (exo_ok gA)
  have want := q1 a fresh
  have r2 : Vals (V.ref a :: (vs ++ [])) (Value.ref a :: us) := .cons rfl (by rw [List.append_nil]; exact r1)
  have cnt : (Value.ref a :: us ++ []).length = ps.length := by
    rw [← F1.len _ _ _ _ want, List.append_nil]
    exact r2.length.symm
  have b2 := hb ⟨G, g, dr, tk, os⟩ (Value.ref a :: us) I2.kIn cnt
  rw [List.append_nil] at b2
  have few : us.length ≤ sizeLine := by
    rw [← Paired.length r1, sizeLine_eq]
    omega
  refine wpAny_call (PySem.HandSPX.call_own T.F hT hC (PySem.W.looks_findIn I1.kIn T.iC) (fun self => PySem.W.bind_fn I1.kIn self T.tI) few ?_)
  rw [← hG, ← haa]
  refine codeAny_mono (F1.run _ X.stack _ _ ⟨Value.ref a :: us, []⟩ (Value.ref a :: us) _ _ (fun _ _ _ => False) (hr.make C us []) (I2.env0.make C us []) b2 r2 want) fun r s' back => ?_
  match r, back with
  | .error er, back => exact hx pins σ _ _ er s' I2 back
  | .ok .next, back => exact back.elim
  | .ok .brk, back => exact back.elim
  | .ok .cont, back => exact back.elim
  | .ok (.ret u), back =>
    obtain ⟨v, H2, os2, bare2, un2, hok2, rv, ev, d, fs, ea, ed, hd1, q2⟩ := back
    subst ev
    obtain ⟨h2, g2, d2, t2, os'⟩ := s'
    exact ⟨rv, mk_end (raises_own T.exC T.tyC) I1 lo keep un2 hok2 os2 bare2 ea ed hd1 q2⟩
end
/-! an error kept as a value: its class, its own dict -/
def ExV (cls : Value) (d : Option Addr) (a : Addr) : HO := .ext fun h => ∃ (oe : Obj) (vs : Array Value), h.get? a = some oe ∧ Zc cls d oe ∧ oe.data = .fields vs
theorem exV_ok {P : Program} {w : World} {H : Hp} {h : Heap} {a : Addr} {cls : Value} {d : Option Addr} {oe : Obj} {vs : Array Value} (e : h.get? a = some oe) (z : Zc cls d oe) (hd : oe.data = .fields vs) : ObjOk P w H h a (ExV cls d a) :=
  ⟨⟨oe, vs, e, z, hd⟩, ⟨oe, e⟩, fun _ _ ⟨o, v, q, r⟩ k => ⟨o, v, k o q, r⟩⟩
theorem exV_at {P : Program} {w : World} {H : Hp} {h : Heap} {a : Addr} {cls : Value} {d : Option Addr} (hok : HOk P w H h) (e : H a = some (ExV cls d a)) : ∃ (oe : Obj) (vs : Array Value), h.get? a = some oe ∧ Zc cls d oe ∧ oe.data = .fields vs := by
  have x : ObjOk P w H h a (.ext fun h => ∃ (oe : Obj) (vs : Array Value), h.get? a = some oe ∧ Zc cls d oe ∧ oe.data = .fields vs) := hok a _ e
  exact x.1
section
variable {X : Cx} {pins : List (Addr × Obj)} {σ σ0 : L2.St} {H H0 : Hp} {s s0 : Shared} {a : Addr} {o : HO}
/-- what stands there, and was not there before, is tracked from now on -/
theorem track (I : Inv X pins σ H s) (I0 : Inv X pins σ0 H0 s0) (n0 : s0.heap.get? a = none) (hn : H a = none) (new : ObjOk X.prog X.w (upd H a o) s.heap a o) : Inv X pins σ (upd H a o) s := by
  have nb : ∀ {b : Addr} {u : Obj}, s0.heap.get? b = some u → b ≠ a := fun z w => by
    rw [w, n0] at z
    cases z
  have nt : ∀ {b : Addr} {u : HO}, H b = some u → b ≠ a := fun z => ne_of_none z hn
  refine ⟨I.ok, I.os, I.bare, ⟨I.base.keep, I.base.slot, fun b u z n hx => ?_, I.base.there, fun b xs z => ?_, fun b u v z => ?_, fun b ps z => ?_⟩, I.loc, I.cell, ?_, fun x c z => ?_, fun p hp => ?_, fun b u z => ?_, I.len⟩
  · obtain ⟨u', z'⟩ := I0.base.there b u z hx
    rw [upd_ne (nb z')]
    exact I.base.free b u z n hx
  · have := I.base.tups b xs z
    rw [upd_ne (nt this)]
    exact this
  · have := I.base.frzs b u v z
    rw [upd_ne (nt this)]
    exact this
  · obtain ⟨more, this⟩ := I.base.tbls b ps z
    exact ⟨more, by rw [upd_ne (nt this)]; exact this⟩
  · obtain ⟨m, hm, _⟩ := I0.loc
    obtain ⟨ob, _, _, e, _⟩ := hm
    rw [upd_ne (nb e)]
    exact I.free
  · obtain ⟨v, ob, e, _⟩ := I0.cell x c z
    rw [upd_ne (nb e)]
    exact I.freeC x c z
  · obtain ⟨h1, h2, h3⟩ := I.pin p hp
    exact ⟨h1, by rw [upd_ne (nb (I0.pin p hp).1)]; exact h2, h3⟩
  · by_cases w : b = a
    · subst w
      rw [upd_same] at z
      cases z
      exact new
    · rw [upd_ne w] at z
      exact (I.hok b u z).stay (fun c v hc q => q) (fun c hc => by rw [upd_ne (nt hc)]; exact hc) fun c xs hc => by rw [upd_ne (nt hc)]; exact hc
end
/-- C(e) as a value -/
def tVal (t : L2.St → Hp → XK → Prop) : TE := fun σ H Q => t σ H fun cls d H' => ∀ a, H' a = none → Q (.ref a) (upd H' a (ExV cls d a))
theorem pe_mkV {X : Cx} {e : Expr} {t : L2.St → Hp → XK → Prop} (he : PMk X e t) : PE X e (tVal t) := by
  refine ⟨fun pins s σ H Q I h => thn (he pins s σ H _ I h) fun u s1 hh => ?_⟩
  obtain ⟨a, oe, vs, sI, H', cls, d, eu, J, keep, n0, ha, hz, hd, h1, na, os, ag, r, q⟩ := hh
  have J1 := J.landed (B := sI.heap) (fun _ _ z _ => z) keep (Heap.UpToSlots.of_keeps keep) os ag
  subst eu
  exact ⟨.ref a, _, track J1 J n0 na (exV_ok ha hz hd), rfl, q a na⟩
/-! its field, its class -/
def tFldE (K : PySem.W.Frag) (f : Str) (te : TE) : TE := fun σ H Q => te σ H fun x H1 => ∃ (a C d : Addr) (fs : List (Str × V)) (v : V), x = .ref a ∧ XfC K C ∧ PySem.W.findIn K (.ref C) f = some none ∧ H1 a = some (ExV (.ref C) (some d) a) ∧ H1 d = some (.xd fs) ∧ fs.lookup f = some v ∧ Q v H1
theorem pe_fldE {X : Cx} {e : Expr} {te : TE} {pos : Pos} {n : Str} (he : PE X e te) (hb : attributeBase e n X.env (eval e X.env) = eval e X.env := by rfl) : PE X (.Attribute e n pos) (tFldE X.K n te) := by
  refine ⟨fun pins s σ H Q I h => attr_of hb (thn (he.run pins s σ H _ I h) fun u s1 hh => ?_)⟩
  obtain ⟨x, H1, I1, rx, a, C, d, fs, v, ex, T, hno, ea, ed, l, q⟩ := hh
  subst ex
  obtain rfl : u = Value.ref a := rx
  obtain ⟨oe, vs, ha, hz, hd⟩ := exV_at I1.hok ea
  have hx : ObjOk X.prog X.w H1 s1.heap d (.xd fs) := I1.hok d _ ed
  obtain ⟨mA, hns, hr⟩ := hx
  obtain ⟨od, ho, hl⟩ := lookIn_ns hns
  obtain ⟨u, hu, ru⟩ := RelO.some_of (v := v) (o := mA n) (by rw [← l]; exact hr n)
  have J : PySem.W.InstAt s1.heap a oe C (some od) := by
    refine ⟨ha, hz.1, ?_, ?_⟩
    · unfold PySem.W.notCls
      rw [hd]
    · rw [hz.2]
      exact ho
  exact PySem.HandSPX.exc_get I1.kIn J T.ga T.gg T.exC (PySem.W.findObj_own T.hdC hno rfl (by rw [hl, hu])) (handed_of ru) ⟨v, H1, I1.tok _, ru, q⟩
end Wn
/-! errors caught and kept; isinstance of such -/
namespace Wn
open PySem PySem.Spec PyProof.Rows L2
/-- what isinstance asks of the class C of an error -/
structure IsC (K : PySem.W.Frag) (C : Addr) : Prop where
  cl : (PySem.W.clsIn K C).isSome = true
  ga : PySem.W.findIn K (.ref C) "__getattribute__" = some (some (.builtin "BaseException.__getattribute__"))
  gg : PySem.W.findIn K (.ref C) "__getattr__" = some none
  exC : PySem.W.subIn K (.ref C) (.type "BaseException") = some true
  ha : PySem.W.findIn K (.ref C) "__class__" = some (some (.builtin "object.__class__"))
  hn : PySem.W.specialIn K (.builtin "object.__class__") "__get__" = some (some (.builtin "getset_descriptor.__get__"))
  ht : PySem.W.takesIn K (.builtin "object.__class__") = some true
  mr : PySem.W.mroIn K C (.type "object") = some true
def rIsV (K : PySem.W.Frag) : List V → Hp → VK → Prop := fun xs H Q => ∃ (a C d : Addr) (fs : List (Str × V)) (c : V) (cv : Value) (b : Bool), xs = [.ref a, c] ∧ IsC K C ∧ H a = some (ExV (.ref C) (some d) a) ∧ H d = some (.xd fs) ∧ (∀ u, RelV c u → u = cv) ∧ PySem.W.kitOne K (.ref C) cv = some b ∧ Q (.bl b) H
theorem call_isV {X : Cx} : CallR X (.builtin "isinstance") (rIsV X.K) := by
  intro pins s σ H xs us Q I r h
  obtain ⟨a, C, d, fs, c, cv, b, rfl, T, ea, ed, hcv, e, q⟩ := h
  obtain ⟨oe, vs, ha, hz, hd⟩ := exV_at I.hok ea
  have hx : ObjOk X.prog X.w H s.heap d (.xd fs) := I.hok d _ ed
  obtain ⟨mA, hns, hr⟩ := hx
  obtain ⟨od, ho, hl⟩ := lookIn_ns hns
  have J : PySem.W.InstAt s.heap a oe C (some od) := by
    refine ⟨ha, hz.1, ?_, ?_⟩
    · unfold PySem.W.notCls
      rw [hd]
    · rw [hz.2]
      exact ho
  cases r with
  | cons rx rr =>
    cases rr with
    | cons rt rr =>
      cases rr
      cases rx
      have ec := hcv _ rt
      subst ec
      exact PySem.W.kia_one (PySem.W.kitx_exc T.cl T.ga T.gg T.exC T.ha T.hn T.ht T.mr) I.kIn J e (fun z => nomatch z) fun tk => ⟨.bl b, H, I.kept (t' := tk) fun _ _ z => z, rfl, q⟩
/-! try: body, except (A, B, C) as n: m = n; what was caught is kept in m -/
/-- what the three names of a tuple of classes hold -/
structure Names3 (X : Cx) (x1 x2 x3 : Str) (c1 c2 c3 : Addr) : Prop where
  n1 : Gl X x1 ∧ (x1 == ("__debug__" : Str)) = false ∧ X.mg x1 = some (.ref c1)
  n2 : Gl X x2 ∧ (x2 == ("__debug__" : Str)) = false ∧ X.mg x2 = some (.ref c2)
  n3 : Gl X x3 ∧ (x3 == ("__debug__" : Str)) = false ∧ X.mg x3 = some (.ref c3)
def wKeep (K : PySem.W.Frag) (cs : List Value) (i j : Nat) (D : Ends) : WX := fun cls d σ H =>
  PySem.W.exmAny K cls cs = some true ∧ ∀ a, H a = none → D.nx ((σ.set j (some (.ref a))).set i none) (upd H a (ExV cls d a))
theorem flying_keep {B h h' : Heap} {l : List Env} {a : Addr} {Z : Obj → Prop} (k : ∀ b o, h.get? b = some o → h'.get? b = some o) (f : PySem.HandSPX.FlyingZ B l a Z h) : PySem.HandSPX.FlyingZ B l a Z h' := by
  obtain ⟨f1, f2, f3, oe, vs, T, oT, ts, e1, e2, e3, e4, e5, e6, e7, e8, e9⟩ := f
  exact ⟨fun b o z => k b o (f1 b o z), f2, Heap.FunFrames.of_keeps (fun b o z _ => ⟨o, k b o z, rfl⟩) f3, oe, vs, T, oT, ts, k _ _ e1, e2, e3, e4, e5, e6, k _ _ e7, e8, e9⟩
section
variable {X : Cx} {x1 x2 x3 n m : Str} {c1 c2 c3 : Addr} {i j : Nat} {body : List Stmt} {q1 q2 q3 qt qm qn pa pos pos' : Pos} {kt : Nat} {tb : WX → TS}
theorem ps_try_keep (hs : X.stack = X.env :: X.outer) (hf : X.env.frame = some X.env.locals) (hN : X.N.Nodup) (hi : X.N[i]? = some n) (hj : X.N[j]? = some m) (hij : i ≠ j) (hln : X.env.kindOf n = some .local) (hlm : X.env.kindOf m = some .local) (hc : Names3 X x1 x2 x3 c1 c2 c3)
    (hb : ∀ (W : WX) (pn : List (Addr × Obj)) (xe : Value → Shared → Prop), Takes (X.tr pn xe) W → PassesOwn (model X.prog X.w) X.A X.env xe → PSs (X.tr pn xe) body (tb W))
    (hsw : swapsWith (.Name n qn) (some (.Name m qm)) pa.line X.env = pure false := by rfl) (hdn : (n == ("__debug__" : Str)) = false := by decide) (hcn : (n == ("__classdict__" : Str)) = false := by decide) :
    PS X (.Try body [.ExceptHandler (some (.Tuple [.Name x1 q1, .Name x2 q2, .Name x3 q3] kt qt)) (some n) [.Assign [.Name m qm] (.Name n qn) pa] pos'] [] [] pos) (fun D σ H => tb (wKeep X.K [.ref c1, .ref c2, .ref c3] i j D) D σ H) := by
  refine ⟨fun pins s σ H D I h => ?_⟩
  have ok := I.ok
  have hfr : X.A.frames = some (X.env :: X.outer) := by rw [ok.frames, hs]
  have hloc : Loc X.env.scope n := .inl hln
  have hlocm : Loc X.env.scope m := .inl hlm
  refine wpAny_Try_except ?_
  refine wpAny_mono ((hb (wKeep X.K [.ref c1, .ref c2, .ref c3] i j D) (X.pn ++ pins) (fun e s₁ => wpAny (model X.prog X.w) X.A (noteFrame e X.env) (fun _ s₂ => wpAny (model X.prog X.w) X.A (setFlight e none) (fun _ s₃ =>
    wpAny (model X.prog X.w) X.A (handleBy e X.env [.ExceptHandler (some (.Tuple [.Name x1 q1, .Name x2 q2, .Name x3 q3] kt qt)) (some n) [.Assign [.Name m qm] (.Name n qn) pa] pos']) (SP X pins D) X.xe s₃) X.xe s₂) X.xe s₁) (fun u s' xx => ?_) PassesOwn.looking).run [] s σ H D (I.toTry _) h) (fun f s1 hsp => ?_) (fun e s1 he => he)
  · obtain ⟨a, B, sI, pins', σ', H', cls, d, rfl, J', nb, up, sky, na, os, ag, hb1, hyes⟩ := xx
    have J : Inv X pins σ' H' sI := J'.ofTry ok
    have sky2 : Sky B (X.env :: X.outer) a (Zc cls d) X.env.locals s'.heap := by
      rw [← hs]
      exact sky
    show wpAny (model X.prog X.w) X.A (noteFrame (.ref a) X.env) _ _ _
    refine Sky.land Zc.steady hfr hf sky2 fun h3 fl3 up3 => ?_
    have J3 : Inv X pins σ' H' { s' with heap := h3 } := J.landed nb fl3.1 (up.trans up3) os ag
    obtain ⟨oe3, vs3, he3, hz3, hd3⟩ := fl3.there
    have nfr : a ∉ frs (X.env :: X.outer) := fun hm => by
      obtain ⟨_, o', e', hnf⟩ := fl3.2.2.1.mem hm
      rw [he3] at e'
      cases e'
      exact hnf _ hd3
    have nL : a ≠ X.env.locals := fun z => nfr (List.mem_filterMap.mpr ⟨X.env, List.mem_cons_self, by rw [hf, z]⟩)
    have nF : a ∉ X.fs := fun hm => by
      obtain ⟨e, he, q⟩ := List.mem_filterMap.mp hm
      exact nfr (List.mem_filterMap.mpr ⟨e, List.mem_cons_of_mem _ he, q⟩)
    have n0 : sI.heap.get? a = none := by
      cases z : sI.heap.get? a with
      | none => rfl
      | some o =>
        have := nb a o z (by rw [hs]; exact nfr)
        rw [fl3.2.1] at this
        cases this
    have S3 := J3.suite he3 hd3 na nL nF
    refine wpAny_handleBy_cons (codeAny_handlers_test ?_) (by intro q; cases q)
    have LT : PySem.W.Looks (model X.prog X.w) h3 (typeOf (.ref a)) cls := fun A Q E s k q => wpAny_typeOf_ref (k _ _ he3) (by rw [hz3.1]; exact q)
    refine wpAny_Tuple ?_
    refine wpAny_items_cons (ld_glob (X := X.suite a ((a, oe3) :: (X.pn ++ pins))) S3 hc.n1.1 hc.n1.2.2 ?_ hc.n1.2.1)
    refine wpAny_items_cons (ld_glob (X := X.suite a ((a, oe3) :: (X.pn ++ pins))) S3 hc.n2.1 hc.n2.2.2 ?_ hc.n2.2.1)
    refine wpAny_items_cons (ld_glob (X := X.suite a ((a, oe3) :: (X.pn ++ pins))) S3 hc.n3.1 hc.n3.2.2 ?_ hc.n3.2.1)
    refine wpAny_items_nil ⟨by size_fits, ?_⟩
    obtain ⟨G, hG⟩ : ∃ G, G = h3.push { cls := .type "tuple", data := .seq [.ref c1, .ref c2, .ref c3].toArray } := ⟨_, rfl⟩
    have kp : ∀ b o, h3.get? b = some o → G.get? b = some o := fun _ _ z => by
      rw [hG]
      exact Heap.get?_push_of_some _ z
    have gt : G.get? h3.objs.size = some { cls := .type "tuple", data := .seq [.ref c1, .ref c2, .ref c3].toArray } := by
      rw [hG]
      exact Heap.get?_push_size h3 rfl
    rw [← hG]
    refine (PySem.W.exm_tup3 (M := model X.prog X.w) (J3.kIn.keeps kp) (LT.keeps kp) gt hb1).here ?_
    have fl4 := flying_keep kp fl3
    have upG : h3.UpToSlots G := Heap.UpToSlots.of_keeps kp
    refine codeAny_handlers_suite_as ?_
    refine PySem.HandSPX.lands_againZ fl4 fun h4 fl5 up4 => ?_
    have J4 : Inv X pins σ' H' { s' with heap := h4 } := J.landed nb fl5.1 (((up.trans up3).trans upG).trans up4) os ag
    obtain ⟨oe4, vs4, he4, hz4, hd4⟩ := fl5.there
    have S4 := J4.suite he4 hd4 na nL nF
    refine store_ok (X := X.suite a ((a, oe4) :: (X.pn ++ pins))) (v := .ref a) S4 hN hi hloc rfl (fun s5 S5 => ?_) (.inr hln)
    have hp : PSs (X.suite a ((a, oe4) :: (X.pn ++ pins))) [.Assign [.Name m qm] (.Name n qn) pa] (tSeq (tAsg (tVar i) (gName j)) tNext) :=
      pss_cons (ps_set (X := X.suite a ((a, oe4) :: (X.pn ++ pins))) hN hj hlocm (pe_var (X := X.suite a ((a, oe4) :: (X.pn ++ pins))) hi (.inl hln) hdn hcn) hsw (.inr hlm)) pss_nil
    have hlen : i < σ'.length := by
      rw [J4.len]
      exact (List.getElem?_eq_some_iff.mp hi).1
    refine wpAny_mono (hp.run [] s5 _ H' { nx := fun σ6 H6 => H6 = H' ∧ σ6 = (σ'.set i (some (.ref a))).set j (some (.ref a)), rt := fun _ _ => False } S5 ⟨_, List.getElem?_set_self hlen, rfl, rfl⟩) (fun f s6 hsp => ?_) (fun _ _ z => False.elim z)
    cases f with
    | next =>
      obtain ⟨σ6, H6, S6, rfl, rfl⟩ := hsp
      have gA := (S6.pin (a, oe4) (List.mem_append_left _ List.mem_cons_self)).1
      have J6 := track (S6.unsuite ok) J n0 na (exV_ok (cls := cls) (d := d) gA hz4 hd4)
      refine gone_ok J6 hN hi hln fun s7 J7 => ⟨_, _, J7, ?_⟩
      have e1 : (((σ'.set i (some (V.ref a))).set j (some (V.ref a))).set i none) = ((σ'.set j (some (V.ref a))).set i none) := by
        rw [List.set_comm _ _ hij, List.set_set]
      rw [e1]
      exact hyes a na
    | brk =>
      obtain ⟨_, _, _, z⟩ := hsp
      exact False.elim z
    | cont =>
      obtain ⟨_, _, _, z⟩ := hsp
      exact False.elim z
    | ret u =>
      obtain ⟨_, _, _, _, _, z⟩ := hsp
      exact False.elim z
  · cases f with
    | next =>
      obtain ⟨σ', H', J', q⟩ := hsp
      exact wpAny_execs_nil ⟨σ', H', J'.ofTry ok, q⟩
    | brk =>
      obtain ⟨σ', H', J', q⟩ := hsp
      exact ⟨σ', H', J'.ofTry ok, q⟩
    | cont =>
      obtain ⟨σ', H', J', q⟩ := hsp
      exact ⟨σ', H', J'.ofTry ok, q⟩
    | ret u =>
      obtain ⟨v, σ', H', J', r, q⟩ := hsp
      exact ⟨v, σ', H', J'.ofTry ok, r, q⟩
end
end Wn
/-! a lambda handed to a def that calls it, without a parameter or with one that has a written default -/
namespace Wn
open PySem PySem.Spec PyProof.Rows L2 LamX
def clos (X : Cx) (scope : Scope) : List (Str × Addr) := cloFrom X.env.cells scope.names []
abbrev lamO (X : Cx) (params : Arguments) (body : Expr) (scope : Scope) (dV doc pm : Value) (c' : Addr) (ctv : Value) : Obj :=
  PySem.W.kdv_obj "<lambda>" (X.env.qual ++ "<lambda>") params (.expr body) scope (clos X scope) dV doc pm c' ctv
/-- the lambda's names: no cell of its own; its own parameter is no name of the def around -/
structure LamD (N : List Str) (sc scope : Scope) : Prop where
  kind : scope.kind = .function
  co : scope.isCoroutine = false
  gen : scope.isGenerator = false
  own : ∀ y ∈ scope.names, y.2 ≠ .cell ∧ (y.2 = .local → y.1 ∉ N)
  free : ∀ y ∈ scope.names, y.2 = .free → sc.names.lookup y.1 = some .cell ∨ sc.names.lookup y.1 = some .free
def lamDB (N : List Str) (sc scope : Scope) : Bool :=
  decide (scope.kind = .function) && !scope.isCoroutine && !scope.isGenerator && scope.names.all fun y => !decide (y.2 = .cell) && (!decide (y.2 = .local) || !decide (y.1 ∈ N)) && (!decide (y.2 = .free) || decide (sc.names.lookup y.1 = some .cell) || decide (sc.names.lookup y.1 = some .free))
theorem lamD_by {N : List Str} {sc scope : Scope} (h : lamDB N sc scope = true) : LamD N sc scope := by
  unfold lamDB at h
  simp only [Bool.and_eq_true, Bool.or_eq_true, Bool.not_eq_true', decide_eq_true_eq, decide_eq_false_iff_not, List.all_eq_true] at h
  obtain ⟨⟨⟨h1, h2⟩, h3⟩, h4⟩ := h
  refine ⟨h1, h2, h3, fun y hy => ⟨(h4 y hy).1.1, fun e => ?_⟩, fun y hy e => ?_⟩
  · rcases (h4 y hy).1.2 with z | z
    · exact absurd e z
    · exact z
  · rcases (h4 y hy).2 with (z | z) | z
    · exact absurd e z
    · exact .inl z
    · exact .inr z
theorem LamD.has {X : Cx} {scope : Scope} (L : LamD X.N X.env.scope scope) (ok : X.Ok) : ∀ y ∈ scope.names, y.2 = .free → ∃ c, X.env.cells.lookup y.1 = some c := fun y hy e =>
  (L.free y hy e).elim (fun k => ok.has _ (.inl k)) (fun k => ok.has _ (.inr k))
section
variable {X : Cx} {pins : List (Addr × Obj)} {σ : L2.St} {H : Hp} {s : Shared}
/-- the function is made: its code object is new, or found in the table -/
theorem mk_tail {M : Model} {A : Around} {T : List (Addr × Str)} {c P : Addr} {params : Arguments} {body : Expr} {scope : Scope} {pos : Pos} {dV : Value} {E : Value → Shared → Prop} {Q : Value → Shared → Prop} (I : Inv X pins σ H s) (TB : TabB X.base X.mg c P) (hcode : X.env.code = .ref c)
    (hm : (P, X.env.qual ++ "<lambda>") ∈ T) (hu : ∀ p ∈ T, p.1 = P → p.2 = X.env.qual ++ "<lambda>") (hT : Tabs T H) (hfree : ∀ y ∈ scope.names, y.2 = .free → ∃ c, X.env.cells.lookup y.1 = some c)
    (h : ∀ (f c' : Addr) (doc pm ctv : Value) (H1 : Hp) (s' : Shared), Inv X pins σ H1 s' → ExtN H H1 → Tabs T H1 → (∀ b o, b ≠ P → s.heap.get? b = some o → s'.heap.get? b = some o) → (∀ b, H b = none → b < s.heap.objs.size → H1 b = none) →
      s'.heap.get? f = some (lamO X params body scope dV doc pm c' ctv) → H1 f = none → f ∉ frs X.stack → H1 c' = some (CodeO c' (X.env.qual ++ "<lambda>")) → Q (.ref f) s') :
    wpAny M A (makeTail "<lambda>" (X.env.qual ++ "<lambda>") params (.expr body) scope X.env dV .none none pos pos.line) Q E s := by
  obtain ⟨ps, hP, ht, ha⟩ := hT _ hm
  have bP : s.heap.BuiltinsAt X.mg P := TB.bm.keeps I.bk
  have gP : s.heap.get? P = some { cls := .none, data := .fields ps } := I.hok P _ hP
  have off : ∀ f, s.heap.objs.size ≤ f → f ∉ frs X.stack := fun f hf z => by
    rcases List.mem_cons.mp (I.stkSub _ z) with e | e
    · have h1 := I.lt
      rw [← e] at h1
      exact Nat.lt_irrefl _ (Nat.lt_of_lt_of_le h1 hf)
    · exact I.nofs hf e
  cases hc : codeAmong pos ps.toList with
  | some cv =>
    obtain ⟨c', e, hco⟩ := ha pos cv hc
    subst e
    refine PySem.W.kdv_makeTailHit (mg := X.mg) (c := c) (P := P) (ps := ps) (closure_ok hfree) I.ok.glob (I.mod.glob.keeps I.bk) hcode (TB.code.keeps I.bk) gP ht hc bP fun ctv doc h' tk hx hsz => ?_
    have I1 : Inv X pins σ H { s with heap := h'.push (lamO X params body scope dV doc ((X.mg "__name__").getD .none) c' ctv), toks := tk } := I.kept fun b o e => Heap.get?_push_of_some _ (hx b o e)
    exact h h'.objs.size c' doc ((X.mg "__name__").getD .none) ctv H _ I1 (ExtN.refl H) hT (fun b o _ e => Heap.get?_push_of_some _ (hx b o e)) (fun b z _ => z) (Heap.get?_push_size _ rfl) (I.hok.fresh hsz) (off _ hsz) hco
  | none =>
    refine PySem.W.kdv_makeTail (mg := X.mg) (c := c) (P := P) (ps := ps) (closure_ok hfree) I.ok.glob (I.mod.glob.keeps I.bk) hcode (TB.code.keeps I.bk) gP ht hc TB.gP bP fun c' ctv doc h' tk hx hge hlt hrec htb => ?_
    obtain ⟨c2, oc, vs, t, e2, hoc, hd, hv⟩ := hrec
    cases e2
    have grow : s.heap.objs.size ≤ h'.objs.size := Nat.le_trans hge (Nat.le_of_lt hlt)
    have nC : H c' = none := I.hok.fresh hge
    obtain ⟨F0, hF0⟩ : ∃ F0, F0 = lamO X params body scope dV doc ((X.mg "__name__").getD .none) c' ctv := ⟨_, rfl⟩
    have I1 := inv_table (t' := tk) (more := #[rawInt pos.line, rawInt pos.col, .ref c']) (h' := h'.push F0) I hP
      (fun b o hb e => Heap.get?_push_of_some _ (hx b o hb e)) (Heap.get?_push_of_some _ htb) hge ⟨oc, vs, t, Heap.get?_push_of_some _ hoc, hd, hv⟩
    have far : ∀ {b : Addr} {o : HO}, H b = some o → (∀ ps, o ≠ .tbl ps) → b ≠ P := fun e n z => by
      rw [z, hP] at e
      exact n ps (Option.some.inj e).symm
    have ext : ExtN H (upd (upd H P (.tbl (ps ++ #[rawInt pos.line, rawInt pos.col, .ref c']))) c' (CodeO c' (X.env.qual ++ "<lambda>"))) := fun b o e n => by
      rw [upd_ne (ne_of_none e nC), upd_ne (far e n)]
      exact e
    have lst : (ps ++ #[rawInt pos.line, rawInt pos.col, .ref c']).toList = ps.toList ++ [rawInt pos.line, rawInt pos.col, .ref c'] := by simp
    subst hF0
    refine h h'.objs.size c' doc ((X.mg "__name__").getD .none) ctv _ _ I1 ext (fun p hp => ?_) (fun b o hb e => Heap.get?_push_of_some _ (hx b o hb e)) (fun b z lt => ?_) (Heap.get?_push_size _ rfl) ?_ (off _ grow) upd_same
    · by_cases hb : p.1 = P
      · rw [hu p hp hb, hb]
        refine ⟨_, by rw [upd_ne (ne_of_none hP nC), upd_same], by rw [lst]; exact PySem.TriplesOk_snoc _ _ _ _ ht, fun p' cv hcv => ?_⟩
        rw [lst] at hcv
        rcases among_app _ ht hcv with z | z
        · obtain ⟨c0, e1, e2⟩ := ha p' cv z
          exact ⟨c0, e1, ext _ _ e2 codeO_ne⟩
        · exact ⟨c', z, upd_same⟩
      · obtain ⟨ps', a1, a2, a3⟩ := hT p hp
        refine ⟨ps', by rw [upd_ne (ne_of_none a1 nC), upd_ne hb]; exact a1, a2, fun p' cv hcv => ?_⟩
        obtain ⟨c0, e1, e2⟩ := a3 p' cv hcv
        exact ⟨c0, e1, ext _ _ e2 codeO_ne⟩
    · have n1 : b ≠ c' := Nat.ne_of_lt (Nat.lt_of_lt_of_le lt hge)
      have n2 : b ≠ P := fun w => by
        rw [w, hP] at z
        cases z
      rw [upd_ne n1, upd_ne n2]
      exact z
    · have n1 : h'.objs.size ≠ c' := Nat.ne_of_gt hlt
      have n2 : h'.objs.size ≠ P := Nat.ne_of_gt (Nat.lt_of_lt_of_le (Heap.lt_size gP) grow)
      rw [upd_ne n1, upd_ne n2]
      exact I.hok.fresh grow
/-- what is made of the lambda: objects that stay, the function at f among them -/
structure Made (X : Cx) (H1 : Hp) (s' : Shared) (params : Arguments) (body : Expr) (scope : Scope) (f c' : Addr) (dV doc pm ctv : Value) (D : List (Addr × Obj)) : Prop where
  at_ : (f, lamO X params body scope dV doc pm c' ctv) ∈ D
  there : ∀ p ∈ D, s'.heap.get? p.1 = some p.2 ∧ H1 p.1 = none ∧ p.1 ∉ frs X.stack
  code : H1 c' = some (CodeO c' (X.env.qual ++ "<lambda>"))
  binds : ∃ bs : List (Str × Value), (∀ s2 : Shared, (∀ p ∈ D, s2.heap.get? p.1 = some p.2) → BindsTo s2 (PySem.W.kdv_fn "<lambda>" (X.env.qual ++ "<lambda>") params (.expr body) scope (clos X scope) dV doc pm (.ref c') ctv) ⟨[], []⟩ bs) ∧ ∀ y ∈ bs, scope.names.lookup y.1 = some .local
/-- lambda: e -/
theorem lam_plain {T : List (Addr × Str)} {c P : Addr} {params : Arguments} {body : Expr} {scope : Scope} {pos : Pos} {E : Value → Shared → Prop} {Q : Value → Shared → Prop} (I : Inv X pins σ H s) (TB : TabB X.base X.mg c P) (hcode : X.env.code = .ref c)
    (hm : (P, X.env.qual ++ "<lambda>") ∈ T) (hu : ∀ p ∈ T, p.1 = P → p.2 = X.env.qual ++ "<lambda>") (hT : Tabs T H) (hdef : defaultsOf params X.env = ([], [])) (hfree : ∀ y ∈ scope.names, y.2 = .free → ∃ c, X.env.cells.lookup y.1 = some c)
    (hbind : ∀ (q : Str) (cl : List (Str × Addr)) (doc pm cv ctv : Value), bindArgs (PySem.W.kdv_fn "<lambda>" q params (.expr body) scope cl .none doc pm cv ctv) ⟨[], []⟩ = pure [])
    (h : ∀ (f c' : Addr) (dV doc pm ctv : Value) (D : List (Addr × Obj)) (H1 : Hp) (s' : Shared), Inv X pins σ H1 s' → ExtN H H1 → Tabs T H1 → Made X H1 s' params body scope f c' dV doc pm ctv D → Q (.ref f) s') :
    wpAny (model X.prog X.w) X.A (eval (.Lambda params body scope pos) X.env) Q E s := by
  refine PySem.W.kla_eval hdef ?_
  rw [makeFunction_eq]
  simp only [List.zip_nil_right, List.filterMap_nil, List.isEmpty_nil, if_true, pure_bind]
  refine mk_tail I TB hcode hm hu hT hfree fun f c' doc pm ctv H1 s' I1 eN T1 _ _ hf hfn hfr hco => ?_
  refine h f c' .none doc pm ctv [(f, lamO X params body scope .none doc pm c' ctv)] H1 s' I1 eN T1 ⟨List.mem_cons_self, fun p hp => ?_, hco, [], fun s2 _ => .of_eq (hbind _ _ _ _ _ _), fun y hy => absurd hy (by simp)⟩
  rw [List.mem_singleton] at hp
  subst hp
  exact ⟨hf, hfn, hfr⟩
/-- lambda a=0: e -/
theorem lam_dflt {T : List (Addr × Str)} {c P : Addr} {params : Arguments} {body : Expr} {scope : Scope} {pos p0 : Pos} {j0 : Nat} {n : Int} {x : Str} {E : Value → Shared → Prop} {Q : Value → Shared → Prop} (I : Inv X pins σ H s) (TB : TabB X.base X.mg c P) (hcode : X.env.code = .ref c)
    (hm : (P, X.env.qual ++ "<lambda>") ∈ T) (hu : ∀ p ∈ T, p.1 = P → p.2 = X.env.qual ++ "<lambda>") (hT : Tabs T H) (hkw : params.kwonlyargs = []) (hdef : defaultsOf params X.env = ([eval (.Constant (.int n) j0 p0) X.env], [])) (hfree : ∀ y ∈ scope.names, y.2 = .free → ∃ c, X.env.cells.lookup y.1 = some c)
    (hbind : ∀ (q : Str) (cl : List (Str × Addr)) (T0 : Addr) (doc pm cv ctv v : Value), ∃ k, bindArgs (PySem.W.kdv_fn "<lambda>" q params (.expr body) scope cl (.ref T0) doc pm cv ctv) ⟨[], []⟩ = seqItems? (.ref T0) >>= k ∧ k (some #[v]) = pure [(x, v)]) (hloc : scope.names.lookup x = some .local)
    (hE : ∀ e s, X.xe e s → E e s)
    (h : ∀ (f c' : Addr) (dV doc pm ctv : Value) (D : List (Addr × Obj)) (H1 : Hp) (s' : Shared), Inv X pins σ H1 s' → ExtN H H1 → Tabs T H1 → Made X H1 s' params body scope f c' dV doc pm ctv D → Q (.ref f) s') :
    wpAny (model X.prog X.w) X.A (eval (.Lambda params body scope pos) X.env) Q E s := by
  rw [arm_eval_Lambda, hdef]
  show wpAny _ _ (do let dv ← evalAll [eval (.Constant (.int n) j0 p0) X.env]; let kdv ← holding dv (evalAllOpt []); makeFunction "<lambda>" (X.env.qual ++ "<lambda>") params (.expr body) scope X.env dv kdv [] pos pos.line) Q E s
  have hc : PE X (.Constant (.int n) j0 p0) (tC (.int n)) := pe_int
  refine wpAny_bind ?_
  unfold evalAll
  refine wpAny_bind (wpAny_mono (hc.run pins s σ H (fun v H' => v = .int n ∧ H' = H) I ⟨rfl, rfl⟩) (fun u s1 hh => ?_) hE)
  obtain ⟨v, H', I1, r1, rfl, rfl⟩ := hh
  unfold evalAll
  refine wpAny_bind (wpAny_holding (wpAny_pure (wpAny_pure (wpAny_bind (wpAny_holding (wpAny_pure ?_))))))
  rw [makeFunction_eq, hkw]
  simp only [List.zip_nil_right, List.zip_nil_left, List.filterMap_nil, List.isEmpty_nil, List.isEmpty_cons, if_true, Bool.false_eq_true, if_false, pure_bind]
  refine wpAny_bind (wpAny_newTextTuple ?_)
  obtain ⟨T0, hT0⟩ : ∃ T0, T0 = s1.heap.objs.size := ⟨_, rfl⟩
  have I2 : Inv X pins σ H' { s1 with heap := s1.heap.push (PySem.W.kdv_tup [u]) } := I1.kept fun b o e => Heap.get?_push_of_some _ e
  have g0 : (s1.heap.push (PySem.W.kdv_tup [u])).get? T0 = some (PySem.W.kdv_tup [u]) := by
    rw [hT0]
    exact Heap.get?_push_size _ rfl
  have z0 : H' T0 = none := I1.hok.fresh (Nat.le_of_eq hT0.symm)
  have nf : T0 ∉ frs X.stack := fun z => by
    rcases List.mem_cons.mp (I1.stkSub _ z) with e | e
    · have h1 := I1.lt
      rw [← e, hT0] at h1
      exact Nat.lt_irrefl _ h1
    · exact I1.nofs (Nat.le_of_eq hT0.symm) e
  rw [← hT0]
  obtain ⟨ps, hP, _, _⟩ := hT _ hm
  have nP : T0 ≠ P := fun w => by
    rw [w, hP] at z0
    cases z0
  refine mk_tail I2 TB hcode hm hu hT hfree fun f c' doc pm ctv H1 s' I3 eN T1 kp low hf hfn hfr hco => ?_
  have g1 := kp T0 _ nP g0
  have z1 : H1 T0 = none := low T0 z0 (by
    show T0 < (s1.heap.push _).objs.size
    rw [Heap.size_push, hT0]
    exact Nat.lt_succ_self _)
  refine h f c' (.ref T0) doc pm ctv [(f, lamO X params body scope (.ref T0) doc pm c' ctv), (T0, PySem.W.kdv_tup [u])] H1 s' I3 eN T1 ⟨List.mem_cons_self, fun p hp => ?_, hco, [(x, u)], fun s2 k2 => ?_, fun y hy => ?_⟩
  · rcases List.mem_cons.mp hp with e | e
    · subst e
      exact ⟨hf, hfn, hfr⟩
    · rw [List.mem_singleton] at e
      subst e
      exact ⟨g1, z1, nf⟩
  · obtain ⟨k, b1, b2⟩ := hbind (X.env.qual ++ "<lambda>") (clos X scope) T0 doc pm (.ref c') ctv u
    exact BindsTo.of_defaults (o := PySem.W.kdv_tup [u]) rfl (k2 (T0, _) (by simp)) rfl b1 b2
  · rw [List.mem_singleton] at hy
    subst hy
    exact hloc
end
end Wn
namespace Wn
open PySem PySem.Spec PyProof.Rows L2 LamX
section
variable {X : Cx} {pins : List (Addr × Obj)} {σ : L2.St} {H HZ : Hp} {s s1 : Shared}
/-- the lambda's body begins: bs its own names -/
theorem lamW_start {A : Around} {outer : List Env} {E : XK} {scope : Scope} {f c' : Addr} {h1 : Heap} {tk : Nat} {bs : List (Str × Value)} (I : Inv X pins σ H s) (L : LamD X.N X.env.scope scope) (e0 : Env0 X.prog X.w X.K X.mg X.base A outer s1 HZ) (hd : A.handled = none)
    (un : Un (frs X.stack) [] H HZ s.heap s1.heap) (hns : h1.Ns s1.heap.objs.size fun y => bs.reverse.lookup y) (kp : ∀ b o, s1.heap.get? b = some o → h1.get? b = some o) :
    Inv (lamCx X A outer s1 HZ E scope f c') [] σ HZ { s1 with heap := h1, toks := tk } := by
  have hfree := L.has I.ok
  have up : ∀ {y c}, (cloFrom X.env.cells scope.names []).lookup y = some c → X.env.cells.lookup y = some c := fun {y c} e => by
    rcases cloFrom_mem (PySem.mem_of_lookup e) with z | ⟨z1, z2⟩
    · cases z
    · obtain ⟨c1, hc⟩ := hfree _ z1 rfl
      have hc : X.env.cells.lookup y = some c1 := hc
      rw [show c = c1 by rw [z2, hc] <;> rfl]
      exact hc
  have down : ∀ {y}, scope.names.lookup y = some .free → ∃ c, (cloFrom X.env.cells scope.names []).lookup y = some c := fun {y} hl => by
    have hy : (y, NameKind.free) ∈ scope.names := PySem.mem_of_lookup hl
    exact mem_lookup (cloFrom_has (cells := X.env.cells) (acc := []) hy)
  have cellK : ∀ {c : Addr} {v : Option Value}, H c = none → s.heap.IsCell c v → h1.IsCell c v := fun {c v} n ⟨o, ho, hd⟩ => by
    obtain ⟨sl, q⟩ := un.any ho n (by simp)
    exact ⟨_, kp _ _ q, hd⟩
  have ex0 : ∀ b : Addr, b ∉ (lamCx X A outer s1 HZ E scope f c').ex := fun b z => absurd (show b ∈ ([] : List Addr) from z) (by simp)
  refine ⟨⟨e0.mod, L.kind, rfl, rfl, Nat.le_refl _, fun y z c e1 e2 => I.ok.inj y z c (up e1) (up e2), fun y hy => ?_, fun y c z _ => ?_, fun _ => hd, Around.frames_deeper e0.frames, .inr ⟨rfl, rfl⟩, fun b z => absurd z (ex0 b), e0.bs, e0.bsz, fun b _ _ => ex0 b,
      fun b z => absurd z (ex0 b), e0.funs, e0.frf⟩,
    rfl, e0.bare, Un.kept kp, ⟨_, hns, fun i y v e1 e2 e3 => ?_⟩, fun y c e => ?_, e0.hok.fresh (Nat.le_refl _), fun y c e => ?_, fun q hq => absurd (show q ∈ ([] : List (Addr × Obj)) ++ [] from hq) (by simp), e0.hok.kept kp, I.len⟩
  · have hy : scope.names.lookup y = some .cell ∨ scope.names.lookup y = some .free := hy
    rcases hy with hy | hy
    · exact absurd rfl (L.own _ (PySem.mem_of_lookup hy)).1
    · exact down hy
  · have z : false = true := z
    cases z
  · have e3 : Vis scope y := e3
    rcases e3 with k | k | k
    · exact absurd (List.mem_iff_getElem?.mpr ⟨i, e1⟩) ((L.own _ (PySem.mem_of_lookup k)).2 rfl)
    · exact absurd rfl (L.own _ (PySem.mem_of_lookup k)).1
    · obtain ⟨m, hn, hl⟩ := I.loc
      have hvis : Vis X.env.scope y := (L.free _ (PySem.mem_of_lookup k) rfl).elim (fun k => .inr (.inl k)) (fun k => .inr (.inr k))
      obtain ⟨w', r, q⟩ := hl i y v e1 e2 hvis
      obtain ⟨c2, h2⟩ := down k
      refine ⟨w', r, .inr ⟨.inr k, c2, h2, ?_⟩⟩
      have c1 := up h2
      rcases q with ⟨k', _⟩ | ⟨_, c3, e', z⟩
      · have k' : X.env.scope.names.lookup y = some .local := k'
        rcases L.free _ (PySem.mem_of_lookup k) rfl with k2 | k2 <;> rw [show X.env.scope.names.lookup y = _ from k2] at k' <;> cases k'
      · rw [c1] at e'
        cases e'
        exact cellK (I.freeC y _ c1) z
  · obtain ⟨w', z⟩ := I.cell y c (up e)
    exact ⟨w', cellK (I.freeC y c (up e)) z⟩
  · obtain ⟨v, o, ho, hd⟩ := I.cell y c (up e)
    exact un.free c o ho (I.freeC y c (up e)) (by simp)
/-- x(), in the def that got the lambda; what is raised is wished for at its slots -/
theorem pe_actW {CXg : CXT} {Eg : XK} {Ng : List Str} {qg : Str} {sg : Scope} {g f c' : Addr} {cdg dV doc pm ctv : Value} {params : Arguments} {body : Expr} {scope : Scope} {D : List (Addr × Obj)} {k i : Nat} {a : Str} {pn : List (Addr × Obj)} {xe : Value → Shared → Prop} {W : WX} {tb : XK → TE} {p1 p2 : Pos}
    (I : Inv X pins σ H s) (L : LamD X.N X.env.scope scope) (M : Made X H s params body scope f c' dV doc pm ctv D)
    (tk : Takes ((cxOf CXg X.prog X.w X.K X.mg X.base Ng qg sg g cdg X.A X.stack s H Eg).tr pn xe) W) (hr : Room (k + 1) (X.A.deeper (envOfC qg sg s.heap.objs.size g cdg)))
    (hbody : ∀ (A : Around) (outer : List Env) (s : Shared) (H : Hp) (E : XK), Room k (A.deeper (lamEnv X scope s.heap.objs.size f c')) → PE (lamCx X A outer s H E scope f c') body (tb E))
    (hN : Ng[i]? = some a) (hv : Vis sg a) (hd : (a == ("__debug__" : Str)) = false := by decide) (hcd : (a == ("__classdict__" : Str)) = false := by decide) :
    PE ((cxOf CXg X.prog X.w X.K X.mg X.base Ng qg sg g cdg X.A X.stack s H Eg).tr pn xe) (.Call (.Name a p1) [] [] p2)
      (fun σZ HZ Q => σZ[i]? = some (some (.ref f)) ∧ HZ c' = some (CodeO c' (X.env.qual ++ "<lambda>")) ∧ ∃ E : XK, (∀ cls d H', E cls d H' → W cls d σZ H') ∧ tb E σ HZ Q) := by
  refine ⟨fun pinsZ sZ σZ HZ Q IZ h => ?_⟩
  obtain ⟨hs, hc, E, hW, ht⟩ := h
  refine wpAny_Call_Name_kw (thn ((pe_var (pos := p1) (i := i) hN hv hd hcd).run pinsZ sZ σZ HZ (fun v H1 => v = .ref f ∧ H1 = HZ) IZ ⟨.ref f, hs, rfl, rfl⟩) fun u s1 hh => ?_)
  obtain ⟨v, H1, I1, r1, ev, eH⟩ := hh
  subst ev
  rw [eH] at I1
  obtain rfl : u = Value.ref f := r1
  have un : Un (frs X.stack) [] H HZ s.heap s1.heap := I1.base
  have stay : ∀ p ∈ D, s1.heap.get? p.1 = some p.2 := fun p hp => un.keep _ _ (M.there p hp).1 (M.there p hp).2.1 (M.there p hp).2.2 (by simp)
  have of1 := stay _ M.at_
  refine PySem.W.callWith_F0 ⟨_, _, _, _, of1⟩ ?_
  obtain ⟨⟨oc, vs, t, hoc, hdc, hvc⟩, _, _⟩ := I1.hok c' _ hc
  obtain ⟨bs, hbind, hloc⟩ := M.binds
  have rc : codeAny (model X.prog X.w) (X.A.deeper (envOfC qg sg s.heap.objs.size g cdg)) (.call (.ref f) ⟨[], []⟩) (CR (L2.CX X.prog X.w) (envOfC qg sg s.heap.objs.size g cdg :: X.stack) X.prog X.w HZ s1 Q E) s1 := by
    refine PySem.W.kla_callFunE hr.depth of1 rfl L.co L.gen rfl ⟨c', oc, vs, t, rfl, hoc, hdc, hvc⟩ (hbind s1 stay _ _ _ _ ?_)
    refine wpAny_newFunctionEnv (fun y hy => (L.own y hy).1) hloc (fun h1 hns hsb => ⟨I1.nolimit.fresh _ hsb, ?_⟩) L.kind
    show codeAny _ _ (.expr body (lamEnv X scope s1.heap.objs.size f c')) _ _
    have kp : ∀ b o, s1.heap.get? b = some o → h1.get? b = some o := fun b o e => hsb.extBut b o (Nat.ne_of_lt (Heap.lt_size e)) (Heap.get?_push_of_some _ e)
    have J : Inv (lamCx X (X.A.deeper (envOfC qg sg s.heap.objs.size g cdg)) (envOfC qg sg s.heap.objs.size g cdg :: X.stack) s1 HZ E scope f c') [] σ HZ { s1 with heap := h1, toks := s1.toks + bs.length } :=
      lamW_start I L I1.env0 hr.hd un hns kp
    refine PySem.W.kla_codeExpr (wpAny_mono ((hbody _ _ s1 HZ E (hr.deeper _)).run [] _ _ HZ Q J ht) (fun v s' hq => ?_) fun e s' hq => hq)
    obtain ⟨w', H', J', rv, q⟩ := hq
    exact ⟨w', H', J'.os, J'.bare, J'.base, J'.hok, rv, q⟩
  refine wpAny_call (codeAny_mono rc fun r s' hq => ?_)
  match r, hq with
  | .error e, hq => exact tk e s' (XE.of_call I1 hW hq)
  | .ok (.ret u), hq => exact I1.after hq
  | .ok .next, hq => exact hq.elim
  | .ok .brk, hq => exact hq.elim
  | .ok .cont, hq => exact hq.elim
end
/-- how a lambda is made here -/
def MkLam (X : Cx) (T : List (Addr × Str)) (params : Arguments) (body : Expr) (scope : Scope) (lpos : Pos) : Prop :=
  ∀ (pins : List (Addr × Obj)) (σ : L2.St) (H : Hp) (s : Shared) (Q : Value → Shared → Prop), Inv X pins σ H s → Tabs T H →
    (∀ (f c' : Addr) (dV doc pm ctv : Value) (D : List (Addr × Obj)) (H1 : Hp) (s' : Shared), Inv X pins σ H1 s' → ExtN H H1 → Tabs T H1 → Made X H1 s' params body scope f c' dV doc pm ctv D → Q (.ref f) s') →
    wpAny (model X.prog X.w) X.A (eval (.Lambda params body scope lpos) X.env) Q X.xe s
/-- the def that calls what it got: a calls it; TT: what it makes of the lambda's reading -/
def Gives (X : Cx) (Ng : List Str) (x : Str) (sg : Scope) (g : Addr) (cdg : Value) (bg : List Stmt) (a : Str) (q : Str) (TT : (XK → Hp → VK → Prop) → Hp → VK → Prop) : Prop :=
  ∀ (f c' : Addr) (s : Shared) (H : Hp) (Q : VK) (tl : XK → Hp → VK → Prop), Room 1 (X.A.deeper (envOfC x sg s.heap.objs.size g cdg)) →
    (∀ (W : WX) (pn : List (Addr × Obj)) (xe : Value → Shared → Prop) (p1 p2 : Pos), Takes ((cxOf CX0 X.prog X.w X.K X.mg X.base Ng x sg g cdg X.A X.stack s H E0).tr pn xe) W →
      PE ((cxOf CX0 X.prog X.w X.K X.mg X.base Ng x sg g cdg X.A X.stack s H E0).tr pn xe) (.Call (.Name a p1) [] [] p2) (fun σZ HZ Q => σZ[0]? = some (some (.ref f)) ∧ HZ c' = some (CodeO c' q) ∧ ∃ E : XK, (∀ cls d H', E cls d H' → W cls d σZ H') ∧ tl E HZ Q)) →
    H c' = some (CodeO c' q) → TT tl H Q →
    ∃ t, PSs (cxOf CX0 X.prog X.w X.K X.mg X.base Ng x sg g cdg X.A X.stack s H E0).nox bg t ∧ t { nx := fun _ H' => Q .non H', rt := Q } (L2.start Ng [.ref f]) H
section
variable {X : Cx}
/-- x(lambda: body) -/
theorem pe_outc {T : List (Addr × Str)} {TT : (XK → Hp → VK → Prop) → Hp → VK → Prop} {x a : Str} {g : Addr} {k : Nat} {st : Stmt} {fd : FuncData} {Ng : List Str} {cdg : Value}
    {params : Arguments} {body : Expr} {scope : Scope} {t : XK → TE} {p lpos pos : Pos} (hg : Gl X x) (hm : X.mg x = some (.ref g)) (hk : PySem.W.keepIn X.K (.ref g) = true) (F : Fun X.K x x st g fd) (hcd : fd.code = cdg) (hb : L2.Binds X.K fd [a] []) (Sg : FnScope Ng [a] (defScope st)) (hNg : Ng[0]? = some a) (hva : Vis (defScope st) a)
    (hG : Gives X Ng x (defScope st) g cdg (defBody st) a (X.env.qual ++ "<lambda>") TT) (ML : MkLam X T params body scope lpos) (hr : Room (k + 2) X.A) (L : LamD X.N X.env.scope scope)
    (hbody : ∀ (A : Around) (outer : List Env) (s : Shared) (H : Hp) (E : XK) (f c' : Addr), Room k (A.deeper (lamEnv X scope s.heap.objs.size f c')) → PE (lamCx X A outer s H E scope f c') body (t E))
    (hdb : (x == ("__debug__" : Str)) = false := by decide) (hd : (a == ("__debug__" : Str)) = false := by decide) (hcc : (a == ("__classdict__" : Str)) = false := by decide) :
    PE X (.Call (.Name x p) [.Lambda params body scope lpos] [] pos) (tLam T TT t) := by
  refine ⟨fun pins s σ H Q I h => ?_⟩
  obtain ⟨hT, h⟩ := h
  obtain ⟨oc, od, kV, doc0, pm0, an, cdv, ct, osl, rfl, lk, hcg⟩ := F.ex
  obtain rfl : cdv = cdg := hcd
  refine wpAny_Call_Name_kw (ld_glob I hg hm ?_ hdb)
  refine PySem.W.callWith_K (h₀ := X.base) I.ok.mod.kin hk ?_ (by rfl) (by rfl)
  show wpAny _ _ (spliced ((false, eval (.Lambda params body scope lpos) X.env) :: backTo pos (starEach [] X.env))) _ _ s
  refine Calls.spliced_cons (ML pins σ H s _ I hT fun f c' dV doc pm ctv D H1 s' I1 eN T1 M => ?_)
  refine Calls.spliced_nil ⟨I1.kIn, ?_⟩
  have rc : codeAny (model X.prog X.w) X.A (.call (.ref g) ⟨[.ref f], []⟩) (CR CX0 X.stack X.prog X.w H1 s' Q E0) s' := by
    refine run_ofS (N := Ng) (ps := [a]) (us := [.ref f]) (vs := [.ref f]) lk hcg Sg hr I1.env0 (hb s' [.ref f] I1.kIn rfl) (.cons rfl .nil) rfl fun hr' => ?_
    obtain ⟨t', ht', hq'⟩ := hG f c' s' H1 Q (fun E H' Q' => t E σ H' Q') (hr'.mono (by omega)) (fun W pn xe p1 p2 tk => pe_actW (i := 0) I1 L M tk hr' (fun A outer s H E hr2 => hbody A outer s H E f c' hr2) hNg hva hd hcc) M.code (h H1 eN T1)
    exact ⟨t', ht'.nox, hq'⟩
  refine wpAny_call (codeAny_mono rc fun r s2 hq => ?_)
  match r, hq with
  | .error e, hq => exact (show False from hq).elim
  | .ok (.ret u), hq => exact I1.after hq
  | .ok .next, hq => exact hq.elim
  | .ok .brk, hq => exact hq.elim
  | .ok .cont, hq => exact hq.elim
end
end Wn
/-! a law whose defs make lambdas: the end, by the tables of their code -/
namespace Wn
open PySem PySem.Spec PyProof.Rows L2 LamX
/-- a def by its body, its code told -/
theorem fnGc {P : Program} {w : World} {K : PySem.W.Frag} {mg : Str → Option Value} {base : Heap} {CX : CXT} {k : Nat} {f : Addr} {fd : FuncData} {ps : List Str} {sp : Sp} {x qual : Str} {st : Stmt} {N : List Str} (F : Fun K x qual st f fd) (S : FnScope N ps (defScope st)) (sz : ∀ vs H Q E, sp vs H Q E → vs.length = ps.length)
    (body : ∀ (cdv : Value) (A : Around) (outer : List Env) (s : Shared) (H : Hp) (vs : List V) (Q : VK) (E : XK), fd.code = cdv → (A.deeper (envOfC qual (defScope st) s.heap.objs.size f cdv)).guards = some [] →
      Room k (A.deeper (envOfC qual (defScope st) s.heap.objs.size f cdv)) → sp vs H Q E →
      ∃ t, PSs (cxOf CX P w K mg base N qual (defScope st) f cdv A outer s H E) (defBody st) t ∧ t { nx := fun _ H' => Q .non H', rt := Q } (L2.start N vs) H) : FnG P w K mg base CX (k + 1) f fd ps sp := by
  obtain ⟨oc, od, kV, doc, pm, an, cdv, ct, osl, rfl, lk, hcd⟩ := F.ex
  refine ⟨sz, fun A hgd hr outer s H args us vs Q E e0 hb r h => ?_⟩
  have KI : K.In s.heap := e0.mod.kin.keeps fun b o e => (e0.bs b o e).1
  have NL : s.heap.NoLimit := e0.mod.nolimit.keeps fun b o e => (e0.bs b o e).1
  refine codeAny_call_function hr.depth (KI _ _ lk) rfl S.co S.gen rfl (PySem.W.codeRec_of KI hcd) (hb _ _ _ _ ?_)
  refine wpAny_newFunctionEnv_cells S.kind (fun y hy => ?_) fun env he s1 x => ?_
  · obtain ⟨n, v⟩ := y
    rcases S.par n (List.of_mem_zip hy).1 with q | q
    · exact .inl q
    · exact .inr ⟨q, PySem.W.cellsFrom_some _ _ _ (.inl q)⟩
  · subst he
    refine ⟨NL.keeps x.toInCall.keep, codeAny_func ?_⟩
    obtain ⟨t, ht, hq⟩ := body cdv A outer s H vs Q E rfl hgd (hr.deeper _) h
    refine wpAny_mono (ht.run [] s1 _ H _ (inv_start S hr.hd e0 (sz _ _ _ _ h) r x) hq) (fun fl s' z => ?_) fun e s' z => z
    cases fl with
    | ret u =>
      obtain ⟨v, σ', H', J, rv, q⟩ := z
      exact ⟨v, H', J.os, J.bare, J.base, J.hok, rv, q⟩
    | next =>
      obtain ⟨σ', H', J, q⟩ := z
      exact ⟨.non, H', J.os, J.bare, J.base, J.hok, rfl, q⟩
    | brk =>
      obtain ⟨_, _, _, q⟩ := z
      exact q.elim
    | cont =>
      obtain ⟨_, _, _, q⟩ := z
      exact q.elim
theorem fnGc0 {P : Program} {w : World} {K : PySem.W.Frag} {mg : Str → Option Value} {base : Heap} {k : Nat} {f : Addr} {fd : FuncData} {ps : List Str} {sp : Sp} {x qual : Str} {st : Stmt} {N : List Str} (F : Fun K x qual st f fd) (S : FnScope N ps (defScope st)) (sz : ∀ vs H Q E, sp vs H Q E → vs.length = ps.length)
    (body : ∀ (cdv : Value) (A : Around) (outer : List Env) (s : Shared) (H : Hp) (vs : List V) (Q : VK) (E : XK), fd.code = cdv → (A.deeper (envOfC qual (defScope st) s.heap.objs.size f cdv)).guards = some [] →
      Room k (A.deeper (envOfC qual (defScope st) s.heap.objs.size f cdv)) → sp vs H Q E →
      ∃ t, PSs (cxOf CX0 P w K mg base N qual (defScope st) f cdv A outer s H E).nox (defBody st) t ∧ t { nx := fun _ H' => Q .non H', rt := Q } (L2.start N vs) H) : FnG P w K mg base CX0 (k + 1) f fd ps sp :=
  fnGc F S sz fun cdv A outer s H vs Q E hc g r h => let ⟨t, ht, q⟩ := body cdv A outer s H vs Q E hc g r h; ⟨t, ht.nox, q⟩
/-- the law's call; cs: the code objects and their tables -/
theorem law_callGT {P : Program} {w : World} {K : PySem.W.Frag} {mg mb : Str → Option Value} {CX : CXT} {k : Nat} {fa a : Addr} {cs : List (Addr × Addr)} {fd : FuncData} {x : Str} {sp : Sp} {s1 : Shared} {vs : List Value} {ns : List Int}
    (KX : K.In s1.heap) (hns : s1.heap.Ns mainGlobals mg) (hb : s1.heap.Ns builtinsNs mb) (hbb : ∀ x : Str, x ≠ "__name__" → mb x = bootBuiltins x) (hlim : s1.heap.NoLimit) (hg : s1.gens = #[])
    (hT : ∀ p ∈ cs, s1.heap.get? p.2 = some { cls := .none, data := .fields #[] }) (nT : ∀ p ∈ cs, K.lookup p.2 = none) (C : ∀ p ∈ cs, PySem.W.CodeHd s1.heap p.1 p.2)
    (hbm : ∃ (bm : Addr) (ob : Obj), mg "__builtins__" = some (.ref bm) ∧ bm ≠ builtinsNs ∧ s1.heap.get? bm = some ob ∧ ob.cls = .type "module" ∧ ob.dict = some builtinsNs ∧ ob.data = .plain)
    (ha : s1.heap.get? a = some { cls := .type "list", data := .seq vs.toArray }) (hi : IntsAre vs ns) (hl : ns.length ≤ sizeLine) (hr : Room k callerA)
    (F : ∀ base : Heap, K.In base → base.Ns mainGlobals mg → (∀ p ∈ cs, TabB base mg p.1 p.2) → FnG P w K mg base CX k fa fd [x] sp) (hbind : ∀ (s : Shared) (u : Value), BindsTo s fd ⟨[u], []⟩ [(x, u)])
    (hsp : ∀ H : Hp, (∀ p ∈ cs, H p.2 = some (.tbl #[])) → SqL K H a (ns.map V.int) → sp [.ref a] H (fun v _ => v = .bl true) fun _ _ _ => False)
    (hCX : ∀ H e s', CX [] H s1 (fun _ _ _ => False) e s' → False) :
    codeAny (model P w) callerA (.call (.ref fa) ⟨[.ref a], []⟩) (fun r s' => r = .ok (.ret (.bool true)) ∧ OldK s1.heap s'.heap ∧ s'.os = s1.os ∧ AllBare s'.gens) s1 := by
  obtain ⟨ts, hts⟩ : ∃ ts, ts = cs.map (·.2) := ⟨_, rfl⟩
  have inT : ∀ {p : Addr × Addr}, p ∈ cs → p.2 ∈ ts := fun hp => by
    rw [hts]
    exact List.mem_map.mpr ⟨_, hp, rfl⟩
  have outT : ∀ {b : Addr}, b ∈ ts → s1.heap.get? b = some { cls := .none, data := .fields #[] } ∧ K.lookup b = none := fun hb => by
    rw [hts] at hb
    obtain ⟨p, hp, e⟩ := List.mem_map.mp hb
    rw [← e]
    exact ⟨hT p hp, nT p hp⟩
  have na : a ∉ ts := fun z => by
    have q := (outT z).1
    rw [ha] at q
    cases q
  obtain ⟨H, hH⟩ : ∃ H : Hp, H = fun b => if b ∈ ts then some (.tbl #[]) else if b = a ∧ K.lookup a = none then some (.frz { cls := .type "list", data := .seq vs.toArray } (.lst (ns.map V.int))) else none := ⟨_, rfl⟩
  have at_ : ∀ b u, H b = some u → (b ∈ ts ∧ u = .tbl #[]) ∨ (b = a ∧ K.lookup a = none ∧ u = .frz { cls := .type "list", data := .seq vs.toArray } (.lst (ns.map V.int))) := fun b u z => by
    rw [hH] at z
    dsimp only at z
    split at z
    · rename_i c
      exact .inl ⟨c, (Option.some.inj z).symm⟩
    · split at z
      · rename_i c
        exact .inr ⟨c.1, c.2, (Option.some.inj z).symm⟩
      · cases z
  have off : ∀ b o, s1.heap.get? b = some o → (∀ n, o.data ≠ .seq vs.toArray n) → o.data ≠ .fields #[] → H b = none := fun b o e d d2 => by
    cases z : H b with
    | none => rfl
    | some u =>
      rcases at_ b u z with ⟨w1, _⟩ | ⟨rfl, _, _⟩
      · rw [(outT w1).1] at e
        cases e
        exact absurd rfl d2
      · rw [ha] at e
        cases e
        exact absurd rfl (d _)
  have kb : ∀ b o, K.lookup b = some o → H b = none := fun b o e => by
    cases z : H b with
    | none => rfl
    | some u =>
      rcases at_ b u z with ⟨w1, _⟩ | ⟨rfl, z2, _⟩
      · rw [(outT w1).2] at e
        cases e
      · rw [z2] at e
        cases e
  have ok : HOk P w H s1.heap := fun b u z => by
    rcases at_ b u z with ⟨w1, rfl⟩ | ⟨rfl, _, rfl⟩
    · exact (outT w1).1
    · exact ⟨ha, by rw [List.length_map]; exact hl, vs, _, vals_ints hi, ha⟩
  have sq : SqL K H a (ns.map V.int) := by
    cases z : K.lookup a with
    | none =>
      refine .inl (.inr ⟨{ cls := .type "list", data := .seq vs.toArray }, ?_⟩)
      rw [hH]
      dsimp only
      rw [if_neg na]
      exact if_pos ⟨rfl, z⟩
    | some o =>
      have e := KX a o z
      rw [ha] at e
      cases e
      exact .inr ⟨_, vs.toArray, _, z, rfl, rfl, rfl, by rw [List.size_toArray, hi.length]; exact hl, by simpa using vals_ints hi⟩
  have tabs : ∀ p ∈ cs, H p.2 = some (.tbl #[]) := fun p hp => by
    rw [hH]
    exact if_pos (inT hp)
  have nsB : ∀ {b : Addr} {m : Str → Option Value}, s1.heap.Ns b m → (hidT s1.heap H).Ns b m := fun {b m} ⟨o, es, ep, e, d, r⟩ => ⟨o, es, ep, hidT_get e (off b o e (fun n z => by rw [d] at z; cases z) fun z => by rw [d] at z; cases z), d, r⟩
  have KB : K.In (hidT s1.heap H) := fun b o e => hidT_get (KX b o e) (kb b o e)
  have M : Mod K mg (hidT s1.heap H) := ⟨KB, nsB hns, ⟨mb, nsB hb, hbb⟩, let ⟨mc, h1, h2⟩ := hlim; ⟨mc, nsB h1, h2⟩⟩
  have TB : ∀ p ∈ cs, TabB (hidT s1.heap H) mg p.1 p.2 := fun p hp => by
    have g0 := hT p hp
    refine ⟨?_, ?_, fun z => ?_⟩
    · obtain ⟨o, us, file, tf, flags, tg, inF, text, tt, e1, r1, r2, r3, r⟩ := C p hp
      refine ⟨o, us, file, tf, flags, tg, inF, text, tt, hidT_get e1 (off _ _ e1 (fun n z => ?_) fun z => ?_), r1, r2, r3, r⟩
      · rw [r2] at z
        cases z
      · rw [r2] at z
        cases z
        simp at r3
    · obtain ⟨bm, ob, b1, b2, b3, b4, b5, b6⟩ := hbm
      have nG : bm ≠ mainGlobals := fun q => by
        obtain ⟨o, es, ep, e, hd, _⟩ := hns
        rw [q, e] at b3
        cases b3
        rw [hd] at b6
        cases b6
      have nP : bm ≠ p.2 := fun q => by
        rw [q, g0] at b3
        cases b3
        cases b6
      exact ⟨bm, ob, b1, b2, nG, nP, hidT_get b3 (off _ _ b3 (fun n z => by rw [b6] at z; cases z) fun z => by rw [b6] at z; cases z), b4, b5, b6⟩
    · obtain ⟨o, es, ep, e, hd, _⟩ := hns
      rw [z, g0] at e
      cases e
      cases hd
  have env : Env0 P w K mg (hidT s1.heap H) callerA [] s1 H := ⟨rfl, M, fun b o e => of_hidT e, Nat.le_of_eq (hidT_size _ _), trivial, fun b z => absurd (show b ∈ ([] : List Addr) from z) (by simp), ok, .of_eq hg⟩
  refine codeAny_mono ((F _ KB (nsB hns) TB).go callerA rfl hr [] s1 H ⟨[.ref a], []⟩ [.ref a] [.ref a] _ _ env (hbind s1 (.ref a)) (.cons rfl .nil) (hsp H tabs sq)) fun r s' z => ?_
  match r, z with
  | .error e, z => exact (hCX H e s' z).elim
  | .ok .next, z => exact z.elim
  | .ok .brk, z => exact z.elim
  | .ok .cont, z => exact z.elim
  | .ok (.ret u), z =>
    obtain ⟨v, H', os, bare, un, ok', rv, q⟩ := z
    obtain rfl : v = .bl true := q
    obtain rfl : u = Value.bool true := rv
    have grown : ∀ p ∈ cs, ∃ more : Array Value, s'.heap.get? p.2 = some { cls := .none, data := .fields more } := fun p hp => by
      obtain ⟨more, z⟩ := un.tbls p.2 #[] (tabs p hp)
      exact ⟨_, ok' p.2 _ z⟩
    have same : ∀ b o, b ∉ ts → s1.heap.get? b = some o → s'.heap.get? b = some o := fun b o nb e => by
      cases y : H b with
      | none => exact un.keep b o e y (fun c => absurd (show b ∈ ([] : List Addr) from c) (by simp)) (by simp)
      | some u =>
        rcases at_ b u y with ⟨w1, _⟩ | ⟨rfl, _, rfl⟩
        · exact absurd w1 nb
        · rw [ha] at e
          cases e
          exact (ok' _ _ (un.frzs _ _ _ y)).1
    refine ⟨rfl, ⟨fun b o e => ?_, fun b o e => ?_⟩, os, bare⟩
    · by_cases w1 : b ∈ ts
      · have w2 := w1
        rw [hts] at w2
        obtain ⟨p, hp, ep⟩ := List.mem_map.mp w2
        obtain ⟨more, hm⟩ := grown p hp
        rw [← ep] at e ⊢
        rw [hT p hp] at e
        cases e
        exact .inr (.inl ⟨((C p hp).tab (hT p hp)).isCodeTable, rfl, #[], more, rfl, by rw [Array.empty_append]; exact hm⟩)
      · exact .inl (same b o w1 e)
    · by_cases w1 : b ∈ ts
      · rw [hts] at w1
        obtain ⟨p, hp, ep⟩ := List.mem_map.mp w1
        obtain ⟨more, hm⟩ := grown p hp
        rw [← ep]
        exact ⟨_, hm⟩
      · exact ⟨o, same b o w1 e⟩
theorem walkGT {l : PySem.W.OpenLaw} {n k : Nat} {q : Program} {loose : List Str} {XP : (Str → Option Value) → Heap → Prop} {YP : World → Heap → Prop} {d : DefRec} {K : Params → PySem.W.Frag} {x : Str} {xs : List Str}
    (hn : l.most = some n) (hn2 : n ≤ sizeLine) (hdf : d.params.defaults = []) (hr : Room k callerA) (hxs : xs.all (fun y => ((recsOf q).find? fun e => e.name == y).isSome) = true) (hY : ∀ (w : World) (h : Heap), YP w h → (K w.params).In h)
    (F : ∀ (w : World) (mg : Str → Option Value) (fa : Addr) (h : Heap), (K w.params).In h → h.Ns mainGlobals mg → mg d.name = some (.ref fa) →
      ∃ (fd : FuncData) (cs : List (Addr × Addr)) (sp : Sp), (∀ p ∈ cs, (∃ y ∈ xs, PySem.W.tabIn (K w.params) y = some p) ∧ (K w.params).lookup p.2 = none) ∧ (∀ (s : Shared) (u : Value), BindsTo s fd ⟨[u], []⟩ [(x, u)]) ∧
        (∀ (H : Hp) (a : Addr) (ns : List Int), ns.length ≤ n → (∀ p ∈ cs, H p.2 = some (.tbl #[])) → SqL (K w.params) H a (ns.map V.int) → sp [.ref a] H (fun v _ => v = .bl true) fun _ _ _ => False) ∧
        ∀ base : Heap, (K w.params).In base → base.Ns mainGlobals mg → (∀ p ∈ cs, TabB base mg p.1 p.2) → FnG l.prog w (K w.params) mg base CX0 k fa fd [x] sp) :
    PySem.W.WalkO q loose XP YP l.row.toRowW d [] (fun f vs => PySem.call f vs) :=
  Att.attach_call hn hdf fun w s0 s1 mg mb fa o pm cd doc a vs ns G Y ho hd hcd hmg hobj hints hlen hg => by
    have KX := hY w _ Y
    obtain ⟨fd, cs, sp, hc, hb, hsp, hF⟩ := F w mg fa _ KX G.T.g hmg
    have tab : ∀ p ∈ cs, PySem.W.CodeHd s1.heap p.1 p.2 ∧ s1.heap.get? p.2 = some { cls := .none, data := .fields #[] } := fun p hp => by
      obtain ⟨⟨y, hy, e⟩, _⟩ := hc p hp
      have z := List.all_eq_true.mp hxs y hy
      obtain ⟨d2, e2⟩ := Option.isSome_iff_exists.mp z
      exact PySem.W.tab_of G.T KX e2 e
    exact law_callGT KX G.T.g G.T.b G.T.builtins G.T.nolimit hg (fun p hp => (tab p hp).2) (fun p hp => (hc p hp).2) (fun p hp => (tab p hp).1) G.T.bmain hobj hints (Nat.le_trans hlen hn2) hr hF hb (fun H hT hS => hsp H a ns hlen hT hS) fun H e s' z => z
end Wn
/-! C(e) for an error whose __init__ keeps e in its one field; raise C(e) -/
namespace Wn
open PySem PySem.Spec PyProof.Rows L2
def spInit (C : Addr) (f : Str) : Sp := fun vs H Q _ => ∃ (a : Addr) (v : V), vs = [.ref a, v] ∧ H a = some (exo a C none) ∧ ∀ d, H d = none → d ≠ a → Q .non (upd (upd H d (exd d [(f, v)])) a (exo a C (some d)))
section
variable {X : Cx} {o e : Expr} {to te : TE} {f x : Str} {p p' p1 p2 pos : Pos} {C fI W : Addr} {B newId initId : String} {bmB : List Value} {mc : Value} {wn : Str}
theorem ps_ostE (T : ErrC X.K C fI f B newId initId bmB) (ho : PE X o to) (he : PE X e te) (hs : swapsWith e (some (.Attribute o f p')) pos.line X.env = pure false := by rfl) : PS X (.Assign [.Attribute o f p'] e pos) (tOstE X.K C f to te) := by
  refine ⟨fun pins s σ H D I h => plainObj_wpAny_Assign_Attribute (thn (he.run pins s σ H _ I h) fun v s1 z1 => ?_) hs⟩
  obtain ⟨y, H1, I1, r1, q1⟩ := z1
  refine thn (ho.run pins s1 σ H1 _ I1 q1) fun u s2 z2 => ?_
  obtain ⟨w, H2, I2, r2, a, ew, ea, q⟩ := z2
  subst ew
  obtain rfl : u = Value.ref a := r2
  exact ostE T I2 ea r1 fun dx s' n ne J => ⟨σ, _, J, q dx n ne⟩
/-- the built-in class's own name -/
theorem pe_initB {es : List Expr} {ta : TA} {pl : Sem Bool} (T : ErrC X.K C fI f B newId initId bmB) (hg : Gl X wn) (hm : X.mg wn = none) (hv : bootBuiltins wn = some (.type B)) (hnn : wn ≠ "__name__") (hdb : (wn == ("__debug__" : Str)) = false) (ty : typeOf (.type B) = pure (.type "type")) (stub : Manifest.isStub B = false)
    (at_ : PySem.W.findCls X.K (.type B) (.type "type") "__init__" = some (.val (.builtin initId))) (hh : PySem.W.handedIn (.builtin initId) = true) (ha : PA X (e :: es) ta)
    (hc : eval (.Call (.Attribute (.Name wn p1) "__init__" p2) (e :: es) [] pos) X.env = (do
      let ov ← eval (.Name wn p1) X.env
      standAt p2.atName
      let (f, first) ← holding [ov] (getMethod ov "__init__" pl)
      callWith pos f first (backTo pos (starEach (e :: es) X.env)) (backToKw pos (keywordEach [] X.env))) := by rfl)
    (he : starEach (e :: es) X.env = (false, eval e X.env) :: starEach es X.env := by rfl) (hpl : (backTo pos (starEach es X.env)).any (·.1) = false := by rfl) :
    PE X (.Call (.Attribute (.Name wn p1) "__init__" p2) (e :: es) [] pos) (tInitE X.K C ta) := by
  refine ⟨fun pins s σ H Q I h => ?_⟩
  refine PySem.W.methodCall_KW (ld_blt I hg hm hv ?_ hnn hdb) hc
  obtain ⟨m, fr⟩ := I.fr
  refine PySem.W.method_type fr I.ok.mod.kin ty stub at_ hh ?_
  show wpAny _ _ (callWith pos (Value.builtin initId) [] (backTo pos (starEach (e :: es) X.env)) []) _ _ _
  exact call_initE (pl := pl) T ha (I.tok _) h he hpl
end
/-- what such a making asks, once its one value is there -/
theorem mk1_go {C : Addr} {f : Str} {v : V} {H1 : Hp} {Q : XK} (h : ∀ d, H1 d = none → Q (.ref C) (some d) (upd H1 d (.xd [(f, v)]))) :
    [v].length ≤ 1000 ∧ ∀ a, H1 a = none → spInit C f (.ref a :: ([v] ++ [])) (upd H1 a (exo a C none))
      (fun u H2 => u = .non ∧ ∃ (d : Addr) (fs : List (Str × V)), H2 a = some (exo a C (some d)) ∧ H2 d = some (exd d fs) ∧ H1 d = none ∧ Q (.ref C) (some d) (upd (del H2 a) d (.xd fs))) (fun _ _ _ => False) := by
  refine ⟨by show 1 ≤ 1000; decide, fun a na => ⟨a, v, rfl, upd_same, fun d nd da => ?_⟩⟩
  have nd1 : H1 d = none := by
    rw [upd_ne da] at nd
    exact nd
  refine ⟨rfl, d, [(f, v)], upd_same, ?_, nd1, ?_⟩
  · rw [upd_ne da, upd_same]
  · have e1 : upd (del (upd (upd (upd H1 a (exo a C none)) d (exd d [(f, v)])) a (exo a C (some d))) a) d (.xd [(f, v)]) = upd H1 d (.xd [(f, v)]) := by
      funext b
      by_cases hb : b = d
      · rw [hb, upd_same, upd_same]
      · rw [upd_ne hb, upd_ne hb]
        by_cases ha : b = a
        · rw [ha, del_same, na]
        · rw [del_ne ha, upd_ne ha, upd_ne hb, upd_ne ha]
    rw [e1]
    exact h d nd1
end Wn
/-! what gives data, where lambdas are made on the way: all but the tables of code stays -/
namespace Wn
open PySem PySem.Spec PyProof.Rows L2 LamX
theorem extOf {H H' : Hp} (g : Gr [] H H') : ExtN H H' := fun b o h _ => g b o (by simp) h
theorem tabsGr {T : List (Addr × Str)} {H H' : Hp} (t : Tabs T H) (g : Gr [] H H') : Tabs T H' := fun p hp => (t p hp).ext fun b o e => g b o (by simp) e
theorem kpExt {H H' : Hp} (g : ExtN H H') : Kp H H' := ⟨fun a _ e => g a _ e (fun _ z => by cases z), fun a _ e => g a _ e (fun _ z => by cases z), fun a _ _ e => g a _ e (fun _ z => by cases z)⟩
theorem ExtN.lst {H H' : Hp} {a : Addr} {xs : List V} (g : ExtN H H') (h : H a = some (.lst xs)) : H' a = some (.lst xs) := g a _ h (fun _ z => by cases z)
theorem ExtN.tup {H H' : Hp} {a : Addr} {xs : List V} (g : ExtN H H') (h : H a = some (.tup xs)) : H' a = some (.tup xs) := g a _ h (fun _ z => by cases z)
theorem ExtN.dK {H H' : Hp} {a : Addr} {xs : List (Key × V)} (g : ExtN H H') (h : H a = some (.dK xs)) : H' a = some (.dK xs) := g a _ h (fun _ z => by cases z)
/-- what an error's outcome is: class, field, word -/
def TTg (es : List (Addr × Str × Str)) : (XK → Hp → VK → Prop) → Hp → VK → Prop := fun tl H Q =>
  ∀ (H2 : Hp) (Qn : VK) (E : XK), Gr [] H H2 → (∀ v H3, (∀ p, H3 p = none → Q (.ref p) (upd H3 p (.lst [v]))) → Qn v H3) →
    (∀ (C d : Addr) (f w : Str) (v : V) (H3 : Hp), (C, f, w) ∈ es → H3 d = some (.xd [(f, v)]) → (∀ t H4, Gr [] H3 H4 → H4 t = some (.tup [.str w, v]) → Q (.ref t) H4) → E (.ref C) (some d) H3) → tl E H2 Qn
section
variable {K : PySem.W.Frag} {T : List (Addr × Str)} {σ : L2.St} {H : Hp}
def EvT (K : PySem.W.Frag) (T : List (Addr × Str)) (te : TE) (σ : L2.St) (H : Hp) (d : PyData) : Prop := ∀ H1, ExtN H H1 → Tabs T H1 → ∀ Q : VK, (∀ v H2, ExtN H1 H2 → Tabs T H2 → Dp K H2 v d → Q v H2) → te σ H1 Q
def EvTS (K : PySem.W.Frag) (T : List (Addr × Str)) (ta : TA) (σ : L2.St) (H : Hp) (ds : List PyData) : Prop := ∀ H1, ExtN H H1 → Tabs T H1 → ∀ Q : List V → Hp → Prop, (∀ vs H2, ExtN H1 H2 → Tabs T H2 → DpAll K H2 vs ds → Q vs H2) → ta σ H1 Q
def EvTL (K : PySem.W.Frag) (T : List (Addr × Str)) (te : TE) (σ : L2.St) (H : Hp) (ds : List PyData) : Prop := ∀ H1, ExtN H H1 → Tabs T H1 → ∀ Q : VK, (∀ p xs H2, ExtN H1 H2 → Tabs T H2 → H2 p = some (.lst xs) → DpAll K H2 xs ds → Q (.ref p) H2) → te σ H1 Q
theorem EvTL.d {te : TE} {ds : List PyData} (h : EvTL K T te σ H ds) : EvT K T te σ H (.list ds) := fun H1 g t Q q => h H1 g t Q fun p xs H2 g2 t2 e a => q _ H2 g2 t2 (dp_lst e a)
/-- what makes no lambda, whatever stands -/
theorem et_of {te : TE} {d : PyData} (h : ∀ H, EvD K te σ H d) : EvT K T te σ H d := fun H1 _ t Q q => h H1 H1 (Gr.refl _ _) Q fun v H2 g2 a => q v H2 (extOf g2) (tabsGr t g2) a
theorem el_of {te : TE} {ds : List PyData} (h : ∀ H, EvL K te σ H ds) : EvTL K T te σ H ds := fun H1 _ t Q q => h H1 H1 (Gr.refl _ _) Q fun p xs H2 g2 e a => q p xs H2 (extOf g2) (tabsGr t g2) e a
theorem et_var {i : Nat} {v : V} {d : PyData} (e : σ[i]? = some (some v)) (h : Dp K H v d) : EvT K T (tVar i) σ H d := fun H1 g t Q q => ⟨v, e, q v H1 (ExtN.refl _) t (Dp.kp (kpExt g) h)⟩
theorem etl_var {i : Nat} {p : Addr} {xs : List V} {ds : List PyData} (e : σ[i]? = some (some (.ref p))) (h : H p = some (.lst xs)) (a : DpAll K H xs ds) : EvTL K T (tVar i) σ H ds :=
  fun H1 g t Q q => ⟨_, e, q p xs H1 (ExtN.refl _) t (ExtN.lst g h) (DpAll.kp (kpExt g) a)⟩
theorem ets_nil : EvTS K T tNil σ H [] := fun H1 _ t Q q => q _ H1 (ExtN.refl _) t .nil
theorem ets_cons {te : TE} {ta : TA} {d : PyData} {ds : List PyData} (h : EvT K T te σ H d) (r : EvTS K T ta σ H ds) : EvTS K T (tCons te ta) σ H (d :: ds) := fun H1 g t Q q =>
  h H1 g t _ fun v H2 g2 t2 dv => r H2 (g.trans g2) t2 _ fun vs H3 g3 t3 dvs => q _ H3 (g2.trans g3) t3 (.cons (Dp.kp (kpExt g3) dv) dvs)
theorem et_tup {ta : TA} {ds : List PyData} (h : EvTS K T ta σ H ds) (hz : ds.length ≤ 1000 := by exact Nat.le_of_ble_eq_true rfl) : EvT K T (tTup ta) σ H (.tuple ds) := fun H1 g t Q q =>
  h H1 g t _ fun vs H2 g2 t2 a => ⟨by rw [dpAll_len a]; exact Nat.le_of_lt (small1000 hz), fun p np => q _ _ (g2.trans (extOf (Gr.new np))) (tabsGr t2 (Gr.new np)) (dp_tup upd_same (DpAll.kp (Kp.of (Gr.new np)) a))⟩
theorem etl_lst {ta : TA} {ds : List PyData} (h : EvTS K T ta σ H ds) (hz : ds.length ≤ 1000 := by exact Nat.le_of_ble_eq_true rfl) : EvTL K T (tLst ta) σ H ds := fun H1 g t Q q =>
  h H1 g t _ fun vs H2 g2 t2 a => ⟨by rw [dpAll_len a]; exact Nat.le_of_lt (small1000 hz), fun p np => q _ _ _ (g2.trans (extOf (Gr.new np))) (tabsGr t2 (Gr.new np)) upd_same (DpAll.kp (Kp.of (Gr.new np)) a)⟩
theorem etl_cat {ta tb : TE} {ds es : List PyData} (h1 : EvTL K T ta σ H ds) (h2 : EvTL K T tb σ H es) (hz : ds.length + es.length ≤ 1000 := by exact Nat.le_of_ble_eq_true rfl) : EvTL K T (tOp rCat ta tb) σ H (ds ++ es) := fun H1 g t Q q =>
  h1 H1 g t _ fun p xs H2 g2 t2 e2 a2 => h2 H2 (g.trans g2) t2 _ fun p3 ys H3 g3 t3 e3 a3 => by
    have e2' := ExtN.lst g3 e2
    refine ⟨p, p3, xs, ys, rfl, rfl, e2', e3, by rw [dpAll_len a2, dpAll_len a3]; exact Nat.le_of_lt (small1000 hz), fun p4 np => ?_⟩
    exact q p4 _ _ ((g2.trans g3).trans (extOf (Gr.new np))) (tabsGr t3 (Gr.new np)) upd_same (dpAll_append (DpAll.kp (kpExt (g3.trans (extOf (Gr.new np)))) a2) (DpAll.kp (Kp.of (Gr.new np)) a3))
theorem et_eq {ta tb : TE} {d e : PyData} (h1 : EvT K T ta σ H d) (h2 : EvT K T tb σ H e) (s1 : SeqAt.shaped d = true) (s2 : SeqAt.shaped e = true) : EvT K T (tOp (rEqD K) ta tb) σ H (.bool (PyData.eqv d e)) := fun H1 g t Q q =>
  h1 H1 g t _ fun v H2 g2 t2 a => h2 H2 (g.trans g2) t2 _ fun w H3 g3 t3 b => ⟨d, e, Dp.kp (kpExt g3) a, b, s1, s2, q _ H3 (g2.trans g3) t3 (.bl _)⟩
theorem et_ne {ta tb : TE} {d e : PyData} (h1 : EvT K T ta σ H d) (h2 : EvT K T tb σ H e) (s1 : SeqAt.shaped d = true) (s2 : SeqAt.shaped e = true) : EvT K T (tOp (rNeD K) ta tb) σ H (.bool (!PyData.eqv d e)) := fun H1 g t Q q =>
  h1 H1 g t _ fun v H2 g2 t2 a => h2 H2 (g.trans g2) t2 _ fun w H3 g3 t3 b => ⟨d, e, Dp.kp (kpExt g3) a, b, s1, s2, q _ H3 (g2.trans g3) t3 (.bl _)⟩
/-- what comes of a lambda whose body gives d -/
theorem et_out {es : List (Addr × Str × Str)} {t : XK → TE} {d : PyData} (h : ∀ E H, EvD K (t E) σ H d) : EvT K T (tLam T (TTg es) t) σ H (.list [d]) := fun H1 _ t1 Q q =>
  ⟨t1, fun H2 g2 t2 H3 Qn E g3 kn _ => h E H3 H3 (Gr.refl _ _) Qn fun v H4 g4 a => kn v H4 fun p np =>
    q _ _ (g2.trans (extOf ((g3.trans g4).trans (Gr.new np)))) (tabsGr t2 ((g3.trans g4).trans (Gr.new np))) (dp_lst upd_same (.cons (Dp.kp (Kp.of (Gr.new np)) a) .nil))⟩
/-- .. whose body raises an error with the value d -/
theorem et_outE {es : List (Addr × Str × Str)} {t : XK → TE} {d : PyData} {C : Addr} {f w : Str} (hm : (C, f, w) ∈ es)
    (h : ∀ (E : XK) (H1 : Hp) (Q : VK), (∀ (dd : Addr) (v : V) H2, Gr [] H1 H2 → H2 dd = some (.xd [(f, v)]) → Dp K H2 v d → E (.ref C) (some dd) H2) → t E σ H1 Q) : EvT K T (tLam T (TTg es) t) σ H (.tuple [.str w, d]) := fun H1 _ t1 Q q =>
  ⟨t1, fun H2 g2 t2 H3 Qn E g3 _ ke => h E H3 Qn fun dd v H4 g4 hd a => ke C dd f w v H4 hm hd fun t' H5 g5 h5 =>
    q _ _ (g2.trans (extOf ((g3.trans g4).trans g5))) (tabsGr t2 ((g3.trans g4).trans g5)) (dp_tup h5 (.cons (.str _) (.cons (Dp.kp (Kp.of g5) a) .nil)))⟩
theorem stt_asgL {te : TE} {i : Nat} {ds : List PyData} {D : Ends} (t : Tabs T H) (h : EvTL K T te σ H ds) (k : ∀ p xs H2, ExtN H H2 → Tabs T H2 → H2 p = some (.lst xs) → DpAll K H2 xs ds → D.nx (σ.set i (some (.ref p))) H2) : tAsg te (gName i) D σ H := h H (ExtN.refl _) t _ k
theorem stt_retB {te : TE} {b : Bool} {D : Ends} (t : Tabs T H) (h : EvT K T te σ H (.bool b)) (k : ∀ H2, ExtN H H2 → Tabs T H2 → D.rt (.bl b) H2) : tRet te D σ H := h H (ExtN.refl _) t _ fun v H2 g t2 e => by rw [dp_bool e]; exact k H2 g t2
theorem ttt_of {te : TE} {b : Bool} {H1 : Hp} {Q : Bool → Hp → Prop} (t : Tabs T H1) (h : EvT K T te σ H (.bool b)) (g : ExtN H H1) (q : ∀ H2, ExtN H1 H2 → Tabs T H2 → Q b H2) : tTest te σ H1 Q := h H1 g t _ fun v H2 g2 t2 e => ⟨b, dp_bool e, q H2 g2 t2⟩
theorem ttb_of {te : TE} {b : Bool} {H1 : Hp} {Q : Bool → Hp → Prop} (t : Tabs T H1) (h : EvT K T te σ H (.bool b)) (g : ExtN H H1) (q : ∀ H2, ExtN H1 H2 → Tabs T H2 → Q b H2) : tB te σ H1 Q := h H1 g t _ fun v H2 g2 t2 e => ⟨b, dp_bool e, q H2 g2 t2⟩
theorem et_andV {ta tb : TE} {a b : Bool} (h1 : EvT K T ta σ H (.bool a)) (h2 : EvT K T tb σ H (.bool b)) : EvT K T (tAndV ta tb) σ H (.bool (a && b)) := fun H1 g t Q q =>
  h1 H1 g t _ fun v H2 g2 t2 e => ⟨a, dp_bool e, by
    cases a with
    | true => exact iteT (h2 H2 (g.trans g2) t2 _ fun w H3 g3 t3 e3 => q w H3 (g2.trans g3) t3 e3)
    | false => exact iteF (q _ H2 g2 t2 (.bl false))⟩
theorem et_orV {ta tb : TE} {a b : Bool} (h1 : EvT K T ta σ H (.bool a)) (h2 : EvT K T tb σ H (.bool b)) : EvT K T (tOrV ta tb) σ H (.bool (a || b)) := fun H1 g t Q q =>
  h1 H1 g t _ fun v H2 g2 t2 e => ⟨a, dp_bool e, by
    cases a with
    | true => exact iteT (q _ H2 g2 t2 (.bl true))
    | false => exact iteF (h2 H2 (g.trans g2) t2 _ fun w H3 g3 t3 e3 => q w H3 (g2.trans g3) t3 e3)⟩
end
end Wn
namespace Wn
open PySem PySem.Spec PyProof.Rows L2 LamX
theorem tabsGrM {T : List (Addr × Str)} {H H' : Hp} {d : Addr} (t : Tabs T H) (g : Gr [d] H H') (h : ∃ kvs, H d = some (.dK kvs)) : Tabs T H' := fun p hp => by
  obtain ⟨kvs, hd⟩ := h
  obtain ⟨ps, h1, h2, h3⟩ := t p hp
  refine ⟨ps, g _ _ (by simp; exact ne_of h1 hd (by intro z; cases z)) h1, h2, fun pos cv hc => ?_⟩
  obtain ⟨c, e1, e2⟩ := h3 pos cv hc
  exact ⟨c, e1, g _ _ (by simp; exact ne_of e2 hd (by intro z; cases z)) e2⟩
theorem tabs0 {T : List (Addr × Str)} {H : Hp} (h : ∀ p ∈ T, H p.1 = some (.tbl #[])) : Tabs T H := fun p hp =>
  ⟨#[], h p hp, by trivial, fun pos cv hc => by cases hc⟩
def tInts : List Int → TA
  | [] => tNil
  | i :: r => tCons (tC (.int i)) (tInts r)
theorem tInts_go {σ : L2.St} {H : Hp} : ∀ {is : List Int} {Q : List V → Hp → Prop}, Q (is.map V.int) H → tInts is σ H Q
  | [], _, q => q
  | i :: r, Q, q => tInts_go (is := r) (Q := fun vs H2 => Q (.int i :: vs) H2) q
section
variable {K : PySem.W.Frag} {T : List (Addr × Str)} {σ : L2.St} {H : Hp}
theorem ev_powN {a c : Nat} (h : CPow a c) : EvD K (tOp (rI CPow fun i j => .int (i ^ j.toNat)) (tC (.int (a : Nat))) (tC (.int (c : Nat)))) σ H (.int ((a ^ c : Nat) : Int)) := fun H1 _ Q q => ⟨a, c, rfl, rfl, h, by
  have e : ((a : Nat) : Int) ^ ((c : Nat) : Int).toNat = ((a ^ c : Nat) : Int) := by rw [Int.toNat_natCast, Int.natCast_pow]
  show Q (.int (((a : Nat) : Int) ^ ((c : Nat) : Int).toNat)) H1
  rw [e]
  exact q _ H1 (Gr.refl _ _) (.int _)⟩
theorem ev_pow {a c : Int} (h : CPow a c) : EvD K (tOp (rI CPow fun i j => .int (i ^ j.toNat)) (tC (.int a)) (tC (.int c))) σ H (.int (a ^ c.toNat)) := fun H1 _ Q q => ⟨a, c, rfl, rfl, h, q _ H1 (Gr.refl _ _) (.int _)⟩
end
end Wn
namespace Wn
open PySem PySem.Spec PyProof.Rows L2
theorem tab_mk {K : PySem.W.Frag} {x : Str} {f c P : Addr} {oc c1 : Value} {od d1 : Option Addr} {fd : FuncData} {sl s1 : Array (Option Value)} {vs : Array Value} (a : PySem.W.nsIn K mainGlobals x = some (some (.ref f))) (l : K.lookup f = some ⟨oc, od, .func fd, sl⟩) (e : fd.code = .ref c)
    (l2 : K.lookup c = some ⟨c1, d1, .fields vs, s1⟩) (h : vs[11]? = some (.ref P)) : PySem.W.tabIn K x = some (c, P) := by
  unfold PySem.W.tabIn
  rw [a]
  dsimp only
  rw [l]
  dsimp only
  rw [e]
  dsimp only
  rw [l2]
  dsimp only
  rw [h]
end Wn
namespace Wn
open PySem PySem.Spec PyProof.Rows L2 LamX
section
variable {K : PySem.W.Frag} {T : List (Addr × Str)} {σ : L2.St} {H : Hp} {es : List (Addr × Str × Str)} {t : XK → TE} {d : PyData}
/-- .. over what stands here -/
theorem et_outV (h : ∀ (E : XK) (H1 : Hp), ExtN H H1 → ∀ Q : VK, (∀ v H2, Gr [] H1 H2 → Dp K H2 v d → Q v H2) → t E σ H1 Q) : EvT K T (tLam T (TTg es) t) σ H (.list [d]) := fun H1 g0 t1 Q q =>
  ⟨t1, fun H2 g2 t2 H3 Qn E g3 kn _ => h E H3 ((g0.trans g2).trans (extOf g3)) Qn fun v H4 g4 a => kn v H4 fun p np =>
    q _ _ (g2.trans (extOf ((g3.trans g4).trans (Gr.new np)))) (tabsGr t2 ((g3.trans g4).trans (Gr.new np))) (dp_lst upd_same (.cons (Dp.kp (Kp.of (Gr.new np)) a) .nil))⟩
theorem et_outX {C : Addr} {f w : Str} (hm : (C, f, w) ∈ es)
    (h : ∀ (E : XK) (H1 : Hp), ExtN H H1 → ∀ (Q : VK), (∀ (dd : Addr) (v : V) H2, Gr [] H1 H2 → H2 dd = some (.xd [(f, v)]) → Dp K H2 v d → E (.ref C) (some dd) H2) → t E σ H1 Q) : EvT K T (tLam T (TTg es) t) σ H (.tuple [.str w, d]) := fun H1 g0 t1 Q q =>
  ⟨t1, fun H2 g2 t2 H3 Qn E g3 _ ke => h E H3 ((g0.trans g2).trans (extOf g3)) Qn fun dd v H4 g4 hd a => ke C dd f w v H4 hm hd fun t' H5 g5 h5 =>
    q _ _ (g2.trans (extOf ((g3.trans g4).trans g5))) (tabsGr t2 ((g3.trans g4).trans g5)) (dp_tup h5 (.cons (.str _) (.cons (Dp.kp (Kp.of g5) a) .nil)))⟩
theorem EvT.on {te : TE} {H' : Hp} (h : EvT K T te σ H d) (g : ExtN H H') : EvT K T te σ H' d := fun H1 g1 t1 Q q => h H1 (g.trans g1) t1 Q q
end
end Wn
namespace Wn
open PySem PySem.Spec PyProof.Rows L2 LamX
section
variable {K : PySem.W.Frag} {T : List (Addr × Str)} {σ : L2.St} {H : Hp}
/-- the first part of «or» in a test, false -/
theorem ttt_orL {te : TE} {u : TT} {b : Bool} {Q : Bool → Hp → Prop} (t : Tabs T H) (h : EvT K T te σ H (.bool b)) (hb : b = false) (q : ∀ H2, ExtN H H2 → Tabs T H2 → u σ H2 Q) : tOr (tTest te) u σ H Q := h H (ExtN.refl _) t _ fun v H2 g2 t2 e => ⟨b, dp_bool e, iteFb hb (q H2 g2 t2)⟩
end
end Wn
namespace Wn
open PySem PySem.Spec PyProof.Rows L2
/-! a list grown: data in which no list of its size stands, stay -/
mutual
def noLen (n : Nat) : PyData → Bool
  | .list xs => decide (xs.length ≠ n) && noLenAll n xs
  | .tuple xs => noLenAll n xs
  | _ => true
def noLenAll (n : Nat) : List PyData → Bool
  | [] => true
  | x :: xs => noLen n x && noLenAll n xs
end
mutual
theorem Dp.app {K : PySem.W.Frag} {H : Hp} {l : Addr} {xs : List V} {y : V} (h : H l = some (.lst xs)) : ∀ {v : V} {d : PyData}, Dp K H v d → noLen xs.length d = true → Dp K (upd H l (.lst (xs ++ [y]))) v d
  | _, _, .non, _ => .non
  | _, _, .bl b, _ => .bl b
  | _, _, .int i, _ => .int i
  | _, _, .str z, _ => .str z
  | _, _, .lst (a := a) (xs := zs) (ds := ds) s t, n => by
    rw [noLen, Bool.and_eq_true, decide_eq_true_eq] at n
    have hl := dpAll_len t
    refine .lst ?_ (DpAll.app h t n.2)
    rcases s with (s | ⟨o, s⟩) | s
    · by_cases e : a = l
      · subst e
        rw [h] at s
        cases s
        exact absurd hl.symm n.1
      · exact .inl (.inl (by rw [upd_ne e]; exact s))
    · exact .inl (.inr ⟨o, by rw [upd_ne (fun e => by rw [e, h] at s; cases s)]; exact s⟩)
    · exact .inr s
  | _, _, .tup (a := a) (xs := zs) (ds := ds) s t, n => by
    rw [noLen] at n
    refine .tup ?_ (DpAll.app h t n)
    rcases s with (s | ⟨o, s⟩) | s
    · exact .inl (.inl (by rw [upd_ne (fun e => by rw [e, h] at s; cases s)]; exact s))
    · exact .inl (.inr ⟨o, by rw [upd_ne (fun e => by rw [e, h] at s; cases s)]; exact s⟩)
    · exact .inr s
theorem DpAll.app {K : PySem.W.Frag} {H : Hp} {l : Addr} {xs : List V} {y : V} (h : H l = some (.lst xs)) : ∀ {vs : List V} {ds : List PyData}, DpAll K H vs ds → noLenAll xs.length ds = true → DpAll K (upd H l (.lst (xs ++ [y]))) vs ds
  | _, _, .nil, _ => .nil
  | _, _, .cons a b, n => by
    rw [noLenAll, Bool.and_eq_true] at n
    exact .cons (Dp.app h a n.1) (DpAll.app h b n.2)
end
/-- the tables stay where a list grows -/
theorem tabsApp {T : List (Addr × Str)} {H : Hp} {l : Addr} {xs ys : List V} (t : LamX.Tabs T H) (h : H l = some (.lst xs)) : LamX.Tabs T (upd H l (.lst ys)) := fun p hp => by
  obtain ⟨ps, h1, h2, h3⟩ := t p hp
  refine ⟨ps, by rw [upd_ne (ne_of h1 h (by intro z; cases z))]; exact h1, h2, fun pos cv hc => ?_⟩
  obtain ⟨c, e1, e2⟩ := h3 pos cv hc
  exact ⟨c, e1, by rw [upd_ne (ne_of e2 h (by intro z; cases z))]; exact e2⟩
end Wn
namespace Wn
open PySem PySem.Spec PyProof.Rows L2 LamX
section
variable {K : PySem.W.Frag} {T : List (Addr × Str)} {σ : L2.St} {H : Hp}
theorem noLenAll_app (n : Nat) : ∀ xs ys : List PyData, noLenAll n (xs ++ ys) = (noLenAll n xs && noLenAll n ys)
  | [], ys => by simp [noLenAll]
  | x :: xs, ys => by
    have ih := noLenAll_app n xs ys
    show noLenAll n (x :: (xs ++ ys)) = _
    rw [noLenAll, noLenAll, ih, Bool.and_assoc]
/-- l.append(e) -/
theorem stt_app {te : TE} {i : Nat} {l : Addr} {xs : List V} {ds : List PyData} {d : PyData} {D : Ends} (t : Tabs T H) (hi : σ[i]? = some (some (.ref l))) (e : H l = some (.lst xs)) (a : DpAll K H xs ds) (h : EvT K T te σ H d) (hn : noLenAll ds.length (ds ++ [d]) = true) (hz : ds.length < 1000)
    (k : ∀ ys H2, Tabs T H2 → H2 l = some (.lst ys) → DpAll K H2 ys (ds ++ [d]) → D.nx σ H2) : tDrop (tBM K "list" rAppend (tVar i) (tCons te tNil)) D σ H := by
  refine ⟨_, hi, .inl ⟨rfl, _, sq_lst e⟩, ?_⟩
  refine h H (ExtN.refl _) t _ fun v H2 g2 t2 dv => ?_
  have hl := dpAll_len a
  have e2 := ExtN.lst g2 e
  have a2 := DpAll.kp (kpExt g2) a
  rw [noLenAll_app, Bool.and_eq_true] at hn
  have n2 : noLen ds.length d = true := by
    have := hn.2
    rw [noLenAll, Bool.and_eq_true] at this
    exact this.1
  refine ⟨l, xs, v, rfl, rfl, e2, Nat.lt_of_lt_of_le (show xs.length < 6000 by omega) (by decide), ?_⟩
  refine k (xs ++ [v]) _ (tabsApp t2 e2) upd_same (dpAll_append (DpAll.app e2 a2 (by rw [hl]; exact hn.1)) (.cons (Dp.app e2 dv (by rw [hl]; exact n2)) .nil))
theorem stt_set {te : TE} {i : Nat} {d : PyData} {D : Ends} (t : Tabs T H) (h : EvT K T te σ H d) (k : ∀ v H2, ExtN H H2 → Tabs T H2 → Dp K H2 v d → D.nx (σ.set i (some v)) H2) : tAsg te (gName i) D σ H := h H (ExtN.refl _) t _ k
theorem et_repr {te : TE} {d : PyData} (h : EvT K T te σ H d) (f : Fits d) : EvT K T (tCB (rRepr K) (tCons te tNil)) σ H (.str d.shown) := fun H1 g t Q q =>
  h H1 g t _ fun v H2 g2 t2 a => ⟨v, d, rfl, a, f, q _ H2 g2 t2 (.str _)⟩
/-- two texts compared -/
theorem et_eqS {ta tb : TE} {x y : Str} (h1 : EvT K T ta σ H (.str x)) (h2 : EvT K T tb σ H (.str y)) : EvT K T (tOp rEq ta tb) σ H (.bool (decide (x = y))) := fun H1 g t Q q =>
  h1 H1 g t _ fun v H2 g2 t2 a => h2 H2 (g.trans g2) t2 _ fun w H3 g3 t3 b => by
    have e1 : v = .str x := by cases a; rfl
    have e2 : w = .str y := by cases b; rfl
    subst e1 e2
    refine ⟨rfl, ?_⟩
    have e3 : decide (V.str x = V.str y) = decide (x = y) := by
      rw [decide_eq_decide]
      exact ⟨fun z => V.str.inj z, fun z => by rw [z]⟩
    show Q (.bl (decide (V.str x = V.str y))) H3
    rw [e3]
    exact q _ H3 (g2.trans g3) t3 (.bl _)
end
end Wn
namespace Wn
open PySem PySem.Spec PyProof.Rows L2
open PySem.HandSPX
section
variable {X : Cx} {C : Addr} {f : Str}
/-- error.f, the error that the suite holds (at a; its class cls, its dict d) -/
def tByE (C : Addr) (f : Str) (a : Addr) (cls : Value) (d : Option Addr) (te : TE) : TE := fun σ H Q => te σ H fun x H1 => x = .ref a ∧ cls = .ref C ∧ ∃ (dd : Addr) (v : V), d = some dd ∧ H1 dd = some (.xd [(f, v)]) ∧ Q v H1
theorem pe_byE {a : Addr} {oe : Obj} {cls : Value} {d : Option Addr} {pn : List (Addr × Obj)} {e : Expr} {te : TE} {pos : Pos} (T : XfC X.K C) (hno : PySem.W.findIn X.K (.ref C) f = some none) (hz : Zc cls d oe) (hf : ∃ vs, oe.data = .fields vs) (he : PE (X.suite a ((a, oe) :: pn)) e te)
    (hb : attributeBase e f X.env (eval e X.env) = eval e X.env := by rfl) :
    PE (X.suite a ((a, oe) :: pn)) (.Attribute e f pos) (tByE C f a cls d te) := by
  refine ⟨fun pins s σ H Q I h => ?_⟩
  refine attr_of hb (thn (he.run pins s σ H _ I h) fun u s1 hh => ?_)
  obtain ⟨x, H1, I1, rx, ex, ec, dd, v, ed, ea, q⟩ := hh
  subst ex
  obtain rfl : u = Value.ref a := rx
  subst ec
  subst ed
  obtain ⟨ha, _⟩ := I1.pin (a, oe) (List.mem_append_left _ List.mem_cons_self)
  obtain ⟨vs, hd⟩ := hf
  have hx : ObjOk X.prog X.w H1 s1.heap dd (.xd [(f, v)]) := I1.hok dd _ ea
  obtain ⟨mA, hns, hr⟩ := hx
  obtain ⟨od, ho, hl⟩ := lookIn_ns hns
  have l : List.lookup f [(f, v)] = some v := by simp [List.lookup]
  obtain ⟨u, hu, ru⟩ := RelO.some_of (v := v) (o := mA f) (by rw [← l]; exact hr f)
  have J : PySem.W.InstAt s1.heap a oe C (some od) := ⟨ha, hz.1, by unfold PySem.W.notCls; rw [hd] <;> rfl, by rw [hz.2]; exact ho⟩
  exact PySem.HandSPX.exc_get I1.kIn J T.ga T.gg T.exC (PySem.W.findObj_own T.hdC hno rfl (by rw [hl, hu])) (handed_of ru) ⟨v, H1, I1.tok _, ru, q⟩
end
section
variable {X : Cx}
def rLcm : List V → Hp → VK → Prop := fun vs H Q => ∃ a b : Nat, vs = [.int a, .int b] ∧ (a ≤ 100000 ∧ b ≤ 100000) ∧ Q (.int ((Nat.lcm a b : Nat) : Int)) H
theorem cr_lcm : CallR X (.builtin "math.lcm") rLcm := by
  intro pins s σ H vs us Q I r h
  obtain ⟨a, b, rfl, ⟨ha, hb⟩, q⟩ := h
  obtain ⟨t, u, rfl⟩ := Vals.int2 r
  have e : (((Nat.lcm 1 (a : Int).natAbs).lcm (b : Int).natAbs : Nat) : Int) = ((Nat.lcm a b : Nat) : Int) := by
    rw [Int.natAbs_natCast, Int.natAbs_natCast, Nat.lcm_one_left]
  refine PySem.W.mg_lcm (by rw [Int.natAbs_natCast]; omega) (by rw [Int.natAbs_natCast]; omega) ?_ ?_
  · rw [e, Int.natAbs_natCast]
    have h1 : Nat.lcm a b ≤ a * b := by
      unfold Nat.lcm
      exact Nat.div_le_self _ _
    have h2 : a * b ≤ 100000 * 100000 := Nat.mul_le_mul ha hb
    have h3 : Nat.lcm a b < 2 ^ 40 := Nat.lt_of_le_of_lt (Nat.le_trans h1 h2) (by decide)
    exact Nat.lt_trans (PySem.Flt.log2_lt_of (by decide) h3) (by decide)
  · rw [e]
    exact ⟨.int _, H, I.tok _, ⟨_, rfl⟩, q⟩
/-- t.index(x), ints, the first place -/
def rIdxT (K : PySem.W.Frag) : V → List V → Hp → VK → Prop := fun x xs H Q => ∃ (p : Addr) (ys : List Nat) (z j : Nat), x = .ref p ∧ xs = [.int (z : Nat)] ∧ SqT K H p (vn ys) ∧ ys[j]? = some z ∧ (∀ m, m < j → ys[m]? ≠ some z) ∧ Q (.int (j : Nat)) H
theorem flat_vnT : ∀ xs : List Nat, (vn xs).all flatV = true
  | [] => rfl
  | x :: r => by
    show (true && (vn r).all flatV) = true
    rw [flat_vnT r]
    rfl
theorem mt_tup_indexN : MtR X "tuple.index" (rIdxT X.K) := by
  intro pins s σ H x xs v us Q I rx rs h
  obtain ⟨p, ys, z, j, rfl, rfl, hq, hy, hno, q⟩ := h
  cases rx
  obtain ⟨u, rfl, t, rfl⟩ := vals1 rs
  obtain ⟨its, r, pl, hz⟩ := I.tuple hq
  obtain ⟨⟨cls, dd, dt, sl⟩, ho, hc, n, hd⟩ := pl
  simp only at hc hd
  subst hc
  subst hd
  have hl : its.toArray.size = ys.length := by rw [List.size_toArray, ← r.length, vn_len]
  have hj : j < its.toArray.size := by rw [hl]; exact (List.getElem?_eq_some_iff.mp hy).1
  have at' : ∀ (m : Nat) (hm : m < its.toArray.size), ∃ (y : Nat) (t' : Tok), ys[m]? = some y ∧ its.toArray[m] = Value.int (y : Nat) t' := fun m hm => by
    have hm' : m < ys.length := by rw [← hl]; exact hm
    obtain ⟨w, hw, t', hw'⟩ := r.get (i := m) (x := .int (ys[m] : Nat)) (by simp [vn, hm'])
    refine ⟨ys[m], t', List.getElem?_eq_getElem hm', ?_⟩
    have e := (List.getElem?_eq_some_iff.mp hw).2
    rw [← hw', ← e]
    simp
  refine call_meets PySem.F.slot_tuple_index ⟨_, ho, rfl⟩ PySem.F.entry_tuple_index (PySem.F.args_tuple_index_2 _ _) (TI.tuple_indexAt p its.toArray n dd sl (.int (z : Nat) t) (eqU (.int (z : Nat))) j hj ?_ ?_)
    ⟨ho, fun w hw => mem_eqAt (x := .int (z : Nat)) ⟨t, rfl⟩ rfl r (flat_vnT ys) w (by simpa using hw), ⟨.int (j : Nat), H, I.tok _, ⟨_, rfl⟩, q⟩⟩
  · obtain ⟨y, t', h1, h2⟩ := at' j hj
    rw [hy] at h1
    cases h1
    rw [h2]
    show (((z : Nat) : Int) == ((z : Nat) : Int)) = true
    exact beq_self_eq_true _
  · intro m hm hmj
    obtain ⟨y, t', h1, h2⟩ := at' m hm
    rw [h2]
    show (((y : Nat) : Int) == ((z : Nat) : Int)) = false
    rw [beq_eq_false_iff_ne]
    intro e
    have : y = z := by omega
    exact hno m hmj (by rw [h1, this])
/-- tuple(xs), xs a list: the object is known whole, so that its methods may be called -/
def rTpF (K : PySem.W.Frag) : List V → Hp → VK → Prop := fun xs H Q => ∃ p ys, xs = [.ref p] ∧ SqL K H p ys ∧ ∀ l o, o.dict = none → H l = none → Q (.ref l) (upd H l (.frz o (.tup ys)))
theorem call_tpF : CallR X (.type "tuple") (rTpF X.K) := by
  intro pins s σ H xs us Q I r h
  obtain ⟨p, ys, rfl, hq, q⟩ := h
  obtain ⟨u, rfl, rx⟩ := vals1 r
  cases rx
  obtain ⟨its, r', pl, hz⟩ := I.list hq
  have hlen := r'.length
  refine call_tuple_list pl.isList (fun h' kp => ?_) (by simp only [List.size_toArray] <;> omega)
  have I1 : Inv X pins σ H { s with heap := h' } := I.kept (t' := s.toks) kp
  have I2 : Inv X pins σ (upd H h'.objs.size (.frz { cls := .type "tuple", data := .seq its.toArray } (.tup ys))) { s with heap := h'.push { cls := .type "tuple", data := .seq its.toArray } } :=
    I1.laid (t' := s.toks) (fun b o e => Heap.get?_push_of_some _ e) (Nat.le_refl _) (show ObjOk X.prog X.w _ _ _ (.frz { cls := .type "tuple", data := .seq its.toArray } (.tup ys)) from ⟨Heap.get?_push_size _ rfl, hz, its, r', IsTup.new _ _⟩)
  exact ⟨.ref h'.objs.size, _, I2, rfl, q _ _ rfl (I1.hok.fresh (Nat.le_refl _))⟩
variable {name : Str} {idn : String} {r : V → List V → Hp → VK → Prop} {o e : Expr} {es : List Expr} {to : TE} {t : TA} {apos cpos : Pos}
def tBMT (r : V → List V → Hp → VK → Prop) (to : TE) (t : TA) : TE := fun σ H Q => to σ H fun x H1 => (∃ (p : Addr) (ob : Obj) (xs : List V), x = .ref p ∧ H1 p = some (.frz ob (.tup xs)) ∧ ob.dict = none) ∧ t σ H1 fun xs H2 => r x xs H2 Q
theorem pe_bmT (pa : PlainAttrs "tuple") (slot : Slot "tuple" name idn) (hty : typeOf (.builtin idn) = pure (.type "method_descriptor")) (hm : MtR X idn r) (ho : PE X o to) (ha : PA X (e :: es) t)
    (hbase : attributeBase o name X.env (eval o X.env) = eval o X.env := by rfl)
    (hfew : ((backTo cpos (starEach (e :: es) X.env)).all (fun x => !x.1) && (backToKw cpos (keywordEach [] X.env)).all (fun x => x.1.isSome)
      && decide ((e :: es).length + ([] : List Keyword).length + (if ([] : List Keyword).isEmpty then 0 else 1) < 30)) = true := by rfl)
    (hline : (apos.endLine == cpos.line) = true := by rfl) (hs : starEach (e :: es) X.env = (false, eval e X.env) :: starEach es X.env := by rfl) (hplain : (backTo cpos (starEach es X.env)).any (·.1) = false := by rfl) :
    PE X (.Call (.Attribute o name apos) (e :: es) [] cpos) (tBMT r to t) := by
  refine ⟨fun pins s σ H Q I h => ?_⟩
  refine wpAny_Call_method_late hbase hfew hline rfl (thn (ho.run pins s σ H _ I h) fun v s1 ⟨x, H1, I1, r1, ty, q1⟩ => ?_)
  obtain ⟨p, ob, xs, rfl, hp, hd⟩ := ty
  obtain rfl : v = Value.ref p := r1
  obtain ⟨hg, _, its, _, o2, hg2, hc2, _⟩ := I1.hok p _ hp
  rw [hg] at hg2
  cases hg2
  have h1 : s1.TypeIs (.ref p) "tuple" := ⟨ob, hg, hc2⟩
  have h2 : ∀ a, Value.ref p = .ref a → ∃ ob, s1.heap.get? a = some ob ∧ ob.dict = none := fun a e => by
    cases e
    exact ⟨ob, hg, hd⟩
  refine ⟨"tuple", idn, pa, slot, hty, h1, h2, ?_⟩
  have hA := ha.run cpos pins s1 σ H1 _ I1 q1
  rw [hs] at hA ⊢
  refine Calls.callWith_builtin (by show (false || (backTo cpos (starEach es X.env)).any (·.1)) = false; rw [hplain] <;> rfl) (Calls.evalArgs_plain ?_)
  exact thn hA fun us s2 ⟨vs, H2, I2, r2, q2⟩ => hm pins s2 σ H2 (.ref p) vs (.ref p) us Q I2 rfl r2 q2
end
end Wn
/-! a list backwards: xs[::-1] -/
namespace Wn
open PySem PySem.Spec PyProof.Rows L2
theorem pick_rev (us : List Value) : slicePick us.toArray none none (some (-1)) = us.reverse.toArray := by
  have e : sliceBounds none none (some (-1)) us.toArray.size = (((us.length : Int) - 1), (-1 : Int), (-1 : Int)) := by
    simp [sliceBounds]
  unfold slicePick
  rw [e]
  show (List.filterMap (fun i => us.toArray[i]?) (sliceRange ((us.length : Int) - 1) (-1) (-1))).toArray = _
  congr 1
  have e2 : sliceRange ((us.length : Int) - 1) (-1) (-1) = (List.range us.length).map fun i => us.length - 1 - i := by
    unfold sliceRange
    have c : (if (-1 : Int) > 0 then (if ((us.length : Int) - 1) < -1 then ((-1) - ((us.length : Int) - 1) + (-1) - 1) / (-1) else 0) else (if ((us.length : Int) - 1) > -1 then (((us.length : Int) - 1) - (-1) - (-1) - 1) / (-(-1)) else 0)).toNat = us.length := by
      rw [if_neg (by decide)]
      by_cases z : ((us.length : Int) - 1) > -1
      · rw [if_pos z, show (-(-1 : Int)) = 1 from rfl, Int.ediv_one]
        omega
      · rw [if_neg z]
        omega
    dsimp only
    rw [c]
    apply List.map_congr_left
    intro i hi
    have := List.mem_range.mp hi
    omega
  rw [e2, List.filterMap_map]
  apply List.ext_getElem?
  intro i
  have key : ∀ n, n ≤ us.length → (List.filterMap ((fun i => us.toArray[i]?) ∘ fun i => us.length - 1 - i) (List.range n)) = us.reverse.take n := by
    intro n
    induction n with
    | zero => intro _; rfl
    | succ n ih =>
      intro hn
      rw [List.range_succ, List.filterMap_append, ih (by omega), List.take_succ_eq_append_getElem (by rw [List.length_reverse]; omega), List.getElem_reverse]
      refine congrArg (fun z => us.reverse.take n ++ z) ?_
      show List.filterMap (fun i => us.toArray[us.length - 1 - i]?) [n] = _
      rw [List.filterMap_cons]
      have : us.toArray[us.length - 1 - n]? = some us[us.length - 1 - n] := by
        rw [List.getElem?_toArray, List.getElem?_eq_getElem]
      rw [this]
      rfl
  rw [key us.length (Nat.le_refl _), List.take_of_length_le (by rw [List.length_reverse]; exact Nat.le_refl _)]
def rRvL (K : PySem.W.Frag) : V → V → Hp → VK → Prop := fun x y H Q => ∃ (a : Addr) (xs : List V), x = .ref a ∧ y = .int (-1) ∧ SqL K H a xs ∧ ∀ p, H p = none → Q (.ref p) (upd H p (.lst xs.reverse))
variable {X : Cx} {e st : Expr} {te ts : TE} {pos p2 : Pos}
theorem pe_revL {r : R2} (he : PE X e te) (hs : PE X st ts) (hr : r = rRvL X.K := by rfl) : PE X (.Subscript e (.Slice none none (some st) p2) pos) (tStL r te ts) := by
  subst hr
  refine ⟨fun pins s σ H Q I h => ?_⟩
  refine Subscript_ (thn (he.run pins s σ H _ I h) fun v s1 ⟨x, H1, I1, r1, q1⟩ => ?_)
  refine wpAny_Slice ?_
  rw [evalPart_none]
  refine wpAny_pure (wpAny_pure ?_)
  rw [evalPart_some]
  refine thn (hs.run pins s1 σ H1 _ I1 q1) fun vs s3 ⟨y, H3, I3, ry, q3⟩ => ?_
  obtain ⟨a, xs, rfl, rfl, hx, q⟩ := q3
  cases r1
  obtain ⟨t, rfl⟩ := ry
  have I4 : Inv X pins σ H3 { s3 with heap := s3.heap.push { cls := .type "slice", data := .fields #[.none, .none, .int (-1) t] } } := I3.kept (t' := s3.toks) fun b ob q => Heap.get?_push_of_some _ q
  obtain ⟨its, r, ht, hz⟩ := I4.list hx
  have hlen := r.length
  have hg : wpAny (model X.prog X.w) X.A (getItem (.ref a) (.ref s3.heap.objs.size)) (EP X pins σ Q) X.xe { s3 with heap := s3.heap.push { cls := .type "slice", data := .fields #[.none, .none, .int (-1) t] } } := by
    refine wpAny_getItem_list_slice (st := some (-1)) ht.isList (Heap.IsSliceOf.new ..) .none .none (.int _ _) (by intro z; have := Option.some.inj z; omega) ?_ (by rw [List.size_toArray] <;> omega)
    rw [pick_rev its]
    refine ⟨.ref _, _, I4.laid (t' := s3.toks) (o := .lst xs.reverse) (fun b ob q => Heap.get?_push_of_some _ q) (Nat.le_refl _) ?_, rfl, q _ (I4.hok.fresh (Nat.le_refl _))⟩
    exact ⟨by rw [List.length_reverse]; exact hz, _, 0, r.reverse, Heap.get?_push_size _ rfl⟩
  show wpAny (model X.prog X.w) X.A (subscriptTail e (.Slice none none (some st) p2) (.ref a) (.ref s3.heap.objs.size)) (EP X pins σ Q) X.xe { s3 with heap := s3.heap.push { cls := .type "slice", data := .fields #[.none, .none, .int (-1) t] } }
  exact tail_any (ops := [.ref a, .ref s3.heap.objs.size]) ht.isList.typeIs slot_list_getitem.lookup hg (by with_unfolding_all rfl)
end Wn
/-! a tuple backwards: xs[::-1] -/
namespace Wn
open PySem PySem.Spec PyProof.Rows L2 HT
theorem pickT_rev (us : List Value) : ((List.range us.length).filterMap fun (k : Nat) => us.toArray[(((us.length : Int) - 1) + (k : Int) * (-1)).toNat]?).toArray = us.reverse.toArray := by
  congr 1
  have key : ∀ n, n ≤ us.length → (List.filterMap (fun (k : Nat) => us.toArray[(((us.length : Int) - 1) + (k : Int) * (-1)).toNat]?) (List.range n)) = us.reverse.take n := by
    intro n
    induction n with
    | zero => intro _; rfl
    | succ n ih =>
      intro hn
      rw [List.range_succ, List.filterMap_append, ih (by omega), List.take_succ_eq_append_getElem (by rw [List.length_reverse]; omega), List.getElem_reverse]
      refine congrArg (fun z => us.reverse.take n ++ z) ?_
      rw [List.filterMap_cons]
      have e : (((us.length : Int) - 1) + (n : Int) * (-1)).toNat = us.length - 1 - n := by omega
      have : us.toArray[us.length - 1 - n]? = some us[us.length - 1 - n] := by
        rw [List.getElem?_toArray, List.getElem?_eq_getElem]
      rw [e, this]
      rfl
  rw [key us.length (Nat.le_refl _), List.take_of_length_le (by rw [List.length_reverse]; exact Nat.le_refl _)]
section
variable {prog : Program} {w : World} {A : Around} {E : Value → Shared → Prop} {s : Shared}
theorem applied_rev {sl : Addr} {u : Tok} {n : Nat} {Q : Int × Int × Nat → Shared → Prop} (hs : s.heap.IsSliceOf sl .none .none (.int (-1) u)) (h : Q (((n : Int) - 1), -1, n) s) : wpAny (model prog w) A (Builtin.Slice.sliceApplied (.ref sl) (pure (n : Int))) Q E s := by
  obtain ⟨os, hos, hcs, hds⟩ := id hs
  unfold Builtin.Slice.sliceApplied Builtin.Slice.sliceFields
  refine wpAny_bind (wpAny_bind (wpAny_field hos hds (x := .none) rfl (wpAny_bind (wpAny_field hos hds (x := .none) rfl (wpAny_bind (wpAny_field hos hds (x := .int (-1) u) rfl (wpAny_pure ?_)))))))
  refine wpAny_bind (slicePart_int ?_)
  show wpAny _ _ (if ((-1 : Int) == 0) = true then _ else _) _ _ s
  rw [if_neg (by decide)]
  refine wpAny_bind (slicePart_none (wpAny_bind (slicePart_none (wpAny_bind (wpAny_pure ?_)))))
  show wpAny _ _ (pure (((n : Int) - 1), (-1 : Int), Builtin.Slice.slicePlaces ((n : Int) - 1) (-1) (-1))) _ _ s
  have e : Builtin.Slice.slicePlaces ((n : Int) - 1) (-1) (-1) = n := by
    unfold Builtin.Slice.slicePlaces
    rw [if_neg (by decide)]
    by_cases z : ((n : Int) - 1) > -1
    · rw [if_pos z, show (-(-1 : Int)) = 1 from rfl, Int.ediv_one]
      omega
    · rw [if_neg z]
      omega
  rw [e]
  exact wpAny_pure h
theorem getItem_tuple_rev {t sl : Addr} {items : List Value} {u : Tok} {Q : Value → Shared → Prop} (ht : IsTup s.heap t items.toArray) (hs : s.heap.IsSliceOf sl .none .none (.int (-1) u))
    (h : Q (.ref s.heap.objs.size) { s with heap := s.heap.push { cls := .type "tuple", data := .seq items.reverse.toArray } }) (hsz : items.length ≤ sizeLine) : wpAny (model prog w) A (getItem (.ref t) (.ref sl)) Q E s := by
  have hok : sizeOk (.seq items.reverse.toArray) := by
    show items.reverse.toArray.size ≤ sizeLine
    rw [List.size_toArray, List.length_reverse]
    exact hsz
  obtain ⟨os, hos, hcs, hds⟩ := id hs
  have hTs : s.TypeIs (.ref sl) "slice" := ⟨os, hos, hcs⟩
  unfold getItem
  try with_reducible refine wpAny_holding ?_
  first | refine wpAny_bind (wpAny_pure ?_) | skip
  refine wpAny_bind (wpAny_sequenceKey ht.typeIs (by decide) ?_)
  refine wpAny_bind (wpAny_callSpecial?_slot (name := Str.ofString "__getitem__") ht.typeIs PyProof.Rows.slot_tuple_getitem
    (wpAny_call_entry PyProof.Rows.slot_tuple_getitem ht.typeIs entry_tuple_getitem ?_ (args_tuple_getitem _ _)))
  show wpAny _ _ (Builtin.Tuple.tupleItemsOf (.ref t) >>= _) _ _ s
  refine wpAny_bind (tupleItemsOf_ ht ?_)
  refine wpAny_bind (wpAny_typeOf hTs ?_)
  rw [if_pos (by decide)]
  have e0 : items.toArray.size = items.length := List.size_toArray
  rw [e0]
  refine wpAny_bind (applied_rev hs ?_)
  have hno : ¬ ((((items.length : Int) - 1) == 0 && (-1 : Int) == 1 && items.length == items.length) = true) := by
    intro q
    rw [Bool.and_eq_true, Bool.and_eq_true] at q
    exact absurd q.1.2 (by decide)
  show wpAny _ _ (if (((items.length : Int) - 1) == 0 && (-1 : Int) == 1 && items.length == items.length) = true then _ else _) _ _ s
  rw [if_neg hno, pickT_rev]
  first
    | exact wpAny_bind (m := Builtin.Tuple.tupleExact _) (wpAny_newObj_type (wpAny_pure ⟨_, rfl, wpAny_pure h⟩) hok)
    | exact wpAny_bind (m := Builtin.Tuple.tupleExact _) (wpAny_newObj_type (wpAny_bind (wpAny_pure (wpAny_pure ⟨_, rfl, wpAny_pure h⟩))) hok)
    | exact wpAny_bind (wpAny_bind (m := Builtin.Tuple.tupleExact _) (wpAny_newObj_type (wpAny_pure (wpAny_pure ⟨_, rfl, wpAny_pure h⟩)) hok))
    | exact wpAny_bind (wpAny_bind (m := Builtin.Tuple.tupleExact _) (wpAny_newObj_type (wpAny_pure ⟨_, rfl, wpAny_pure h⟩) hok))
end
def rRvT (K : PySem.W.Frag) : V → V → Hp → VK → Prop := fun x y H Q => ∃ (a : Addr) (xs : List V), x = .ref a ∧ y = .int (-1) ∧ SqT K H a xs ∧ ∀ p, H p = none → Q (.ref p) (upd H p (.tup xs.reverse))
variable {X : Cx} {e st : Expr} {te ts : TE} {pos p2 : Pos}
theorem pe_revT {r : R2} (he : PE X e te) (hs : PE X st ts) (hr : r = rRvT X.K := by rfl) : PE X (.Subscript e (.Slice none none (some st) p2) pos) (tStL r te ts) := by
  subst hr
  refine ⟨fun pins s σ H Q I h => ?_⟩
  refine Subscript_ (thn (he.run pins s σ H _ I h) fun v s1 ⟨x, H1, I1, r1, q1⟩ => ?_)
  refine wpAny_Slice ?_
  rw [evalPart_none]
  refine wpAny_pure (wpAny_pure ?_)
  rw [evalPart_some]
  refine thn (hs.run pins s1 σ H1 _ I1 q1) fun vs s3 ⟨y, H3, I3, ry, q3⟩ => ?_
  obtain ⟨a, xs, rfl, rfl, hx, q⟩ := q3
  cases r1
  obtain ⟨t, rfl⟩ := ry
  have I4 : Inv X pins σ H3 { s3 with heap := s3.heap.push { cls := .type "slice", data := .fields #[.none, .none, .int (-1) t] } } := I3.kept (t' := s3.toks) fun b ob q => Heap.get?_push_of_some _ q
  obtain ⟨its, r, ht, hz⟩ := I4.tuple hx
  have hlen := r.length
  have hg : wpAny (model X.prog X.w) X.A (getItem (.ref a) (.ref s3.heap.objs.size)) (EP X pins σ Q) X.xe { s3 with heap := s3.heap.push { cls := .type "slice", data := .fields #[.none, .none, .int (-1) t] } } := by
    refine getItem_tuple_rev ht (Heap.IsSliceOf.new ..) ?_ (by omega)
    refine ⟨.ref _, _, I4.laid (t' := s3.toks) (o := .tup xs.reverse) (fun b ob q => Heap.get?_push_of_some _ q) (Nat.le_refl _) ?_, rfl, q _ (I4.hok.fresh (Nat.le_refl _))⟩
    exact ⟨by rw [List.length_reverse]; exact hz, _, r.reverse, IsTup.new _ _⟩
  show wpAny (model X.prog X.w) X.A (subscriptTail e (.Slice none none (some st) p2) (.ref a) (.ref s3.heap.objs.size)) (EP X pins σ Q) X.xe { s3 with heap := s3.heap.push { cls := .type "slice", data := .fields #[.none, .none, .int (-1) t] } }
  exact tail_any (ops := [.ref a, .ref s3.heap.objs.size]) ht.typeIs PyProof.Rows.slot_tuple_getitem.lookup hg (by with_unfolding_all rfl)
end Wn
/-! values beside lists that still grow: the heap without them; expressions over it -/
namespace Wn
open PySem PySem.Spec PyProof.Rows L2

def di (xs : List Nat) : PyData := .tuple ((ni xs).map PyData.int)
theorem sm_ni {xs : List Nat} {m : Nat} (h : ∀ k ∈ xs, k < 8192) (hm : xs.length ≤ m) : Sm (di xs) 13 1 (m * 14) := by
  refine Sm.tup (W := 13) m (fun d hd => ?_) (by unfold ni; rw [List.length_map, List.length_map]; exact hm)
  obtain ⟨z, hz, rfl⟩ := List.mem_map.mp hd
  obtain ⟨k, hk, rfl⟩ := List.mem_map.mp hz
  exact Sm.int (by decide) (by rw [Int.natAbs_natCast]; exact h k hk) (by decide)
theorem sml_ni {xs : List Nat} {m : Nat} (h : ∀ k ∈ xs, k < 8192) (hm : xs.length ≤ m) : Sm (.list ((ni xs).map PyData.int)) 13 1 (m * 14) := by
  refine Sm.lst (W := 13) m (fun d hd => ?_) (by unfold ni; rw [List.length_map, List.length_map]; exact hm)
  obtain ⟨z, hz, rfl⟩ := List.mem_map.mp hd
  obtain ⟨k, hk, rfl⟩ := List.mem_map.mp hz
  exact Sm.int (by decide) (by rw [Int.natAbs_natCast]; exact h k hk) (by decide)
theorem dp_vnT {K : PySem.W.Frag} {H : Hp} {t : Addr} {xs : List Nat} (h : H t = some (.tup (vn xs))) : Dp K H (.ref t) (di xs) := by
  rw [vn_ni] at h
  exact dp_tup h (dpAll_ints _)
theorem dp_vnL {K : PySem.W.Frag} {H : Hp} {t : Addr} {xs : List Nat} (h : H t = some (.lst (vn xs))) : Dp K H (.ref t) (.list ((ni xs).map PyData.int)) := by
  rw [vn_ni] at h
  exact dp_lst h (dpAll_ints _)

/-! values beside lists that still grow: the heap without them -/
def hid (W : List Addr) (H : Hp) : Hp := fun a => if a ∈ W then none else H a
theorem hid_get {W : List Addr} {H : Hp} {a : Addr} {o : HO} (h : H a = some o) (n : a ∉ W) : hid W H a = some o := by
  unfold hid
  rw [if_neg n]
  exact h
theorem hid_inv {W : List Addr} {H : Hp} {a : Addr} {o : HO} (h : hid W H a = some o) : a ∉ W ∧ H a = some o := by
  unfold hid at h
  by_cases m : a ∈ W
  · rw [if_pos m] at h
    cases h
  · rw [if_neg m] at h
    exact ⟨m, h⟩
theorem hid_kp {W : List Addr} {H H' : Hp} (g : Gr W H H') : Kp (hid W H) (hid W H') :=
  ⟨fun a _ e => hid_get (g a _ (hid_inv e).1 (hid_inv e).2) (hid_inv e).1, fun a _ e => hid_get (g a _ (hid_inv e).1 (hid_inv e).2) (hid_inv e).1, fun a _ _ e => hid_get (g a _ (hid_inv e).1 (hid_inv e).2) (hid_inv e).1⟩
theorem hid_out {W : List Addr} {H : Hp} : Kp (hid W H) H := ⟨fun a _ e => (hid_inv e).2, fun a _ e => (hid_inv e).2, fun a _ _ e => (hid_inv e).2⟩
theorem hid_in0 {H : Hp} : Kp H (hid [] H) := ⟨fun a _ e => hid_get e (by simp), fun a _ e => hid_get e (by simp), fun a _ _ e => hid_get e (by simp)⟩
theorem ne_none {H : Hp} {a S : Addr} {o : HO} (e : H a = some o) (n : H S = none) : a ∉ [S] := fun m => by
  rw [List.mem_singleton] at m
  subst m
  rw [n] at e
  cases e
theorem hid_in {H H' : Hp} {S : Addr} (n : H S = none) (g : Gr [S] H H') : Kp H (hid [S] H') :=
  ⟨fun a _ e => hid_get (g a _ (ne_none e n) e) (ne_none e n), fun a _ e => hid_get (g a _ (ne_none e n) e) (ne_none e n), fun a _ _ e => hid_get (g a _ (ne_none e n) e) (ne_none e n)⟩
def Wst (W : List Addr) (H : Hp) : Prop := ∀ a, a ∈ W → H a ≠ none
theorem Wst.gr {W : List Addr} {H H' : Hp} (s : Wst W H) (g : Gr [] H H') : Wst W H' := fun a m z => by
  cases e : H a with
  | none => exact s a m e
  | some o =>
    rw [g a o (by simp) e] at z
    cases z
theorem Wst.ne {W : List Addr} {H : Hp} {p : Addr} (s : Wst W H) (n : H p = none) : p ∉ W := fun m => s p m n
theorem gr0 {W : List Addr} {H H' : Hp} (g : Gr [] H H') : Gr W H H' := g.mono (by simp)
section
variable {K : PySem.W.Frag} {σ : L2.St} {H : Hp} {W : List Addr}
theorem dpAll_take {H : Hp} : ∀ {vs : List V} {ds : List PyData} (j : Nat), DpAll K H vs ds → DpAll K H (vs.take j) (ds.take j)
  | _, _, 0, _ => by
    rw [List.take_zero, List.take_zero]
    exact .nil
  | _, _, j + 1, .nil => .nil
  | _, _, j + 1, .cons a b => .cons a (dpAll_take j b)
def EvW (K : PySem.W.Frag) (W : List Addr) (te : TE) (σ : L2.St) (H : Hp) (d : PyData) : Prop := ∀ H1, Gr W H H1 → Wst W H1 → ∀ Q : VK, (∀ v H2, Gr [] H1 H2 → Dp K (hid W H2) v d → Q v H2) → te σ H1 Q
def EsW (K : PySem.W.Frag) (W : List Addr) (ta : TA) (σ : L2.St) (H : Hp) (ds : List PyData) : Prop := ∀ H1, Gr W H H1 → Wst W H1 → ∀ Q : List V → Hp → Prop, (∀ vs H2, Gr [] H1 H2 → DpAll K (hid W H2) vs ds → Q vs H2) → ta σ H1 Q
def ElW (W : List Addr) (te : TE) (σ : L2.St) (H : Hp) (xs : List Nat) : Prop := ∀ H1, Gr W H H1 → Wst W H1 → ∀ Q : VK, (∀ p H2, Gr [] H1 H2 → p ∉ W → H2 p = some (.lst (vn xs)) → Q (.ref p) H2) → te σ H1 Q
theorem ew_var {i : Nat} {v : V} {d : PyData} (e : σ[i]? = some (some v)) (h : Dp K (hid W H) v d) : EvW K W (tVar i) σ H d := fun H1 g _ Q q => ⟨v, e, q v H1 (Gr.refl _ _) (Dp.kp (hid_kp g) h)⟩
theorem ew_int {i : Int} : EvW K W (tC (.int i)) σ H (.int i) := fun H1 _ _ Q q => q _ H1 (Gr.refl _ _) (.int i)
theorem ew_bl {i : Bool} : EvW K W (tC (.bl i)) σ H (.bool i) := fun H1 _ _ Q q => q _ H1 (Gr.refl _ _) (.bl i)
theorem ew_str {i : Str} : EvW K W (tC (.str i)) σ H (.str i) := fun H1 _ _ Q q => q _ H1 (Gr.refl _ _) (.str i)
theorem ew_non : EvW K W (tC .non) σ H .none := fun H1 _ _ Q q => q _ H1 (Gr.refl _ _) .non
theorem esw_nil : EsW K W tNil σ H [] := fun H1 _ _ Q q => q _ H1 (Gr.refl _ _) .nil
theorem esw_cons {te : TE} {ta : TA} {d : PyData} {ds : List PyData} (h : EvW K W te σ H d) (r : EsW K W ta σ H ds) : EsW K W (tCons te ta) σ H (d :: ds) := fun H1 g s Q q =>
  h H1 g s _ fun v H2 g2 dv => r H2 (g.trans (gr0 g2)) (s.gr g2) _ fun vs H3 g3 dvs => q _ H3 (g2.trans g3) (.cons (Dp.kp (hid_kp (gr0 g3)) dv) dvs)
theorem ew_tup {ta : TA} {ds : List PyData} (h : EsW K W ta σ H ds) (hz : ds.length ≤ 1000 := by exact Nat.le_of_ble_eq_true rfl) : EvW K W (tTup ta) σ H (.tuple ds) := fun H1 g s Q q =>
  h H1 g s _ fun vs H2 g2 a => ⟨by rw [dpAll_len a]; exact Nat.le_of_lt (small1000 hz), fun p np => q _ _ (g2.trans (Gr.new np)) (dp_tup (hid_get upd_same ((s.gr g2).ne np)) (DpAll.kp (hid_kp (Gr.new np)) a))⟩
theorem ew_lst {ta : TA} {ds : List PyData} (h : EsW K W ta σ H ds) (hz : ds.length ≤ 1000 := by exact Nat.le_of_ble_eq_true rfl) : EvW K W (tLst ta) σ H (.list ds) := fun H1 g s Q q =>
  h H1 g s _ fun vs H2 g2 a => ⟨by rw [dpAll_len a]; exact Nat.le_of_lt (small1000 hz), fun p np => q _ _ (g2.trans (Gr.new np)) (dp_lst (hid_get upd_same ((s.gr g2).ne np)) (DpAll.kp (hid_kp (Gr.new np)) a))⟩
theorem elw_var {i : Nat} {r : Addr} {xs : List Nat} (e : σ[i]? = some (some (.ref r))) (h : H r = some (.lst (vn xs))) (n : r ∉ W) : ElW W (tVar i) σ H xs := fun H1 g _ Q q => ⟨_, e, q r H1 (Gr.refl _ _) n (g r _ n h)⟩
def lstD (xs : List Nat) : PyData := .list ((ni xs).map PyData.int)
theorem elw_d {te : TE} {xs : List Nat} (h : ElW W te σ H xs) : EvW K W te σ H (lstD xs) := fun H1 g s Q q => h H1 g s _ fun p H2 g2 n e => q _ H2 g2 (dp_vnL (hid_get e n))
theorem elw_take {te : TE} {xs : List Nat} {j : Nat} (h : ElW W te σ H xs) (hj : j ≤ xs.length) : ElW W (tSl (rSlL K) te tNoPart (tPart (tC (.int (j : Nat))))) σ H (xs.take j) := fun H1 g s Q q =>
  h H1 g s _ fun p H2 g2 n e => ⟨(j : Int), rfl, p, vn xs, rfl, sq_lst e, fun t nt => q t _ (g2.trans (Gr.new nt)) ((s.gr g2).ne nt) (by
    rw [upd_same, cut_lo (by rw [vn_len]; exact hj)]
    unfold vn
    rw [List.map_take])⟩
theorem elw_drop {te : TE} {xs : List Nat} {j : Nat} (h : ElW W te σ H xs) (hj : j ≤ xs.length) : ElW W (tSl (rSlL K) te (tPart (tC (.int (j : Nat)))) tNoPart) σ H (xs.drop j) := fun H1 g s Q q =>
  h H1 g s _ fun p H2 g2 n e => ⟨(j : Int), rfl, p, vn xs, rfl, sq_lst e, fun t nt => q t _ (g2.trans (Gr.new nt)) ((s.gr g2).ne nt) (by
    rw [upd_same, cut_hi (by rw [vn_len]; exact hj)]
    unfold vn
    rw [List.map_drop])⟩
theorem cut_init {xs : List Nat} {y : Nat} : cutV (vn (xs ++ [y])) none (some (-1)) = vn xs := by
  unfold cutV
  have e : HT.sIx (vn (xs ++ [y])).length (vn (xs ++ [y])).length (some (-1)) = xs.length := by
    have e0 : ∀ n d : Nat, HT.sIx n d (some (-1)) = ((-1 : Int) + (n : Int)).toNat := fun n d => by
      unfold HT.sIx
      exact if_pos (by decide)
    rw [e0, vn_len, List.length_append]
    show ((-1 : Int) + ((xs.length + 1 : Nat) : Int)).toNat = _
    omega
  rw [e, HT.sIx_none, List.drop_zero, Nat.sub_zero]
  unfold vn
  rw [← List.map_take, List.take_append_of_le_length (Nat.le_refl _), List.take_length]
theorem elw_init {te : TE} {xs : List Nat} {y : Nat} (h : ElW W te σ H (xs ++ [y])) : ElW W (tSl (rSlL K) te tNoPart (tPart (tUn (rU fun i => V.int (-i)) (tC (.int 1))))) σ H xs := fun H1 g s Q q =>
  h H1 g s _ fun p H2 g2 n e => ⟨1, rfl, (-1 : Int), rfl, p, vn (xs ++ [y]), rfl, sq_lst e, fun t nt => q t _ (g2.trans (Gr.new nt)) ((s.gr g2).ne nt) (by rw [upd_same, cut_init])⟩
theorem elw_cat {ta tb : TE} {xs ys : List Nat} (h1 : ElW W ta σ H xs) (h2 : ElW W tb σ H ys) (hz : xs.length + ys.length ≤ 6000) : ElW W (tOp rCat ta tb) σ H (xs ++ ys) := fun H1 g s Q q =>
  h1 H1 g s _ fun p H2 g2 n2 e2 => h2 H2 (g.trans (gr0 g2)) (s.gr g2) _ fun p3 H3 g3 n3 e3 =>
    ⟨p, p3, vn xs, vn ys, rfl, rfl, g3 p _ (by simp) e2, e3, by rw [vn_len, vn_len]; exact Nat.le_trans hz (by decide), fun t nt => q t _ ((g2.trans g3).trans (Gr.new nt)) (((s.gr g2).gr g3).ne nt) (by
      rw [upd_same]
      unfold vn
      rw [List.map_append])⟩
theorem ew_tupOf {te : TE} {xs : List Nat} (h : ElW W te σ H xs) : EvW K W (tCB (rTpO K) (tCons te tNil)) σ H (di xs) := fun H1 g s Q q =>
  h H1 g s _ fun p H2 g2 n e => ⟨p, vn xs, rfl, .inl ⟨sq_lst e, fun t nt => q _ _ (g2.trans (Gr.new nt)) (dp_vnT (hid_get upd_same ((s.gr g2).ne nt)))⟩⟩
theorem ew_listOf {te : TE} {ds : List PyData} (h : EvW K W te σ H (.tuple ds)) : EvW K W (tCB (rLsO K) (tCons te tNil)) σ H (.list ds) := fun H1 g s Q q =>
  h H1 g s _ fun v H2 g2 e => by
    cases e with
    | tup s' a' => exact ⟨_, _, rfl, .inr (hid_out.sqT s'), fun l nl => q _ _ (g2.trans (Gr.new nl)) (dp_lst (hid_get upd_same ((s.gr g2).ne nl)) (DpAll.kp (hid_kp (Gr.new nl)) a'))⟩
theorem ew_slT {te : TE} {ds : List PyData} {j : Nat} (h : EvW K W te σ H (.tuple ds)) (hj : j ≤ ds.length) : EvW K W (tSl (rSlA K) te tNoPart (tPart (tC (.int (j : Nat))))) σ H (.tuple (ds.take j)) := fun H1 g s Q q =>
  h H1 g s _ fun v H2 g2 e => by
    cases e with
    | @tup a ys _ s' t =>
      have hl := dpAll_len t
      refine ⟨(j : Int), rfl, a, ys, rfl, hid_out.sqT s', fun z => ?_, fun _ p np => ?_⟩
      · have e1 := z.2
        rw [HT.sIx_nat] at e1
        have e2 : ds.take j = ds := List.take_of_length_le (by omega)
        refine q _ H2 g2 ?_
        rw [e2]
        exact .tup s' t
      · refine q _ _ (g2.trans (Gr.new np)) (dp_tup (hid_get upd_same ((s.gr g2).ne np)) ?_)
        rw [cut_lo (by omega)]
        exact DpAll.kp (hid_kp (Gr.new np)) (dpAll_take j t)
theorem ew_catT {ta tb : TE} {ds es : List PyData} (h1 : EvW K W ta σ H (.tuple ds)) (h2 : EvW K W tb σ H (.tuple es)) (hz : ds.length + es.length ≤ 6000) : EvW K W (tOp (rCatA K) ta tb) σ H (.tuple (ds ++ es)) := fun H1 g s Q q =>
  h1 H1 g s _ fun v H2 g2 e2 => h2 H2 (g.trans (gr0 g2)) (s.gr g2) _ fun v3 H3 g3 e3 => by
    have e2 := Dp.kp (hid_kp (gr0 g3)) e2
    cases e2 with
    | @tup a xs _ s1 t1 =>
      cases e3 with
      | @tup b ys _ s2 t2 =>
        have l1 := dpAll_len t1
        have l2 := dpAll_len t2
        refine ⟨a, b, xs, ys, rfl, rfl, hid_out.sqT s1, hid_out.sqT s2, Nat.le_trans (show _ ≤ 6000 by omega) (by decide), fun z => ?_, fun _ z => ?_, fun _ _ p np => ?_⟩
        · subst z
          cases t1
          exact q _ H3 (g2.trans g3) (.tup s2 t2)
        · subst z
          cases t2
          rw [List.append_nil] at q
          exact q _ H3 (g2.trans g3) (.tup s1 t1)
        · exact q _ _ ((g2.trans g3).trans (Gr.new np)) (dp_tup (hid_get upd_same (((s.gr g2).gr g3).ne np)) (DpAll.kp (hid_kp (Gr.new np)) (dpAll_append t1 t2)))
/-- a pair put to a list that grows -/
theorem hid_put {H : Hp} {S p : Addr} {vs : List V} {ds : List PyData} {s : Str} {v : V} {d : PyData} (e : H S = some (.lst vs)) (a : DpAll K (hid [S] H) vs ds) (h : Dp K (hid [S] H) v d) (np : H p = none) :
    (upd H p (.tup [.str s, v])) S = some (.lst vs) ∧ Gr [S] H (upd (upd H p (.tup [.str s, v])) S (.lst (vs ++ [.ref p]))) ∧ DpAll K (hid [S] (upd (upd H p (.tup [.str s, v])) S (.lst (vs ++ [.ref p])))) (vs ++ [.ref p]) (ds ++ [.tuple [.str s, d]]) := by
  have hne : p ≠ S := fun z => by
    subst z
    rw [np] at e
    cases e
  have g1 : Gr [] H (upd H p (.tup [.str s, v])) := Gr.new np
  have g2 : Gr [S] H (upd (upd H p (.tup [.str s, v])) S (.lst (vs ++ [.ref p]))) := (gr0 g1).trans (Gr.wr (by simp))
  have hp : hid [S] (upd (upd H p (.tup [.str s, v])) S (.lst (vs ++ [.ref p]))) p = some (.tup [.str s, v]) := hid_get (by rw [upd_ne hne, upd_same]) (by simpa using hne)
  exact ⟨g1 S _ (by simp) e, g2, dpAll_append (DpAll.kp (hid_kp g2) a) (.cons (dp_tup hp (.cons (.str _) (.cons (Dp.kp (hid_kp g2) h) .nil))) .nil)⟩
end

theorem EvW.evd {K : PySem.W.Frag} {te : TE} {σ : L2.St} {H : Hp} {d : PyData} (h : EvW K [] te σ H d) : EvD K te σ H d := fun H1 g Q q => h H1 g (fun a m => by simp at m) Q fun v H2 g2 e => q v H2 g2 (Dp.kp hid_out e)
theorem EvD.evw {K : PySem.W.Frag} {te : TE} {σ : L2.St} {H : Hp} {d : PyData} (h : EvD K te σ H d) : EvW K [] te σ H d := fun H1 g _ Q q => h H1 g Q fun v H2 g2 e => q v H2 g2 (Dp.kp hid_in0 e)
theorem dpA_at {K : PySem.W.Frag} {H : Hp} : ∀ {xs : List V} {ds : List PyData} {i : Nat} {y : V}, DpAll K H xs ds → xs[i]? = some y → ∃ d, ds[i]? = some d ∧ Dp K H y d
  | _, _, i, y, .nil, h => by simp at h
  | _, _, 0, y, .cons a b, h => by
    simp at h
    subst h
    exact ⟨_, rfl, a⟩
  | _, _, i + 1, y, .cons a b, h => by
    obtain ⟨d, e1, e2⟩ := dpA_at (i := i) b (by simpa using h)
    exact ⟨d, by simpa using e1, e2⟩
theorem dpA_get {K : PySem.W.Frag} {H : Hp} : ∀ {xs : List V} {ds : List PyData} {i : Nat} {d : PyData}, DpAll K H xs ds → ds[i]? = some d → ∃ y, xs[i]? = some y ∧ Dp K H y d
  | _, _, i, y, .nil, h => by simp at h
  | _, _, 0, y, .cons a b, h => by
    simp at h
    subst h
    exact ⟨_, rfl, a⟩
  | _, _, i + 1, y, .cons a b, h => by
    obtain ⟨d, e1, e2⟩ := dpA_get (i := i) b (by simpa using h)
    exact ⟨d, by simpa using e1, e2⟩
theorem dpA_drop {K : PySem.W.Frag} {H : Hp} : ∀ {vs : List V} {ds : List PyData} (j : Nat), DpAll K H vs ds → DpAll K H (vs.drop j) (ds.drop j)
  | _, _, 0, h => by
    rw [List.drop_zero, List.drop_zero]
    exact h
  | _, _, j + 1, .nil => .nil
  | _, _, j + 1, .cons a b => dpA_drop j b
theorem dpA_rev {K : PySem.W.Frag} {H : Hp} : ∀ {vs : List V} {ds : List PyData}, DpAll K H vs ds → DpAll K H vs.reverse ds.reverse
  | _, _, .nil => .nil
  | _, _, .cons a b => by
    rw [List.reverse_cons, List.reverse_cons]
    exact dpAll_append (dpA_rev b) (.cons a .nil)
theorem hid_ofM {W : List Addr} {H H' : Hp} {d : Addr} (g : Gr [d] H H') (h : ∃ kvs, H d = some (.dK kvs)) (n : d ∉ W) : Kp (hid W H) (hid W H') :=
  Kp.ofM (d := d) (fun a o m e => hid_get (g a o m (hid_inv e).2) (hid_inv e).1) (by
    obtain ⟨kvs, h⟩ := h
    exact ⟨kvs, hid_get h n⟩)
theorem fresh_keep {H H1 H2 : Hp} {d : Addr} (nd : H d = none) (g1 : Gr [] H H1) (g2 : Gr [d] H1 H2) : Gr [] H H2 := fun u o _ e => g2 u o (by rw [List.mem_singleton]; exact ne_of_none e nd) (g1 u o (by simp) e)
theorem cut_hi' {xs : List V} {j : Nat} : cutV xs (some (j : Int)) none = xs.drop j := by
  unfold cutV
  rw [HT.sIx_nat, HT.sIx_none]
  rcases Nat.le_total j xs.length with h | h
  · rw [Nat.min_eq_left h]
    exact List.take_of_length_le (by rw [List.length_drop]; omega)
  · rw [Nat.min_eq_right h, List.drop_eq_nil_of_le h, Nat.sub_self, List.take_zero]
theorem cut_lo' {xs : List V} {j : Nat} : cutV xs none (some (j : Int)) = xs.take j := by
  unfold cutV
  rw [HT.sIx_nat, HT.sIx_none, List.drop_zero, Nat.sub_zero]
  rcases Nat.le_total j xs.length with h | h
  · rw [Nat.min_eq_left h]
  · rw [Nat.min_eq_right h, List.take_of_length_le h, List.take_of_length_le (Nat.le_refl _)]
section
variable {K : PySem.W.Frag} {σ : L2.St} {H : Hp} {W : List Addr}
theorem EvW.on {te : TE} {d : PyData} {H' : Hp} (h : EvW K W te σ H d) (g : Gr W H H') : EvW K W te σ H' d := fun H1 g1 s Q q => h H1 (g.trans g1) s Q q
theorem ew_i0 {g : Int → Int → Int} {ta tb : TE} {i j : Int} (h1 : EvW K W ta σ H (.int i)) (h2 : EvW K W tb σ H (.int j)) : EvW K W (tOp (rI0 fun i j => .int (g i j)) ta tb) σ H (.int (g i j)) := fun H1 gr s Q q =>
  h1 H1 gr s _ fun v H2 g2 e => h2 H2 (gr.trans (gr0 g2)) (s.gr g2) _ fun w H3 g3 e3 => by
    obtain rfl := dp_int e
    obtain rfl := dp_int e3
    exact ⟨i, j, rfl, rfl, q _ H3 (g2.trans g3) (.int _)⟩
theorem ew_iC {C : Int → Int → Prop} {g : Int → Int → Int} {ta tb : TE} {i j : Int} (h1 : EvW K W ta σ H (.int i)) (h2 : EvW K W tb σ H (.int j)) (hc : C i j) : EvW K W (tOp (rI C fun i j => .int (g i j)) ta tb) σ H (.int (g i j)) := fun H1 gr s Q q =>
  h1 H1 gr s _ fun v H2 g2 e => h2 H2 (gr.trans (gr0 g2)) (s.gr g2) _ fun w H3 g3 e3 => by
    obtain rfl := dp_int e
    obtain rfl := dp_int e3
    exact ⟨i, j, rfl, rfl, hc, q _ H3 (g2.trans g3) (.int _)⟩
theorem ew_neg {g : Int → Int} {ta : TE} {i : Int} (h1 : EvW K W ta σ H (.int i)) : EvW K W (tUn (rU fun i => .int (g i)) ta) σ H (.int (g i)) := fun H1 gr s Q q =>
  h1 H1 gr s _ fun v H2 g2 e => by
    obtain rfl := dp_int e
    exact ⟨i, rfl, q _ H2 g2 (.int _)⟩
theorem ew_to {te : TE} {d e : PyData} (h : EvW K W te σ H d) (z : d = e) : EvW K W te σ H e := z ▸ h
theorem ew_take {te tp : TE} {ds : List PyData} {j : Nat} (h : EvW K W te σ H (.tuple ds)) (hp : EvW K W tp σ H (.int (j : Nat))) : EvW K W (tSl (rSlA K) te tNoPart (tPart tp)) σ H (.tuple (ds.take j)) := fun H1 g s Q q =>
  h H1 g s _ fun v H2 g2 e => hp H2 (g.trans (gr0 g2)) (s.gr g2) _ fun vj H3 g3 ej => by
    obtain rfl := dp_int ej
    have e := Dp.kp (hid_kp (gr0 g3)) e
    cases e with
    | @tup a ys _ s' t =>
      have hl := dpAll_len t
      refine ⟨(j : Int), rfl, a, ys, rfl, hid_out.sqT s', fun z => ?_, fun _ p np => ?_⟩
      · have e1 := z.2
        rw [HT.sIx_nat] at e1
        have e2 : ds.take j = ds := List.take_of_length_le (by omega)
        refine q _ H3 (g2.trans g3) ?_
        rw [e2]
        exact .tup s' t
      · refine q _ _ ((g2.trans g3).trans (Gr.new np)) (dp_tup (hid_get upd_same (((s.gr g2).gr g3).ne np)) ?_)
        rw [cut_lo']
        exact DpAll.kp (hid_kp (Gr.new np)) (dpAll_take j t)
theorem ew_drop {te tp : TE} {ds : List PyData} {j : Nat} (h : EvW K W te σ H (.tuple ds)) (hp : EvW K W tp σ H (.int (j : Nat))) : EvW K W (tSl (rSlA K) te (tPart tp) tNoPart) σ H (.tuple (ds.drop j)) := fun H1 g s Q q =>
  h H1 g s _ fun v H2 g2 e => hp H2 (g.trans (gr0 g2)) (s.gr g2) _ fun vj H3 g3 ej => by
    obtain rfl := dp_int ej
    have e := Dp.kp (hid_kp (gr0 g3)) e
    cases e with
    | @tup a ys _ s' t =>
      have hl := dpAll_len t
      refine ⟨(j : Int), rfl, a, ys, rfl, hid_out.sqT s', fun z => ?_, fun _ p np => ?_⟩
      · have e1 := z.1
        rw [HT.sIx_nat] at e1
        refine q _ H3 (g2.trans g3) ?_
        have e2 : ds.drop j = ds := by
          rcases Nat.eq_zero_or_pos j with z | z
          · subst z
            rfl
          · have : ds.length = 0 := by omega
            rw [List.length_eq_zero_iff.mp this]
            cases j <;> rfl
        rw [e2]
        exact .tup s' t
      · refine q _ _ ((g2.trans g3).trans (Gr.new np)) (dp_tup (hid_get upd_same (((s.gr g2).gr g3).ne np)) ?_)
        rw [cut_hi']
        exact DpAll.kp (hid_kp (Gr.new np)) (dpA_drop j t)
theorem ew_rev {te : TE} {ds : List PyData} (h : EvW K W te σ H (.tuple ds)) : EvW K W (tStL (rRvT K) te (tUn (rU fun i => V.int (-i)) (tC (.int 1)))) σ H (.tuple ds.reverse) := fun H1 g s Q q =>
  h H1 g s _ fun v H2 g2 e => by
    cases e with
    | @tup a ys _ s' t =>
      exact ⟨1, rfl, a, ys, rfl, rfl, hid_out.sqT s', fun p np => q _ _ (g2.trans (Gr.new np)) (dp_tup (hid_get upd_same ((s.gr g2).ne np)) (DpAll.kp (hid_kp (Gr.new np)) (dpA_rev t)))⟩
theorem ew_ixT {te ti : TE} {ds : List PyData} {d : PyData} {j : Nat} (h : EvW K W te σ H (.tuple ds)) (hi : EvW K W ti σ H (.int (j : Nat))) (hj : ds[j]? = some d) : EvW K W (tOp (rIxT K) te ti) σ H d := fun H1 g s Q q =>
  h H1 g s _ fun v H2 g2 e => hi H2 (g.trans (gr0 g2)) (s.gr g2) _ fun vi H3 g3 ei => by
    obtain rfl := dp_int ei
    have e := Dp.kp (hid_kp (gr0 g3)) e
    cases e with
    | @tup a ys _ s' t =>
      obtain ⟨y, hy, dy⟩ := dpA_get t hj
      exact ⟨a, ys, (j : Int), y, rfl, rfl, hid_out.sqT s', atI_nat hy, q _ H3 (g2.trans g3) dy⟩
theorem ew_ixL {te ti : TE} {ds : List PyData} {d : PyData} {j : Nat} (h : EvW K W te σ H (.list ds)) (hi : EvW K W ti σ H (.int (j : Nat))) (hj : ds[j]? = some d) : EvW K W (tOp (rIxL K) te ti) σ H d := fun H1 g s Q q =>
  h H1 g s _ fun v H2 g2 e => hi H2 (g.trans (gr0 g2)) (s.gr g2) _ fun vi H3 g3 ei => by
    obtain rfl := dp_int ei
    have e := Dp.kp (hid_kp (gr0 g3)) e
    cases e with
    | @lst a ys _ s' t =>
      obtain ⟨y, hy, dy⟩ := dpA_get t hj
      exact ⟨a, ys, (j : Int), y, rfl, rfl, hid_out.sqL s', atI_nat hy, q _ H3 (g2.trans g3) dy⟩
theorem ew_lenT {te : TE} {ds : List PyData} (h : EvW K W te σ H (.tuple ds)) : EvW K W (tCB (rLn K) (tCons te tNil)) σ H (.int (ds.length : Nat)) := fun H1 g s Q q =>
  h H1 g s _ fun v H2 g2 e => by
    cases e with
    | @tup a ys _ s' t => exact ⟨a, ys, rfl, .inr (hid_out.sqT s'), by rw [dpAll_len t]; exact q _ H2 g2 (.int _)⟩
theorem ew_lenL {te : TE} {ds : List PyData} (h : EvW K W te σ H (.list ds)) : EvW K W (tCB (rLn K) (tCons te tNil)) σ H (.int (ds.length : Nat)) := fun H1 g s Q q =>
  h H1 g s _ fun v H2 g2 e => by
    cases e with
    | @lst a ys _ s' t => exact ⟨a, ys, rfl, .inl (hid_out.sqL s'), by rw [dpAll_len t]; exact q _ H2 g2 (.int _)⟩
theorem ew_repr {te : TE} {d : PyData} (h : EvW K W te σ H d) (f : Fits d) : EvW K W (tCB (rRepr K) (tCons te tNil)) σ H (.str d.shown) := fun H1 g s Q q =>
  h H1 g s _ fun v H2 g2 a => ⟨v, d, rfl, Dp.kp hid_out a, f, q _ H2 g2 (.str _)⟩
theorem ew_neS {ta tb : TE} {x y : Str} (h1 : EvW K W ta σ H (.str x)) (h2 : EvW K W tb σ H (.str y)) : EvW K W (tOp rNe ta tb) σ H (.bool (!decide (x = y))) := fun H1 g s Q q =>
  h1 H1 g s _ fun v H2 g2 a => h2 H2 (g.trans (gr0 g2)) (s.gr g2) _ fun w H3 g3 b => by
    have e1 : v = .str x := by cases a; rfl
    have e2 : w = .str y := by cases b; rfl
    subst e1 e2
    refine ⟨rfl, ?_⟩
    have e3 : decide (V.str x = V.str y) = decide (x = y) := by
      rw [decide_eq_decide]
      exact ⟨fun z => V.str.inj z, fun z => by rw [z]⟩
    show Q (.bl (!decide (V.str x = V.str y))) H3
    rw [e3]
    exact q _ H3 (g2.trans g3) (.bl _)
theorem ew_eqD {ta tb : TE} {d e : PyData} (h1 : EvW K W ta σ H d) (h2 : EvW K W tb σ H e) (s1 : SeqAt.shaped d = true) (s2 : SeqAt.shaped e = true) : EvW K W (tOp (rEqD K) ta tb) σ H (.bool (PyData.eqv d e)) := fun H1 g s Q q =>
  h1 H1 g s _ fun v H2 g2 a => h2 H2 (g.trans (gr0 g2)) (s.gr g2) _ fun w H3 g3 b => ⟨d, e, Dp.kp hid_out (Dp.kp (hid_kp (gr0 g3)) a), Dp.kp hid_out b, s1, s2, q _ H3 (g2.trans g3) (.bl _)⟩
theorem ew_neD {ta tb : TE} {d e : PyData} (h1 : EvW K W ta σ H d) (h2 : EvW K W tb σ H e) (s1 : SeqAt.shaped d = true) (s2 : SeqAt.shaped e = true) : EvW K W (tOp (rNeD K) ta tb) σ H (.bool (!PyData.eqv d e)) := fun H1 g s Q q =>
  h1 H1 g s _ fun v H2 g2 a => h2 H2 (g.trans (gr0 g2)) (s.gr g2) _ fun w H3 g3 b => ⟨d, e, Dp.kp hid_out (Dp.kp (hid_kp (gr0 g3)) a), Dp.kp hid_out b, s1, s2, q _ H3 (g2.trans g3) (.bl _)⟩
/-- a test that is data, under hidden lists -/
theorem tw_of {te : TE} {b : Bool} {Q : Bool → Hp → Prop} (wst : Wst W H) (h : EvW K W te σ H (.bool b)) (q : ∀ H2, Gr [] H H2 → Q b H2) : tTest te σ H Q := h H (Gr.refl _ _) wst _ fun v H2 g2 e => ⟨b, dp_bool e, q H2 g2⟩
theorem twb_of {te : TE} {b : Bool} {Q : Bool → Hp → Prop} (wst : Wst W H) (h : EvW K W te σ H (.bool b)) (q : ∀ H2, Gr [] H H2 → Q b H2) : tB te σ H Q := h H (Gr.refl _ _) wst _ fun v H2 g2 e => ⟨b, dp_bool e, q H2 g2⟩
theorem st_asgW {ta : TA} {i : Nat} {ds : List PyData} {D : Ends} (h : EsW K [] ta σ H ds) (hz : ds.length ≤ 1000) (k : ∀ vs H2 S, Gr [] H H2 → H2 S = none → DpAll K H2 vs ds → D.nx (σ.set i (some (.ref S))) (upd H2 S (.lst vs))) : tAsg (tLst ta) (gName i) D σ H :=
  h H (Gr.refl _ _) (fun a m => by simp at m) _ fun vs H2 g2 a => ⟨by rw [dpAll_len a]; exact Nat.le_of_lt (small1000 hz), fun S nS => k vs H2 S g2 nS (DpAll.kp hid_out a)⟩
theorem st_asgV {ta : TA} {i : Nat} {ds : List PyData} {D : Ends} (wst : Wst W H) (h : EsW K W ta σ H ds) (hz : ds.length ≤ 1000) (k : ∀ os H2 p, Gr [] H H2 → H2 p = none → p ∉ W → DpAll K (hid W H2) os ds → D.nx (σ.set i (some (.ref p))) (upd H2 p (.lst os))) : tAsg (tLst ta) (gName i) D σ H :=
  h H (Gr.refl _ _) wst _ fun vs H2 g2 a => ⟨by rw [dpAll_len a]; exact Nat.le_of_lt (small1000 hz), fun p np => k vs H2 p g2 np ((wst.gr g2).ne np) a⟩
/-- xs.append(e), by the size of the list -/
theorem st_appD {te : TE} {i : Nat} {l : Addr} {xs : List V} {ds : List PyData} {d : PyData} {D : Ends} (hi : σ[i]? = some (some (.ref l))) (e : H l = some (.lst xs)) (a : DpAll K H xs ds) (h : EvW K [] te σ H d) (hn : noLenAll ds.length (ds ++ [d]) = true) (hz : ds.length < 1000)
    (k : ∀ ys H2, Gr [l] H H2 → H2 l = some (.lst ys) → DpAll K H2 ys (ds ++ [d]) → (∀ v d, Dp K H v d → noLen ds.length d = true → Dp K H2 v d) → D.nx σ H2) : tDrop (tBM K "list" rAppend (tVar i) (tCons te tNil)) D σ H := by
  refine ⟨_, hi, .inl ⟨rfl, _, sq_lst e⟩, ?_⟩
  refine h H (Gr.refl _ _) (fun a m => by simp at m) _ fun v H2 g2 dv => ?_
  have dv := Dp.kp hid_out dv
  have hl := dpAll_len a
  have e2 := g2 l _ (by simp) e
  have a2 := DpAll.kp (Kp.of g2) a
  rw [noLenAll_app, Bool.and_eq_true] at hn
  have n2 : noLen ds.length d = true := by
    have := hn.2
    rw [noLenAll, Bool.and_eq_true] at this
    exact this.1
  refine ⟨l, xs, v, rfl, rfl, e2, Nat.lt_of_lt_of_le (show xs.length < 6000 by omega) (by decide), ?_⟩
  refine k (xs ++ [v]) _ ((gr0 g2).trans (Gr.wr (by simp))) upd_same (dpAll_append (DpAll.app e2 a2 (by rw [hl]; exact hn.1)) (.cons (Dp.app e2 dv (by rw [hl]; exact n2)) .nil)) fun w dd hw hn => ?_
  exact Dp.app e2 (Dp.kp (Kp.of g2) hw) (by rw [hl]; exact hn)
theorem dpA_ints : ∀ {H : Hp} {vs : List V} {zs : List Int}, DpAll K H vs (zs.map PyData.int) → vs = zs.map V.int
  | _, _, [], .nil => rfl
  | _, _, z :: zs, .cons a b => by
    rw [dp_int a, dpA_ints b]
    rfl
theorem dpA_int2 {H : Hp} {vs : List V} {x : Int} {d : PyData} (h : DpAll K H vs [.int x, d]) : ∃ v, vs = [.int x, v] ∧ Dp K H v d := by
  cases h with
  | cons a h =>
    cases h with
    | cons b h =>
      cases h
      obtain rfl := dp_int a
      exact ⟨_, rfl, b⟩
theorem dpA_int3 {H : Hp} {vs : List V} {x y : Int} {d : PyData} (h : DpAll K H vs [.int x, .int y, d]) : ∃ v, vs = [.int x, .int y, v] ∧ Dp K H v d := by
  cases h with
  | cons a h =>
    obtain rfl := dp_int a
    obtain ⟨v, rfl, e⟩ := dpA_int2 h
    exact ⟨v, rfl, e⟩
theorem dp_two {H : Hp} {v : V} {i j : Int} (h : Dp K H v (.tuple [.int i, .int j])) : ∃ a, v = .ref a ∧ SqT K H a [.int i, .int j] := by
  cases h with
  | @tup a xs _ s t =>
    cases t with
    | cons h1 t =>
      cases t with
      | cons h2 t =>
        cases t
        obtain rfl := dp_int h1
        obtain rfl := dp_int h2
        exact ⟨a, rfl, s⟩
theorem two_dp {H : Hp} {a : Addr} {i j : Int} (s : SqT K H a [.int i, .int j]) : Dp K H (.ref a) (.tuple [.int i, .int j]) := .tup s (.cons (.int _) (.cons (.int _) .nil))
/-- a call that gives data -/
def SpD (K : PySem.W.Frag) (sp : Sp) (E : XK) (ds : List PyData) (d : PyData) : Prop := ∀ vs H1 Q, DpAll K H1 vs ds → (∀ v H2, Gr [] H1 H2 → Dp K H2 v d → Q v H2) → sp vs H1 Q E
theorem ew_call {sp : Sp} {ta : TA} {E : XK} {ds : List PyData} {d : PyData} (h : EsW K [] ta σ H ds) (hs : SpD K sp E ds d) : EvW K [] (tCall sp [] E ta) σ H d := fun H1 g s Q q =>
  h H1 g s _ fun vs H2 g2 a => by
    show sp (vs ++ []) H2 Q E
    rw [List.append_nil]
    exact hs vs H2 Q (DpAll.kp hid_out a) fun v H3 g3 dv => q v H3 (g2.trans g3) (Dp.kp hid_in0 dv)
theorem ew_andV {ta tb : TE} {a b : Bool} (h1 : EvW K W ta σ H (.bool a)) (h2 : EvW K W tb σ H (.bool b)) : EvW K W (tAndV ta tb) σ H (.bool (a && b)) := fun H1 g s Q q =>
  h1 H1 g s _ fun v H2 g2 e => ⟨a, dp_bool e, by
    cases a with
    | true => exact iteT (h2 H2 (g.trans (gr0 g2)) (s.gr g2) _ fun w H3 g3 e3 => q w H3 (g2.trans g3) e3)
    | false => exact iteF (q _ H2 g2 (.bl false))⟩
theorem ew_orV {ta tb : TE} {a b : Bool} (h1 : EvW K W ta σ H (.bool a)) (h2 : EvW K W tb σ H (.bool b)) : EvW K W (tOrV ta tb) σ H (.bool (a || b)) := fun H1 g s Q q =>
  h1 H1 g s _ fun v H2 g2 e => ⟨a, dp_bool e, by
    cases a with
    | true => exact iteT (q _ H2 g2 (.bl true))
    | false => exact iteF (h2 H2 (g.trans (gr0 g2)) (s.gr g2) _ fun w H3 g3 e3 => q w H3 (g2.trans g3) e3)⟩
theorem ew_catL {ta tb : TE} {ds es : List PyData} (h1 : EvL K ta σ H ds) (h2 : EvL K tb σ H es) (hz : ds.length + es.length ≤ 1000) : EvW K [] (tOp rCat ta tb) σ H (.list (ds ++ es)) := (el_cat h1 h2 hz).d.evw
/-- scalars compared -/
theorem ew_eqI {ta tb : TE} {x y : Int} (h1 : EvW K W ta σ H (.int x)) (h2 : EvW K W tb σ H (.int y)) : EvW K W (tOp rEq ta tb) σ H (.bool (decide (x = y))) := fun H1 g s Q q =>
  h1 H1 g s _ fun v H2 g2 a => h2 H2 (g.trans (gr0 g2)) (s.gr g2) _ fun w H3 g3 b => by
    obtain rfl := dp_int a
    obtain rfl := dp_int b
    refine ⟨rfl, ?_⟩
    have e3 : decide (V.int x = V.int y) = decide (x = y) := by
      rw [decide_eq_decide]
      exact ⟨fun z => V.int.inj z, fun z => by rw [z]⟩
    show Q (.bl (decide (V.int x = V.int y))) H3
    rw [e3]
    exact q _ H3 (g2.trans g3) (.bl _)
theorem ew_neI {ta tb : TE} {x y : Int} (h1 : EvW K W ta σ H (.int x)) (h2 : EvW K W tb σ H (.int y)) : EvW K W (tOp rNe ta tb) σ H (.bool (!decide (x = y))) := fun H1 g s Q q =>
  h1 H1 g s _ fun v H2 g2 a => h2 H2 (g.trans (gr0 g2)) (s.gr g2) _ fun w H3 g3 b => by
    obtain rfl := dp_int a
    obtain rfl := dp_int b
    refine ⟨rfl, ?_⟩
    have e3 : decide (V.int x = V.int y) = decide (x = y) := by
      rw [decide_eq_decide]
      exact ⟨fun z => V.int.inj z, fun z => by rw [z]⟩
    show Q (.bl (!decide (V.int x = V.int y))) H3
    rw [e3]
    exact q _ H3 (g2.trans g3) (.bl _)
theorem ew_bool {te : TE} {a b : Bool} (h : EvW K W te σ H (.bool a)) (e : a = b) : EvW K W te σ H (.bool b) := e ▸ h
/-- x = e, e data, beside hidden lists -/
theorem st_setW {te : TE} {i : Nat} {d : PyData} {D : Ends} (wst : Wst W H) (h : EvW K W te σ H d) (k : ∀ v H2, Gr [] H H2 → Dp K (hid W H2) v d → D.nx (σ.set i (some v)) H2) : tAsg te (gName i) D σ H := h H (Gr.refl _ _) wst _ k
/-- xs = xs + [..], the list and what it holds; all else stays -/
theorem st_catW {ta : TA} {i j : Nat} {S : Addr} {vs : List V} {ds es : List PyData} {D : Ends} (hj : σ[j]? = some (some (.ref S))) (hS : H S = some (.lst vs)) (a : DpAll K H vs ds) (h : EsW K [] ta σ H es) (hz : ds.length + es.length ≤ 1000)
    (k : ∀ ws H2 S2, Gr [] H H2 → H2 S2 = none → DpAll K H2 ws (ds ++ es) → D.nx (σ.set i (some (.ref S2))) (upd H2 S2 (.lst ws))) : tAsg (tOp rCat (tVar j) (tLst ta)) (gName i) D σ H :=
  ⟨_, hj, h H (Gr.refl _ _) (fun a m => by simp at m) _ fun ws H2 g2 b => ⟨by rw [dpAll_len b]; exact Nat.le_of_lt (small1000 (by omega)), fun p np => by
    have g3 : Gr [] H2 (upd H2 p (.lst ws)) := Gr.new np
    have l1 := dpAll_len a
    have l2 := dpAll_len b
    refine ⟨S, p, vs, ws, rfl, rfl, (g2.trans g3) S _ (by simp) hS, upd_same, Nat.le_trans (show _ ≤ 6000 by omega) (by decide), fun S2 n2 => ?_⟩
    exact k _ _ S2 (g2.trans g3) n2 (dpAll_append (DpAll.kp (Kp.of (g2.trans g3)) a) (DpAll.kp (Kp.of g3) (DpAll.kp hid_out b)))⟩⟩
/-- xs.append(e) -/
theorem st_appW {te : TE} {i : Nat} {S : Addr} {vs : List V} {ds : List PyData} {e : PyData} {D : Ends} (hi : σ[i]? = some (some (.ref S))) (hS : H S = some (.lst vs)) (a : DpAll K (hid [S] H) vs ds) (h : EvW K [S] te σ H e) (hz : ds.length ≤ 6000)
    (k : ∀ ws H2, Gr [S] H H2 → H2 S = some (.lst ws) → DpAll K (hid [S] H2) ws (ds ++ [e]) → D.nx σ H2) : tDrop (tBM K "list" rAppend (tVar i) (tCons te tNil)) D σ H := by
  refine ⟨_, hi, .inl ⟨rfl, _, sq_lst hS⟩, h H (Gr.refl _ _) (fun a m => by rw [List.mem_singleton] at m; subst m; rw [hS]; exact fun z => by cases z) _ fun v H2 g2 ev => ?_⟩
  have hS2 := g2 S _ (by simp) hS
  have g3 : Gr [S] H2 (upd H2 S (.lst (vs ++ [v]))) := Gr.wr (by simp)
  have l1 := dpAll_len a
  refine ⟨S, vs, v, rfl, rfl, hS2, Nat.lt_of_lt_of_le (show vs.length < 7000 by omega) (by decide), ?_⟩
  refine k (vs ++ [v]) _ ((gr0 g2).trans g3) upd_same (dpAll_append (DpAll.kp ((hid_kp (gr0 g2)).trans (hid_kp g3)) a) (.cons (Dp.kp (hid_kp g3) ev) .nil))
/-- for x in xs: ys.append(..) -/
theorem for_appW {te : TE} {i9 i4 : Nat} {p S : Addr} {os vs : List V} {odds ds : List PyData} {f : PyData → PyData} {σ0 : L2.St} {H6 : Hp} {D : Ends} (hp : H6 p = some (.lst os)) (hpS : p ∉ [S]) (hS : H6 S = some (.lst vs)) (a : DpAll K (hid [S] H6) vs ds) (ao : DpAll K (hid [S] H6) os odds)
    (hz : ds.length + odds.length ≤ 6000) (h4 : σ0[i4]? = some (some (.ref S))) (hne : i9 ≠ i4) (h9 : i9 < σ0.length)
    (he : ∀ x v H', Gr [S] H6 H' → Dp K (hid [S] H') v x → x ∈ odds → EvW K [S] te (σ0.set i9 (some v)) H' (f x))
    (hd : ∀ v9 vs' H', Gr [S] H6 H' → H' S = some (.lst vs') → DpAll K (hid [S] H') vs' (ds ++ odds.map f) → D.nx (σ0.set i9 v9) H') (h0 : ∃ v, σ0 = σ0.set i9 v) :
    ∃ Wf : Nat → Nat → L2.St → Hp → Prop, (∃ m, Wf 0 m σ0 H6) ∧ ∀ i m σ H, Wf i m σ H →
      ((Itl K p).stop i H ∧ D.nx σ H) ∨ ((Itl K p).go i H ∧ ∃ N : L2.St → Hp → Prop, (∀ σ' H', N σ' H' → ∃ m', m' < m ∧ Wf (i + 1) m' σ' H') ∧ ∀ x H', (Itl K p).yld i H x H' → gName i9 x σ H' fun σ2 H2 => tDrop (tBM K "list" rAppend (tVar i4) (tCons te tNil)) { D with nx := N, ct := N, bk := D.nx } σ2 H2) := by
  have lo := dpAll_len ao
  refine for_list (K := K) (a := p) (xs := os) (fun i σ H' => Gr [S] H6 H' ∧ ∃ v9 vs', H' S = some (.lst vs') ∧ DpAll K (hid [S] H') vs' (ds ++ (odds.take i).map f) ∧ σ = σ0.set i9 v9) ?_ (fun i σ H' _ z => sq_lst (z.1 p _ hpS hp)) ?_ ?_
  · obtain ⟨v, hv⟩ := h0
    exact ⟨Gr.refl _ _, v, vs, hS, by rw [List.take_zero, List.map_nil, List.append_nil]; exact a, hv⟩
  · rintro i x σ H' hx ⟨G, v9, vs', hS', a', rfl⟩
    obtain ⟨dd, hdd, dx⟩ := dpA_at ao hx
    have hi : i < odds.length := (List.getElem?_eq_some_iff.mp hdd).1
    have ed : odds[i] = dd := (List.getElem?_eq_some_iff.mp hdd).2
    show tDrop (tBM K "list" rAppend (tVar i4) (tCons te tNil)) _ ((σ0.set i9 v9).set i9 (some x)) H'
    rw [List.set_set]
    refine st_appW (K := K) (S := S) (vs := vs') (by rw [List.getElem?_set_ne hne]; exact h4) hS' a' (he dd x H' G (Dp.kp (hid_kp G) dx) (List.mem_of_getElem? hdd)) (by rw [List.length_append, List.length_map, List.length_take]; omega) fun ws H2 g2 hS2 a2 => ?_
    refine ⟨G.trans g2, some x, ws, hS2, ?_, rfl⟩
    rw [List.take_succ_eq_append_getElem hi, List.map_append, ed, ← List.append_assoc]
    exact a2
  · rintro σ H' ⟨G, v9, vs', hS', a', rfl⟩
    rw [lo, List.take_of_length_le (Nat.le_refl _)] at a'
    exact hd v9 vs' H' G hS' a'
end

section
variable {K : PySem.W.Frag} {σ : L2.St} {H : Hp}
/-- for x in a tuple that is data -/
theorem st_forT {tl : TE} {g : TG} {tb : TS} {D : Ends} {ds : List PyData} (h : EvW K [] tl σ H (.tuple ds)) (Pv : Hp → Nat → L2.St → Hp → Prop) (h0 : ∀ H2, Gr [] H H2 → Pv H2 0 σ H2) (hk : ∀ H2 i σ' H', Pv H2 i σ' H' → Kp H2 H')
    (hs : ∀ H2 i d v σ' H', Gr [] H H2 → ds[i]? = some d → Dp K H' v d → Pv H2 i σ' H' → g v σ' H' fun σ3 H3 => tb { D with nx := Pv H2 (i + 1), ct := Pv H2 (i + 1), bk := D.nx } σ3 H3) (hd : ∀ H2 σ' H', Gr [] H H2 → Pv H2 ds.length σ' H' → D.nx σ' H') : tFor (iTup K tl) g tb D σ H :=
  h H (Gr.refl _ _) (fun a m => by simp at m) _ fun v H2 g2 e => by
    have e := Dp.kp hid_out e
    cases e with
    | @tup a xs _ s t =>
      have lx := dpAll_len t
      refine ⟨a, rfl, ⟨_, s⟩, ?_⟩
      refine for_tup (K := K) (a := a) (xs := xs) (Pv H2) (h0 H2 g2) (fun i σ' H' _ z => (hk H2 i σ' H' z).sqT s) (fun i x σ' H' hx z => ?_) (fun σ' H' z => hd H2 σ' H' g2 (by rw [← lx]; exact z))
      obtain ⟨dd, hdd, dx⟩ := dpA_at t hx
      exact hs H2 i dd x σ' H' g2 hdd (Dp.kp (hk H2 i σ' H' z) dx) z
theorem st_forL {tl : TE} {g : TG} {tb : TS} {D : Ends} {ds : List PyData} (h : EvW K [] tl σ H (.list ds)) (Pv : Hp → Nat → L2.St → Hp → Prop) (h0 : ∀ H2, Gr [] H H2 → Pv H2 0 σ H2) (hk : ∀ H2 i σ' H', Pv H2 i σ' H' → Kp H2 H')
    (hs : ∀ H2 i d v σ' H', Gr [] H H2 → ds[i]? = some d → Dp K H' v d → Pv H2 i σ' H' → g v σ' H' fun σ3 H3 => tb { D with nx := Pv H2 (i + 1), ct := Pv H2 (i + 1), bk := D.nx } σ3 H3) (hd : ∀ H2 σ' H', Gr [] H H2 → Pv H2 ds.length σ' H' → D.nx σ' H') : tFor (iList K tl) g tb D σ H :=
  h H (Gr.refl _ _) (fun a m => by simp at m) _ fun v H2 g2 e => by
    have e := Dp.kp hid_out e
    cases e with
    | @lst a xs _ s t =>
      have lx := dpAll_len t
      refine ⟨a, rfl, ⟨_, s⟩, ?_⟩
      refine for_list (K := K) (a := a) (xs := xs) (Pv H2) (h0 H2 g2) (fun i σ' H' _ z => (hk H2 i σ' H' z).sqL s) (fun i x σ' H' hx z => ?_) (fun σ' H' z => hd H2 σ' H' g2 (by rw [← lx]; exact z))
      obtain ⟨dd, hdd, dx⟩ := dpA_at t hx
      exact hs H2 i dd x σ' H' g2 hdd (Dp.kp (hk H2 i σ' H' z) dx) z
end
theorem psNox {X : Cx} {st : Stmt} {t : TS} (h : PS X.nox st t) : PS X st t := ⟨fun pins s σ H D I hw =>
  wpAny_mono (h.run pins s σ H D (I.wish _) hw) (fun _ _ q => q.unwish) fun _ _ z => False.elim z⟩
/-! comprehensions that give data -/
mutual
/-- no list in it -/
def noL : PyData → Bool
  | .list _ => false
  | .tuple xs => noLAll xs
  | .dict _ => false
  | _ => true
def noLAll : List PyData → Bool
  | [] => true
  | x :: xs => noL x && noLAll xs
end
mutual
theorem dp_noL {K : PySem.W.Frag} {H : Hp} {D : Addr} {us : List V} (hD : H D = some (.lst us)) : ∀ {v : V} {d : PyData}, Dp K H v d → noL d = true → Dp K (hid [D] H) v d
  | _, _, .non, _ => .non
  | _, _, .bl b, _ => .bl b
  | _, _, .int i, _ => .int i
  | _, _, .str z, _ => .str z
  | _, _, .lst _ _, n => by cases n
  | _, _, .tup (a := a) (xs := zs) (ds := ds) s t, n => by
    have n : noLAll ds = true := n
    refine .tup ?_ (dpA_noL hD t n)
    have ne : ∀ {o}, H a = some o → (∀ u, o ≠ .lst u) → a ∉ [D] := fun {o} h k m => by
      rw [List.mem_singleton] at m
      subst m
      rw [hD] at h
      injection h with h
      exact k us h.symm
    rcases s with (s | ⟨o, s⟩) | s
    · exact .inl (.inl (hid_get s (ne s fun u z => by cases z)))
    · exact .inl (.inr ⟨o, hid_get s (ne s fun u z => by cases z)⟩)
    · exact .inr s
theorem dpA_noL {K : PySem.W.Frag} {H : Hp} {D : Addr} {us : List V} (hD : H D = some (.lst us)) : ∀ {vs : List V} {ds : List PyData}, DpAll K H vs ds → noLAll ds = true → DpAll K (hid [D] H) vs ds
  | _, _, .nil, _ => .nil
  | _, _, .cons a b, n => by
    rw [noLAll, Bool.and_eq_true] at n
    exact .cons (dp_noL hD a n.1) (dpA_noL hD b n.2)
end
section
variable {K : PySem.W.Frag} {σ : L2.St} {H : Hp}
/-- a turn of a comprehension: what is put, or none -/
def LcT (K : PySem.W.Frag) (g : TG) (tt : TT) (te : TE) (vs : List Nat) (σ : L2.St) (H1 : Hp) (v : V) (r : Option PyData) : Prop :=
  ∀ (Q1 : VK) (Q0 : Hp → Prop), (∀ d y H2, r = some d → Gr [] H1 H2 → Dp K H2 y d → Q1 y H2) → (∀ H2, r = none → Gr [] H1 H2 → Q0 H2) →
    g v (wipe σ vs) H1 fun σ2 H2 => wipe σ2 vs = wipe σ vs ∧ tt σ2 H2 fun b H3 => if b = true then te σ2 H3 Q1 else Q0 H3
theorem lcT_put {K : PySem.W.Frag} {g : TG} {tt : TT} {te : TE} {vs : List Nat} {ds : List PyData} {f : PyData → Option PyData} {H2 H' : Hp} {D : Addr} {us : List V} {i : Nat} {dd : PyData} {x : V} (nD : H2 D = none) (hi : ds[i]? = some dd) (hz : ds.length ≤ 6000)
    (G : Gr [] H2 H') (hD : H' D = some (.lst us)) (aU : DpAll K (hid [D] H') us ((ds.take i).filterMap f)) (he : LcT K g tt te vs σ H' x (f dd)) (hn : ∀ d, f dd = some d → noL d = true) :
    g x (wipe σ vs) H' fun σ2 H2' => wipe σ2 vs = wipe σ vs ∧ tt σ2 H2' fun b H3 => if b = true then te σ2 H3 fun y H4 => ∃ acc, H4 D = some (.lst acc) ∧ acc.length < sizeLine ∧
      (Gr [] H2 (upd H4 D (.lst (acc ++ [y]))) ∧ ∃ us, (upd H4 D (.lst (acc ++ [y]))) D = some (.lst us) ∧ DpAll K (hid [D] (upd H4 D (.lst (acc ++ [y])))) us ((ds.take (i + 1)).filterMap f))
      else (Gr [] H2 H3 ∧ ∃ us, H3 D = some (.lst us) ∧ DpAll K (hid [D] H3) us ((ds.take (i + 1)).filterMap f)) := by
  have hi' : i < ds.length := (List.getElem?_eq_some_iff.mp hi).1
  have ed : ds[i] = dd := (List.getElem?_eq_some_iff.mp hi).2
  have tk := List.take_succ_eq_append_getElem hi'
  rw [ed] at tk
  have lu := dpAll_len aU
  have lf := List.length_filterMap_le f (ds.take i)
  rw [List.length_take] at lf
  refine he _ _ (fun d y H4 hr g4 dy => ?_) (fun H3 hr g3 => ?_)
  · have hD4 := g4 D _ (by simp) hD
    have gC : Gr [D] H4 (upd H4 D (.lst (us ++ [y]))) := Gr.wr (by simp)
    refine ⟨us, hD4, Nat.lt_of_lt_of_le (show us.length < 7000 by omega) (by decide), fresh_keep nD (G.trans g4) gC, us ++ [y], upd_same, ?_⟩
    rw [tk, List.filterMap_append]
    have e1 : List.filterMap f [dd] = [d] := by
      rw [List.filterMap_cons, hr]
      rfl
    rw [e1]
    exact dpAll_append (DpAll.kp ((hid_kp (gr0 g4)).trans (hid_kp gC)) aU) (.cons (Dp.kp (hid_kp gC) (dp_noL hD4 dy (hn d hr))) .nil)
  · refine ⟨G.trans g3, us, g3 D _ (by simp) hD, ?_⟩
    rw [tk, List.filterMap_append]
    have e1 : List.filterMap f [dd] = [] := by
      rw [List.filterMap_cons, hr]
      rfl
    rw [e1, List.append_nil]
    exact DpAll.kp (hid_kp (gr0 g3)) aU
theorem el_lcT {tl te : TE} {g : TG} {tt : TT} {vs : List Nat} {ds : List PyData} (f : PyData → Option PyData) (h : EvW K [] tl σ H (.tuple ds)) (hz : ds.length ≤ 6000)
    (he : ∀ x v H1, x ∈ ds → Gr [] H H1 → Dp K H1 v x → LcT K g tt te vs σ H1 v (f x)) (hn : ∀ x ∈ ds, ∀ d, f x = some d → noL d = true) : EvL K (tLc (iTup K tl) g tt te vs) σ H (ds.filterMap f) := fun H1 g1 Q q =>
  h H1 g1 (fun a m => by simp at m) _ fun v H2 g2 e => by
    have e := Dp.kp hid_out e
    cases e with
    | @tup a xs _ s t =>
      have lx := dpAll_len t
      refine ⟨a, rfl, ⟨_, s⟩, fun D nD => ?_⟩
      refine lc_tup (K := K) (a := a) (xs := xs) (fun i H' => Gr [] H2 H' ∧ ∃ us, H' D = some (.lst us) ∧ DpAll K (hid [D] H') us ((ds.take i).filterMap f)) ⟨Gr.new nD, [], upd_same, .nil⟩ (fun i H' _ z => (Kp.of z.1).sqT s) ?_ ?_
      · rintro i x H' hx ⟨G, us, hD, aU⟩
        obtain ⟨dd, hdd, dx⟩ := dpA_at t hx
        exact lcT_put nD hdd hz G hD aU (he dd x H' (List.mem_of_getElem? hdd) ((g1.trans g2).trans G) (Dp.kp (Kp.of G) dx)) (hn dd (List.mem_of_getElem? hdd))
      · rintro H3 ⟨G, us, hD, aU⟩
        rw [lx, List.take_of_length_le (Nat.le_refl _)] at aU
        exact q D us H3 (g2.trans G) hD (DpAll.kp hid_out aU)
theorem el_lcL {tl te : TE} {g : TG} {tt : TT} {vs : List Nat} {ds : List PyData} (f : PyData → Option PyData) (h : EvW K [] tl σ H (.list ds)) (hz : ds.length ≤ 6000)
    (he : ∀ x v H1, x ∈ ds → Gr [] H H1 → Dp K H1 v x → LcT K g tt te vs σ H1 v (f x)) (hn : ∀ x ∈ ds, ∀ d, f x = some d → noL d = true) : EvL K (tLc (iList K tl) g tt te vs) σ H (ds.filterMap f) := fun H1 g1 Q q =>
  h H1 g1 (fun a m => by simp at m) _ fun v H2 g2 e => by
    have e := Dp.kp hid_out e
    cases e with
    | @lst a xs _ s t =>
      have lx := dpAll_len t
      refine ⟨a, rfl, ⟨_, s⟩, fun D nD => ?_⟩
      refine lc_list (K := K) (a := a) (xs := xs) (fun i H' => Gr [] H2 H' ∧ ∃ us, H' D = some (.lst us) ∧ DpAll K (hid [D] H') us ((ds.take i).filterMap f)) ⟨Gr.new nD, [], upd_same, .nil⟩ (fun i H' _ z => (Kp.of z.1).sqL s) ?_ ?_
      · rintro i x H' hx ⟨G, us, hD, aU⟩
        obtain ⟨dd, hdd, dx⟩ := dpA_at t hx
        exact lcT_put nD hdd hz G hD aU (he dd x H' (List.mem_of_getElem? hdd) ((g1.trans g2).trans G) (Dp.kp (Kp.of G) dx)) (hn dd (List.mem_of_getElem? hdd))
      · rintro H3 ⟨G, us, hD, aU⟩
        rw [lx, List.take_of_length_le (Nat.le_refl _)] at aU
        exact q D us H3 (g2.trans G) hD (DpAll.kp hid_out aU)
theorem el_lstW {ta : TA} {ds : List PyData} (h : EsW K [] ta σ H ds) (hz : ds.length ≤ 1000 := by exact Nat.le_of_ble_eq_true rfl) : EvL K (tLst ta) σ H ds := fun H1 g Q q =>
  h H1 g (fun a m => by simp at m) _ fun vs H2 g2 a => ⟨by rw [dpAll_len a]; exact Nat.le_of_lt (small1000 hz), fun p np => q _ _ _ (g2.trans (Gr.new np)) upd_same (DpAll.kp (Kp.of (Gr.new np)) (DpAll.kp hid_out a))⟩
theorem el_to {te : TE} {ds es : List PyData} (h : EvL K te σ H ds) (z : ds = es) : EvL K te σ H es := z ▸ h
/-- for x in ..: each turn puts what te gives -/
theorem lcT_name {te : TE} {vs : List Nat} {i : Nat} {H1 : Hp} {v : V} {d : PyData} (hw : wipe ((wipe σ vs).set i (some v)) vs = wipe σ vs) (h : EvW K [] te ((wipe σ vs).set i (some v)) H1 d) : LcT K (gName i) tYes te vs σ H1 v (some d) := fun Q1 Q0 q _ =>
  ⟨hw, iteT (B := Q0 H1) (h H1 (Gr.refl _ _) (fun a m => by simp at m) Q1 fun y H2 g2 dy => q d y H2 rfl g2 (Dp.kp hid_out dy))⟩
/-- for x, y in .. -/
theorem lcT_two {te : TE} {vs : List Nat} {i j : Nat} {H1 : Hp} {v : V} {x y d : PyData} (hv : Dp K H1 v (.tuple [x, y])) (hw : ∀ a b, wipe (((wipe σ vs).set i (some a)).set j (some b)) vs = wipe σ vs)
    (h : ∀ a b, Dp K H1 a x → Dp K H1 b y → EvW K [] te (((wipe σ vs).set i (some a)).set j (some b)) H1 d) : LcT K (gTup K 2 (gCons (gName i) (gCons (gName j) gNil))) tYes te vs σ H1 v (some d) := fun Q1 Q0 q _ => by
  cases hv with
  | @tup p xs _ s t =>
    cases t with
    | @cons a _ _ _ h1 t =>
      cases t with
      | @cons b _ _ _ h2 t =>
        cases t
        exact ⟨p, _, rfl, s, rfl, a, _, rfl, b, _, rfl, rfl, hw a b, iteT (B := Q0 H1) (h a b h1 h2 H1 (Gr.refl _ _) (fun a m => by simp at m) Q1 fun y H2 g2 dy => q d y H2 rfl g2 (Dp.kp hid_out dy))⟩
end
theorem filA_yes {α : Type} {xs : List α} {p : α → Bool} {x : α} (h : p x = true) : (xs ++ [x]).filter p = xs.filter p ++ [x] := by
  rw [List.filter_append, List.filter_cons_of_pos h]
  rfl
theorem filA_no {α : Type} {xs : List α} {p : α → Bool} {x : α} (h : p x = false) : (xs ++ [x]).filter p = xs.filter p := by
  rw [List.filter_append, List.filter_cons_of_neg (by rw [h]; decide)]
  exact List.append_nil _
/-! data equal to data -/
mutual
theorem eqv_self : ∀ {d : PyData}, d.hasDict = false → PyData.eqv d d = true
  | .none, _ => rfl
  | .bool b, _ => by
    show (b == b) = true
    exact beq_self_eq_true b
  | .int i, _ => by
    show (i == i) = true
    exact beq_self_eq_true i
  | .str x, _ => by
    show (x == x) = true
    exact beq_self_eq_true x
  | .list xs, h => eqvAll_self (xs := xs) h
  | .tuple xs, h => eqvAll_self (xs := xs) h
  | .dict xs, h => by cases h
theorem eqvAll_self : ∀ {xs : List PyData}, PyData.hasDictAll xs = false → PyData.eqvAll xs xs = true
  | [], _ => rfl
  | x :: xs, h => by
    have h : (x.hasDict || PyData.hasDictAll xs) = false := h
    rw [Bool.or_eq_false_iff] at h
    show (PyData.eqv x x && PyData.eqvAll xs xs) = true
    rw [eqv_self h.1, eqvAll_self h.2]
    rfl
end
theorem Sm.eqv {d : PyData} {B D W : Nat} (h : Sm d B D W) : PyData.eqv d d = true := eqv_self h.nod
mutual
/-- no truth value, no dict in it -/
def nb : PyData → Bool
  | .none => true
  | .bool _ => false
  | .int _ => true
  | .str _ => true
  | .list xs => nbAll xs
  | .tuple xs => nbAll xs
  | .dict _ => false
def nbAll : List PyData → Bool
  | [] => true
  | x :: xs => nb x && nbAll xs
end
mutual
theorem eqv_is : ∀ {d e : PyData}, nb d = true → nb e = true → PyData.eqv d e = true → d = e
  | .none, e, _, _, h => by cases e <;> first | rfl | cases h
  | .bool b, e, h, _, _ => by cases h
  | .dict b, e, h, _, _ => by cases h
  | .int i, e, _, h2, h => by
    cases e <;> first | (cases h2; done) | (cases h; done) | skip
    rename_i j
    have h : (i == j) = true := h
    rw [eq_of_beq h]
  | .str i, e, _, h2, h => by
    cases e <;> first | (cases h2; done) | (cases h; done) | skip
    rename_i j
    have h : (i == j) = true := h
    rw [eq_of_beq h]
  | .list xs, e, h1, h2, h => by
    cases e <;> first | (cases h2; done) | (cases h; done) | skip
    rename_i ys
    rw [eqvAll_is (xs := xs) (ys := ys) h1 h2 h]
  | .tuple xs, e, h1, h2, h => by
    cases e <;> first | (cases h2; done) | (cases h; done) | skip
    rename_i ys
    rw [eqvAll_is (xs := xs) (ys := ys) h1 h2 h]
theorem eqvAll_is : ∀ {xs ys : List PyData}, nbAll xs = true → nbAll ys = true → PyData.eqvAll xs ys = true → xs = ys
  | [], [], _, _, _ => rfl
  | [], y :: ys, _, _, h => by cases h
  | x :: xs, [], _, _, h => by cases h
  | x :: xs, y :: ys, h1, h2, h => by
    have h1 : (nb x && nbAll xs) = true := h1
    have h2 : (nb y && nbAll ys) = true := h2
    have h : (PyData.eqv x y && PyData.eqvAll xs ys) = true := h
    rw [Bool.and_eq_true] at h1 h2 h
    rw [eqv_is h1.1 h2.1 h.1, eqvAll_is h1.2 h2.2 h.2]
end
mutual
theorem nb_nod : ∀ {d : PyData}, nb d = true → d.hasDict = false
  | .none, _ => rfl
  | .bool _, h => by cases h
  | .int _, _ => rfl
  | .str _, _ => rfl
  | .list xs, h => nbAll_nod (xs := xs) h
  | .tuple xs, h => nbAll_nod (xs := xs) h
  | .dict _, h => by cases h
theorem nbAll_nod : ∀ {xs : List PyData}, nbAll xs = true → PyData.hasDictAll xs = false
  | [], _ => rfl
  | x :: xs, h => by
    have h : (nb x && nbAll xs) = true := h
    rw [Bool.and_eq_true] at h
    show (x.hasDict || PyData.hasDictAll xs) = false
    rw [nb_nod h.1, nbAll_nod h.2]
    rfl
end
theorem eqv_iff {d e : PyData} (h1 : nb d = true) (h2 : nb e = true) : PyData.eqv d e = true ↔ d = e := ⟨eqv_is h1 h2, fun z => by rw [z]; exact eqv_self (nb_nod h2)⟩
theorem eqv_dec {d e : PyData} (h1 : nb d = true) (h2 : nb e = true) [Decidable (d = e)] : PyData.eqv d e = decide (d = e) := by
  by_cases h : d = e
  · rw [decide_eq_true h]
    exact (eqv_iff h1 h2).mpr h
  · rw [decide_eq_false h]
    cases z : PyData.eqv d e with
    | false => rfl
    | true => exact absurd ((eqv_iff h1 h2).mp z) h
theorem nbAll_of {xs : List PyData} (h : ∀ x ∈ xs, nb x = true) : nbAll xs = true := by
  induction xs with
  | nil => rfl
  | cons x r ih =>
    show (nb x && nbAll r) = true
    rw [h x (List.mem_cons_self ..), ih fun y hy => h y (List.mem_cons_of_mem _ hy)]
    rfl
theorem set_len {xs : List Nat} {ks : List Int} (nd : ks.Nodup) (hm : ∀ k, k ∈ ks ↔ k ∈ ni xs) : ks.length ≤ xs.length := by
  obtain ⟨zs, rfl⟩ := ni_of (zs := ks) fun k hk => by
    have := (hm k).mp hk
    unfold ni at this
    obtain ⟨j, _, rfl⟩ := List.mem_map.mp this
    omega
  unfold ni at nd hm ⊢
  have h1 : zs.Nodup := by
    rw [List.nodup_iff_pairwise_ne, List.pairwise_map] at nd
    exact nd.imp fun h e => h (by rw [e])
  have := nodup_sub (ys := xs) h1 fun z hz => by
    obtain ⟨j, hj, e⟩ := List.mem_map.mp ((hm (z : Int)).mp (List.mem_map.mpr ⟨z, hz, rfl⟩))
    rwa [show z = j by omega]
  rw [List.length_map]
  omega
end Wn
namespace Wn
open PySem PySem.Spec PyProof.Rows L2
def isP (p : Nat) : Bool := decide (2 ≤ p) && (List.range p).all fun q => decide (q < 2) || decide (p % q ≠ 0)
theorem isP_iff {p : Nat} : isP p = true ↔ 2 ≤ p ∧ ∀ q, 2 ≤ q → q < p → ¬ q ∣ p := by
  unfold isP
  simp only [Bool.and_eq_true, decide_eq_true_eq, List.all_eq_true, List.mem_range, Bool.or_eq_true]
  constructor
  · rintro ⟨h1, h2⟩
    refine ⟨h1, fun q q1 q2 d => ?_⟩
    rcases h2 q q2 with z | z
    · omega
    · exact z (Nat.mod_eq_zero_of_dvd d)
  · rintro ⟨h1, h2⟩
    refine ⟨h1, fun q q2 => ?_⟩
    by_cases z : q < 2
    · exact .inl z
    · exact .inr fun e => h2 q (by omega) q2 (Nat.dvd_of_mod_eq_zero e)
theorem isP_dvd {p g : Nat} (h : isP p = true) (d : g ∣ p) : g = 1 ∨ g = p := by
  obtain ⟨h1, h2⟩ := isP_iff.mp h
  have hg : g ≤ p := Nat.le_of_dvd (by omega) d
  have h0 : 1 ≤ g := Nat.pos_of_ne_zero fun z => by rw [z] at d; have := Nat.eq_zero_of_zero_dvd d; omega
  by_cases e1 : g = 1
  · exact .inl e1
  · by_cases e2 : g = p
    · exact .inr e2
    · exact absurd d (h2 g (by omega) (by omega))
theorem isP_cop {p a : Nat} (h : isP p = true) (hn : ¬ p ∣ a) : Nat.gcd p a = 1 := by
  rcases isP_dvd h (Nat.gcd_dvd_left p a) with e | e
  · exact e
  · exact absurd (e ▸ Nat.gcd_dvd_right p a) hn
/-- how often p divides -/
def vlF (p : Nat) : Nat → Nat → Nat
  | 0, _ => 0
  | f + 1, n => if n % p = 0 then vlF p f (n / p) + 1 else 0
def vl (p n : Nat) : Nat := vlF p n n
theorem vlF_spec {p : Nat} (hp : 2 ≤ p) : ∀ f n, n ≤ f → 1 ≤ n → p ^ vlF p f n ∣ n ∧ ¬ p ^ (vlF p f n + 1) ∣ n
  | 0, n, h1, h2 => by omega
  | f + 1, n, h1, h2 => by
    unfold vlF
    by_cases h : n % p = 0
    · rw [if_pos h]
      obtain ⟨m, rfl⟩ := Nat.dvd_of_mod_eq_zero h
      rw [Nat.mul_div_cancel_left m (by omega)]
      have hm : 1 ≤ m := Nat.pos_of_ne_zero fun z => by rw [z] at h2; omega
      have hm2 : m < p * m := by
        have : 2 * m ≤ p * m := Nat.mul_le_mul_right _ hp
        omega
      obtain ⟨a, b⟩ := vlF_spec hp f m (by omega) hm
      refine ⟨?_, fun d => b ?_⟩
      · rw [Nat.pow_succ, Nat.mul_comm]
        exact Nat.mul_dvd_mul_left p a
      · rw [Nat.pow_succ, Nat.mul_comm] at d
        exact Nat.dvd_of_mul_dvd_mul_left (by omega) d
    · rw [if_neg h]
      refine ⟨by simp, fun d => h ?_⟩
      rw [Nat.zero_add, Nat.pow_one] at d
      exact Nat.mod_eq_zero_of_dvd d
theorem vl_spec {p n : Nat} (hp : 2 ≤ p) (hn : 1 ≤ n) : p ^ vl p n ∣ n ∧ ¬ p ^ (vl p n + 1) ∣ n := vlF_spec hp n n (Nat.le_refl _) hn
theorem vl_of {p n e : Nat} (hp : 2 ≤ p) (hn : 1 ≤ n) (h1 : p ^ e ∣ n) (h2 : ¬ p ^ (e + 1) ∣ n) : vl p n = e := by
  obtain ⟨a, b⟩ := vl_spec hp hn
  apply Nat.le_antisymm
  · apply Nat.le_of_not_lt
    intro l
    exact h2 (Nat.dvd_trans (Nat.pow_dvd_pow p l) a)
  · apply Nat.le_of_not_lt
    intro l
    exact b (Nat.dvd_trans (Nat.pow_dvd_pow p l) h1)
def fpp (n p : Nat) : Option (Nat × Nat) := if n % p = 0 ∧ isP p = true then some (p, vl p n) else none
def ppU (n k : Nat) : List (Nat × Nat) := (List.range k).filterMap (fpp n)
def ppL (n : Nat) : List (Nat × Nat) := ppU n (n + 1)
theorem ppU_succ (n k : Nat) : ppU n (k + 1) = ppU n k ++ (match fpp n k with | some r => [r] | none => []) := by
  unfold ppU
  rw [List.range_succ, List.filterMap_append]
  congr 1
  cases h : fpp n k <;> simp [h]
theorem ppU_skip {n k : Nat} : ∀ {m}, k ≤ m → (∀ p, k ≤ p → p < m → fpp n p = none) → ppU n m = ppU n k
  | 0, h, _ => by rw [show k = 0 by omega]
  | m + 1, h, hs => by
    rcases Nat.lt_or_eq_of_le h with z | z
    · rw [ppU_succ, hs m (by omega) (Nat.lt_succ_self m), List.append_nil, ppU_skip (by omega) fun p h1 h2 => hs p h1 (by omega)]
    · rw [z]
theorem ppU_len {n : Nat} : ∀ k, (ppU n k).length ≤ k := fun k => by
  unfold ppU
  refine Nat.le_trans (List.length_filterMap_le _ _) ?_
  rw [List.length_range]
  exact Nat.le_refl _
/-- what is left when all below k have been taken out -/
structure Left (n left k : Nat) : Prop where
  pos : 1 ≤ left
  dv : left ∣ n
  low : ∀ q, 2 ≤ q → q < k → ¬ q ∣ left
  same : ∀ q e, k ≤ q → isP q = true → (q ^ e ∣ left ↔ q ^ e ∣ n)
theorem Left.start {n : Nat} (hn : 1 ≤ n) : Left n n 2 := ⟨hn, Nat.dvd_refl _, fun q h1 h2 => by omega, fun _ _ _ _ => Iff.rfl⟩
theorem Left.ge {n left k : Nat} (L : Left n left k) (h : 1 < left) : k ≤ left := by
  apply Nat.le_of_not_lt
  intro z
  exact L.low left h z (Nat.dvd_refl _)
theorem Left.prime {n left k p : Nat} (L : Left n left k) (hk : 2 ≤ p) (hp : p ≤ k) (d : p ∣ left) : isP p = true := isP_iff.mpr ⟨hk, fun q h1 h2 d2 => L.low q h1 (by omega) (Nat.dvd_trans d2 d)⟩
/-- what is left has no divisor below its root: it is a prime itself -/
theorem Left.jump {n left k : Nat} (L : Left n left k) (hk : 2 ≤ k) (h : 1 < left) (h2 : left < k * k) : isP left = true ∧ Left n left left ∧ ∀ p, k ≤ p → p < left → fpp n p = none := by
  have hP : Wn.isP left = true := isP_iff.mpr ⟨h, fun q h1 h3 d => by
    obtain ⟨m, rfl⟩ := d
    have hm : 1 ≤ m := Nat.pos_of_ne_zero fun z => by rw [z] at h; omega
    have hm2 : 2 ≤ m := by
      rcases Nat.lt_or_ge m 2 with z | z
      · have : m = 1 := by omega
        rw [this] at h3
        omega
      · exact z
    have a1 : k ≤ q := Nat.le_of_not_lt fun z => L.low q h1 z (Nat.dvd_mul_right _ _)
    have a2 : k ≤ m := Nat.le_of_not_lt fun z => L.low m hm2 z (Nat.dvd_mul_left _ _)
    have := Nat.mul_le_mul a1 a2
    omega⟩
  have hge := L.ge h
  refine ⟨hP, ⟨L.pos, L.dv, fun q h1 h3 => (isP_iff.mp hP).2 q h1 h3, fun q e h1 => L.same q e (by omega)⟩, fun p h1 h3 => ?_⟩
  unfold fpp
  rw [if_neg]
  rintro ⟨h4, h5⟩
  have := (L.same p 1 h1 h5).mpr (by rw [Nat.pow_one]; exact Nat.dvd_of_mod_eq_zero h4)
  rw [Nat.pow_one] at this
  exact (isP_iff.mp hP).2 p (isP_iff.mp h5).1 h3 this
/-- p taken out e times -/
theorem Left.next {n left k r e : Nat} (L : Left n left k) (hn : 1 ≤ n) (hk : 2 ≤ k) (h : left = r * k ^ e) (hr : ¬ k ∣ r) : Left n r (k + 1) ∧ fpp n k = if e = 0 then none else some (k, e) := by
  have hr1 : 1 ≤ r := Nat.pos_of_ne_zero fun z => by have := L.pos; rw [h, z] at this; omega
  have rl : r ∣ left := ⟨k ^ e, h⟩
  refine ⟨⟨hr1, Nat.dvd_trans rl L.dv, fun q h1 h2 d => ?_, fun q c h1 hq => ?_⟩, ?_⟩
  · rcases Nat.lt_or_eq_of_le (show q ≤ k by omega) with z | z
    · exact L.low q h1 z (Nat.dvd_trans d rl)
    · exact hr (z ▸ d)
  · rw [← L.same q c (by omega) hq]
    constructor
    · exact fun d => Nat.dvd_trans d rl
    · intro d
      rw [h] at d
      refine Nat.Coprime.dvd_of_dvd_mul_right ?_ d
      refine Nat.Coprime.pow_left c (Nat.Coprime.pow_right e ?_)
      refine isP_cop hq fun d2 => ?_
      have := Nat.le_of_dvd (by omega) d2
      omega
  · by_cases e0 : e = 0
    · rw [if_pos e0]
      unfold fpp
      rw [if_neg]
      rintro ⟨h4, h5⟩
      have := (L.same k 1 (Nat.le_refl _) h5).mpr (by rw [Nat.pow_one]; exact Nat.dvd_of_mod_eq_zero h4)
      rw [Nat.pow_one, h, e0, Nat.pow_zero, Nat.mul_one] at this
      exact hr this
    · rw [if_neg e0]
      have dk : k ∣ left := by
        rw [h]
        exact Nat.dvd_trans (show k ∣ k ^ e by rw [show e = (e - 1) + 1 by omega, Nat.pow_succ]; exact Nat.dvd_mul_left _ _) (Nat.dvd_mul_left _ _)
      have hP := L.prime hk (Nat.le_refl _) dk
      have d1 : k ∣ n := Nat.dvd_trans dk L.dv
      unfold fpp
      rw [if_pos ⟨Nat.mod_eq_zero_of_dvd d1, hP⟩]
      congr 2
      refine vl_of hk hn ?_ fun d => ?_
      · exact (L.same k e (Nat.le_refl _) hP).mp (by rw [h]; exact Nat.dvd_mul_left _ _)
      · have d2 := (L.same k (e + 1) (Nat.le_refl _) hP).mpr d
        rw [h, Nat.pow_succ, Nat.mul_comm r] at d2
        exact hr (Nat.dvd_of_mul_dvd_mul_left (Nat.pow_pos (by omega)) d2)
end Wn
/-! if it is not balanced, a prime shows it -/
namespace Wn
open PySem PySem.Spec PyProof.Rows L2
theorem prime_dvd : ∀ m, 2 ≤ m → ∃ p, isP p = true ∧ p ∣ m := by
  intro m
  induction m using Nat.strongRecOn with
  | ind m ih =>
    intro hm
    cases e : isP m with
    | true => exact ⟨m, e, Nat.dvd_refl _⟩
    | false =>
      obtain ⟨q, h1, h2, h3⟩ : ∃ q, 2 ≤ q ∧ q < m ∧ q ∣ m := by
        refine Classical.byContradiction fun hno => ?_
        have := isP_iff.mpr ⟨hm, fun q h1 h2 d => hno ⟨q, h1, h2, d⟩⟩
        rw [e] at this
        cases this
      obtain ⟨p, hp, hd⟩ := ih q h2 h1
      exact ⟨p, hp, Nat.dvd_trans hd h3⟩
theorem dvd_of_pp {n R : Nat} (hn : 1 ≤ n) (h : ∀ p, isP p = true → p ∣ n → p ^ vl p n ∣ R) : n ∣ R := by
  obtain ⟨m, hm⟩ := Nat.gcd_dvd_left n R
  rcases Nat.lt_or_ge m 2 with z | z
  · have m1 : m = 1 := by
      rcases Nat.eq_zero_or_pos m with y | y
      · rw [y, Nat.mul_zero] at hm
        omega
      · omega
    rw [m1, Nat.mul_one] at hm
    have := Nat.gcd_dvd_right n R
    rwa [← hm] at this
  · exfalso
    obtain ⟨p, hp, hd⟩ := prime_dvd m z
    have p2 := (isP_iff.mp hp).1
    have pn : p ∣ n := by
      rw [hm]
      exact Nat.dvd_trans hd (Nat.dvd_mul_left _ _)
    obtain ⟨v1, v2⟩ := vl_spec p2 hn
    have hg := Nat.dvd_gcd v1 (h p hp pn)
    refine v2 ?_
    rw [Nat.pow_succ]
    have : p ^ vl p n * p ∣ Nat.gcd n R * m := Nat.mul_dvd_mul hg hd
    rwa [← hm] at this
theorem mem_ppL {n p : Nat} (hn : 1 ≤ n) (hp : isP p = true) (d : p ∣ n) : (p, vl p n) ∈ ppL n := by
  unfold ppL ppU
  rw [List.mem_filterMap]
  refine ⟨p, List.mem_range.mpr (Nat.lt_succ_of_le (Nat.le_of_dvd hn d)), ?_⟩
  unfold fpp
  rw [if_pos ⟨Nat.mod_eq_zero_of_dvd d, hp⟩]
theorem ppL_mem {n : Nat} {r : Nat × Nat} (h : r ∈ ppL n) : isP r.1 = true ∧ r.1 ∣ n ∧ r.2 = vl r.1 n := by
  unfold ppL ppU at h
  obtain ⟨p, hp, e⟩ := List.mem_filterMap.mp h
  unfold fpp at e
  by_cases c : n % p = 0 ∧ isP p = true
  · rw [if_pos c] at e
    have := Option.some.inj e
    subst this
    exact ⟨c.2, Nat.dvd_of_mod_eq_zero c.1, rfl⟩
  · rw [if_neg c] at e
    cases e
theorem shows_ex {b n k c : Nat} (hb1 : 1 ≤ b) (hn : 2 ≤ n) (h : b ^ (k * c) % n = 1 % n) (hb : bal b n k c = false) :
    ∃ r ∈ ppL n, b ^ k % r.1 = 1 ∧ restSum b n 1 k c % r.1 ^ r.2 ≠ 0 := by
  refine Classical.byContradiction fun hno => ?_
  have key : n ∣ restSum b n 1 k c := dvd_of_pp (by omega) fun p hp d => by
    have p2 := (isP_iff.mp hp).1
    obtain ⟨v1, v2⟩ := vl_spec (n := n) p2 (by omega)
    by_cases c1 : b ^ k % p = 1
    · refine Classical.byContradiction fun hd => hno ⟨(p, vl p n), mem_ppL (by omega) hp d, c1, fun z => hd (Nat.dvd_of_mod_eq_zero z)⟩
    · have bk : 1 ≤ b ^ k := Nat.pow_pos hb1
      have nd : ¬ p ∣ b ^ k - 1 := fun z => c1 (by
        obtain ⟨t, ht⟩ := z
        have e : b ^ k = p * t + 1 := by omega
        rw [e, Nat.mul_add_mod, Nat.mod_eq_of_lt (by omega)])
      have tel := geo_tel (b ^ k) c
      have dn : n ∣ geo (b ^ k) c * (b ^ k - 1) := by
        have e1 : geo (b ^ k) c * (b ^ k - 1) = (b ^ k) ^ c - 1 := by
          rw [Nat.mul_sub, Nat.mul_one]
          omega
        rw [e1, ← Nat.pow_mul]
        have one : 1 % n = 1 := Nat.mod_eq_of_lt (by omega)
        rw [one] at h
        have := Nat.div_add_mod (b ^ (k * c)) n
        rw [h] at this
        exact ⟨b ^ (k * c) / n, by omega⟩
      have cp : Nat.Coprime (p ^ vl p n) (b ^ k - 1) := Nat.Coprime.pow_left _ (isP_cop hp nd)
      have dg : p ^ vl p n ∣ geo (b ^ k) c := cp.dvd_of_dvd_mul_right (Nat.dvd_trans v1 dn)
      have rm := restSum_mod b n 1 k c
      rw [Nat.one_mul] at rm
      have h1 := (Nat.dvd_mod_iff v1).mpr dg
      rw [← rm] at h1
      exact (Nat.dvd_mod_iff v1).mp h1
  have : bal b n k c = true := by
    unfold bal
    exact decide_eq_true (Nat.mod_eq_zero_of_dvd key)
  rw [hb] at this
  cases this
end Wn
/-! sums of fractions; sorted lists of numbers -/
namespace Wn
open PySem PySem.Spec PyProof.Rows L2
/-! strictly ascending lists with the same members -/
theorem asc_uniq : ∀ {xs ys : List Nat}, xs.Pairwise (· < ·) → ys.Pairwise (· < ·) → (∀ z, z ∈ xs ↔ z ∈ ys) → xs = ys
  | [], [], _, _, _ => rfl
  | [], y :: ys, _, _, h => absurd ((h y).mpr (List.mem_cons_self ..)) (by simp)
  | x :: xs, [], _, _, h => absurd ((h x).mp (List.mem_cons_self ..)) (by simp)
  | x :: xs, y :: ys, hx, hy, h => by
    rw [List.pairwise_cons] at hx hy
    have e : x = y := by
      have h1 := (h x).mp (List.mem_cons_self ..)
      have h2 := (h y).mpr (List.mem_cons_self ..)
      rw [List.mem_cons] at h1 h2
      rcases h1 with h1 | h1
      · exact h1
      · rcases h2 with h2 | h2
        · exact h2.symm
        · have := hy.1 x h1
          have := hx.1 y h2
          omega
    subst e
    rw [asc_uniq hx.2 hy.2 fun z => ?_]
    have hz := h z
    rw [List.mem_cons, List.mem_cons] at hz
    constructor
    · intro m
      rcases hz.mp (.inr m) with e | e
      · subst e
        exact absurd (hx.1 z m) (by omega)
      · exact e
    · intro m
      rcases hz.mpr (.inr m) with e | e
      · subst e
        exact absurd (hy.1 z m) (by omega)
      · exact e
/-- ascending, not strictly: what is sorted is unique -/
theorem srt_uniq : ∀ {xs ys : List Int}, xs.Perm ys → xs.Pairwise (· ≤ ·) → ys.Pairwise (· ≤ ·) → xs = ys
  | [], ys, p, _, _ => (List.nil_perm.mp p).symm
  | x :: xs, [], p, _, _ => absurd p.symm (by simp)
  | x :: xs, y :: ys, p, hx, hy => by
    rw [List.pairwise_cons] at hx hy
    have e : x = y := by
      have h1 := p.mem_iff.mp (List.mem_cons_self (a := x) (l := xs))
      have h2 := p.mem_iff.mpr (List.mem_cons_self (a := y) (l := ys))
      rw [List.mem_cons] at h1 h2
      rcases h1 with h1 | h1
      · exact h1
      · rcases h2 with h2 | h2
        · exact h2.symm
        · have := hy.1 x h1
          have := hx.1 y h2
          omega
    subst e
    rw [srt_uniq (List.Perm.cons_inv p) hx.2 hy.2]
/-! insertion sort -/
def insN (x : Nat) : List Nat → List Nat
  | [] => [x]
  | y :: r => if x ≤ y then x :: y :: r else y :: insN x r
def srtN : List Nat → List Nat
  | [] => []
  | x :: r => insN x (srtN r)
theorem insN_perm (x : Nat) : ∀ xs, (insN x xs).Perm (x :: xs)
  | [] => List.Perm.refl _
  | y :: r => by
    unfold insN
    split
    · exact List.Perm.refl _
    · exact ((insN_perm x r).cons y).trans (List.Perm.swap x y r)
theorem srtN_perm : ∀ xs, (srtN xs).Perm xs
  | [] => List.Perm.refl _
  | x :: r => (insN_perm x (srtN r)).trans ((srtN_perm r).cons x)
theorem insN_srt {x : Nat} : ∀ {xs : List Nat}, xs.Pairwise (· ≤ ·) → (insN x xs).Pairwise (· ≤ ·)
  | [], _ => by
    unfold insN
    exact List.pairwise_singleton _ _
  | y :: r, h => by
    rw [List.pairwise_cons] at h
    unfold insN
    split
    · rename_i hxy
      rw [List.pairwise_cons, List.pairwise_cons]
      refine ⟨fun z hz => ?_, h.1, h.2⟩
      rcases List.mem_cons.mp hz with rfl | hz
      · exact hxy
      · exact Nat.le_trans hxy (h.1 z hz)
    · rename_i hxy
      rw [List.pairwise_cons]
      refine ⟨fun z hz => ?_, insN_srt h.2⟩
      rcases List.mem_cons.mp ((insN_perm x r).mem_iff.mp hz) with rfl | hz
      · omega
      · exact h.1 z hz
theorem srtN_srt : ∀ xs, (srtN xs).Pairwise (· ≤ ·)
  | [] => List.Pairwise.nil
  | x :: r => insN_srt (srtN_srt r)
theorem srt_is {ns : List Int} {xs : List Nat} (p : ns.Perm (ni xs)) (h : ns.Pairwise (· ≤ ·)) : ns = ni (srtN xs) := by
  refine srt_uniq (p.trans ?_) h ?_
  · unfold ni
    exact ((srtN_perm xs).map _).symm
  · unfold ni
    rw [List.pairwise_map]
    exact (srtN_srt xs).imp fun h => by omega
/-- strictly ascending, the members of a list, each once -/
theorem asc_set {xs ys : List Nat} {zs : List Int} (hs : zs.Pairwise (· < ·)) (hz : ∀ k : Int, k ∈ zs ↔ decide (k ∈ ni xs) = true) (hy : ys.Pairwise (· < ·)) (h : ∀ z, z ∈ ys ↔ z ∈ xs) : zs = ni ys := by
  obtain ⟨ws, rfl⟩ := ni_of (zs := zs) fun k hk => by
    have := of_decide_eq_true ((hz k).mp hk)
    unfold ni at this
    obtain ⟨j, _, rfl⟩ := List.mem_map.mp this
    omega
  rw [asc_uniq (xs := ws) (ys := ys) ?_ hy fun z => ?_]
  · unfold ni at hs
    rw [List.pairwise_map] at hs
    exact hs.imp fun {x y} h => by omega
  · rw [h z]
    have h1 := hz (z : Int)
    rw [decide_eq_true_eq] at h1
    have m : ∀ (l : List Nat), ((z : Int) ∈ ni l) ↔ z ∈ l := fun l => by
      unfold ni
      rw [List.mem_map]
      constructor
      · rintro ⟨j, hj, e⟩
        have e : (j : Int) = (z : Int) := e
        rwa [show z = j by omega]
      · exact fun h => ⟨z, h, rfl⟩
    rw [m ws, m xs] at h1
    exact h1
/-! each once, ascending -/
def unqN : List Nat → List Nat
  | [] => []
  | [x] => [x]
  | x :: y :: r => if x = y then unqN (y :: r) else x :: unqN (y :: r)
theorem unqN_mem : ∀ (xs : List Nat) (z : Nat), z ∈ unqN xs ↔ z ∈ xs
  | [], z => Iff.rfl
  | [x], z => Iff.rfl
  | x :: y :: r, z => by
    unfold unqN
    split
    · rename_i h
      subst h
      rw [unqN_mem (x :: r) z]
      simp
    · rw [List.mem_cons, unqN_mem (y :: r) z, List.mem_cons (a := z) (b := x)]
theorem unqN_asc : ∀ {xs : List Nat}, xs.Pairwise (· ≤ ·) → (unqN xs).Pairwise (· < ·)
  | [], _ => List.Pairwise.nil
  | [x], _ => List.pairwise_singleton _ _
  | x :: y :: r, h => by
    rw [List.pairwise_cons] at h
    have ih := unqN_asc h.2
    unfold unqN
    split
    · exact ih
    · rename_i hxy
      rw [List.pairwise_cons]
      refine ⟨fun z hz => ?_, ih⟩
      have hz := (unqN_mem _ z).mp hz
      have h1 := h.1 y (List.mem_cons_self ..)
      rcases List.mem_cons.mp hz with rfl | hz
      · omega
      · have := h.1 z (List.mem_cons_of_mem _ hz)
        have h2 := h.2
        rw [List.pairwise_cons] at h2
        have := h2.1 z hz
        omega
def setN (xs : List Nat) : List Nat := unqN (srtN xs)
theorem setN_mem {xs : List Nat} {z : Nat} : z ∈ setN xs ↔ z ∈ xs := (unqN_mem _ z).trans (srtN_perm xs).mem_iff
theorem setN_asc (xs : List Nat) : (setN xs).Pairwise (· < ·) := unqN_asc (srtN_srt xs)
/-! the denominators of sums -/
def sumE (p a c : Nat) : List Nat := if a ≠ c then [max a c] else if p = 2 then List.range a else List.range (a + 1)
def sumStep (one two : Nat) (found : List Nat) (r : Nat × Nat) : List Nat := found.flatMap fun x => (sumE r.1 (vl r.1 one) (vl r.1 two)).map fun e => x * r.1 ^ e
def sumK (one two k : Nat) : List Nat := ((ppL (Nat.lcm one two)).take k).foldl (sumStep one two) [1]
def sumL (one two : Nat) : List Nat := (ppL (Nat.lcm one two)).foldl (sumStep one two) [1]
theorem sumK_succ {one two k : Nat} (h : k < (ppL (Nat.lcm one two)).length) : sumK one two (k + 1) = sumStep one two (sumK one two k) (ppL (Nat.lcm one two))[k] := by
  unfold sumK
  rw [List.take_succ_eq_append_getElem h, List.foldl_append]
  rfl
theorem sumK_all {one two : Nat} : sumK one two (ppL (Nat.lcm one two)).length = sumL one two := by
  unfold sumK sumL
  rw [List.take_length]
/-- small enough on the way -/
def sumOk (one two : Nat) : Bool := decide (Nat.lcm one two ≤ 20000) && ((List.range ((ppL (Nat.lcm one two)).length + 1)).all fun k => decide ((sumK one two k).length ≤ 1000) && ((sumK one two k).all fun z => decide (z ≤ 100000000)) && decide (1 ≤ (sumK one two k).length))
theorem sumOk_at {one two k : Nat} (h : sumOk one two = true) (hk : k ≤ (ppL (Nat.lcm one two)).length) : (sumK one two k).length ≤ 1000 ∧ (∀ z ∈ sumK one two k, z ≤ 100000000) ∧ 1 ≤ (sumK one two k).length := by
  unfold sumOk at h
  rw [Bool.and_eq_true, List.all_eq_true] at h
  have h2 := h.2 k (List.mem_range.mpr (by omega))
  simp only [Bool.and_eq_true, decide_eq_true_eq, List.all_eq_true] at h2
  exact ⟨h2.1.1, h2.1.2, h2.2⟩
theorem sumOk_lcm {one two : Nat} (h : sumOk one two = true) : Nat.lcm one two ≤ 20000 := by
  unfold sumOk at h
  rw [Bool.and_eq_true] at h
  exact of_decide_eq_true h.1
def sdL (one two : Nat) : List Nat := srtN (sumL one two)
/-! lowest terms -/
def lowN (a u : Nat) : Nat × Nat := (a % u / Nat.gcd (a % u) u, u / Nat.gcd (a % u) u)
def sdn (x n y m : Nat) : Nat := n * m / Nat.gcd (x * m + y * n) (n * m)
theorem low_two (x n y m : Nat) : (lowN (x * m + y * n) (n * m)).2 = sdn x n y m := by
  unfold lowN sdn
  show n * m / Nat.gcd ((x * m + y * n) % (n * m)) (n * m) = _
  rw [← Nat.gcd_rec, Nat.gcd_comm]
theorem low_self {x n : Nat} (h : x < n) (g : Nat.gcd x n = 1) : lowN x n = (x, n) := by
  unfold lowN
  rw [Nat.mod_eq_of_lt h, g, Nat.div_one, Nat.div_one]
theorem low_ok {a u : Nat} (hu : 1 ≤ u) : (lowN a u).1 < (lowN a u).2 ∧ Nat.gcd (lowN a u).1 (lowN a u).2 = 1 ∧ (lowN a u).2 ≤ u := by
  unfold lowN
  have hr := Nat.mod_lt a (show 0 < u by omega)
  have hg : 1 ≤ Nat.gcd (a % u) u := Nat.gcd_pos_of_pos_right _ (by omega)
  obtain ⟨c, hc⟩ := Nat.gcd_dvd_left (a % u) u
  obtain ⟨e, he⟩ := Nat.gcd_dvd_right (a % u) u
  have h1 : a % u / Nat.gcd (a % u) u = c := by
    rw [Nat.div_eq_iff_eq_mul_right hg (Nat.gcd_dvd_left _ _)]
    exact hc
  have h2 : u / Nat.gcd (a % u) u = e := by
    rw [Nat.div_eq_iff_eq_mul_right hg (Nat.gcd_dvd_right _ _)]
    exact he
  refine ⟨?_, ?_, Nat.div_le_self _ _⟩
  · show a % u / _ < u / _
    rw [h1, h2]
    refine Nat.lt_of_mul_lt_mul_left (a := Nat.gcd (a % u) u) ?_
    rw [← hc, ← he]
    exact hr
  · show Nat.gcd (a % u / _) (u / _) = 1
    rw [Nat.gcd_div (Nat.gcd_dvd_left _ _) (Nat.gcd_dvd_right _ _)]
    exact Nat.div_self hg
theorem low_mod {a u : Nat} (hu : 1 ≤ u) : lowN (a % u) u = lowN a u := by
  unfold lowN
  rw [Nat.mod_mod]
/-- an example: the first numerator -/
def exF (one two d : Nat) : Option Nat := (List.range two).find? fun y => decide (Nat.gcd y two = 1) && decide (sdn (1 % one) one y two = d)
theorem exF_some {one two d y : Nat} (h : exF one two d = some y) : y < two ∧ Nat.gcd y two = 1 ∧ sdn (1 % one) one y two = d := by
  unfold exF at h
  have h1 := List.find?_some h
  have h2 := List.mem_of_find?_eq_some h
  simp only [Bool.and_eq_true, decide_eq_true_eq] at h1
  exact ⟨List.mem_range.mp h2, h1⟩
theorem exF_none {one two d : Nat} (h : exF one two d = none) : ∀ y, y < two → Nat.gcd y two = 1 → sdn (1 % one) one y two ≠ d := by
  intro y hy hg e
  unfold exF at h
  have := List.find?_eq_none.mp h y (List.mem_range.mpr hy)
  rw [decide_eq_true hg, decide_eq_true e] at this
  exact this rfl
end Wn
/-! sorted of a set of ints, any number of members -/
namespace L2
open PySem PySem.Spec PyProof.Rows
section
variable {P : Program} {w : World} {A : Around} {E : Value → Shared → Prop} {s : Shared} {a : Addr}
theorem sorted_setB {S : Int → Bool} {n : Nat} {Q : Value → Shared → Prop} (R : SetR w s.heap a S n) (hh : A.handled = none) (hn0 : n ≤ 4000)
    (hQ : ∀ s' p (out : Array Value) (c : Nat) (ns : List Int), (∀ b o, s.heap.get? b = some o → s'.heap.get? b = some o) → s'.gens = s.gens → s'.os = s.os → s.heap.objs.size ≤ p →
      s'.heap.get? p = some (seqObj "list" out c) → IntsAre out.toList ns → ns.Pairwise (· < ·) → (∀ k, k ∈ ns ↔ S k = true) → ns.length = n → Q (.ref p) s') :
    wpAny (model P w) A (call (.builtin "sorted") [.ref a]) Q E s := by
  obtain ⟨o, es, ep, t, ho, hex, hd, g, nd, hm, hb, hf, hn, hr, hl⟩ := R
  refine Calls.call_function_entry kind_sorted plain_sorted entry_sorted (args_sorted1 _) ?_
  unfold Builtin.«sorted»
  refine wpAny_bind (m := checkCount "sorted" 1 1 _) (wpAny_pure ?_)
  refine wpAny_bind (collect_set (A := A.in1) hh ⟨o, ho, hex.1, hd⟩ hf hb hr hl fun s1 vs k1 hz g1 o1 pm => ?_)
  have hvl : vs.length = n := by rw [pm.length_eq, List.length_map, Array.length_toList]; exact hn
  have hI : IntsAre vs (vs.map Builtin.Re.reRawOf) := ints_of vs fun v hv => by
    obtain ⟨e, he, q⟩ := List.mem_map.mp (pm.mem_iff.mp hv)
    obtain ⟨k, tk, h1, _⟩ := g e he
    exact ⟨k, tk, by rw [← q]; exact h1⟩
  have pk : (vs.map Builtin.Re.reRawOf).Perm (es.toList.map keyOf) := by
    have q := pm.map Builtin.Re.reRawOf
    rw [List.map_map] at q
    exact q
  have hvz : vs.length ≤ sizeLine := by rw [hvl, sizeLine_eq]; omega
  refine wpAny_bind (wpAny_newList ?_ hvz)
  have hoL : (s1.heap.push (seqObj "list" vs.toArray 0)).get? s1.heap.objs.size = some (seqObj "list" vs.toArray 0) := Heap.get?_push_size _ rfl
  refine wpAny_bind (wpAny_holding (wpAny_call_entry slot_list_sort ⟨_, hoL, rfl⟩ entry_list_sort (SrtO.list_sort_ord SrtO.swo_int hoL hvz (fun h2 => SrtO.ints_sortable hI h2) fun out h1 h2 => ⟨.none, rfl, ?_⟩) (args_list_sort _)))
  obtain ⟨a1, a2, a3⟩ := SrtO.ints_out hI h1 h2
  obtain ⟨c, hc⟩ := sortedHeap_at (vs := vs) (out := out.toArray) hoL
  have pn : (out.map SrtO.iv).Perm (es.toList.map keyOf) := a2.trans pk
  refine wpAny_pure ⟨_, rfl, hQ _ s1.heap.objs.size out.toArray c (out.map SrtO.iv) (fun b u e => ?_) g1 o1 hz hc a1 (lt_of_le_nodup _ a3 (pn.nodup_iff.mpr nd)) (fun k => by rw [pn.mem_iff, ← hm k]) ?_⟩
  · have q := k1 b u e
    have hlt := Heap.lt_size q
    show (sortedHeap (s1.heap.push (seqObj "list" vs.toArray 0)) s1.heap.objs.size vs out.toArray).get? b = some u
    rw [sortedHeap_old (Nat.ne_of_lt hlt) (by rw [size_push']; exact Nat.lt_succ_of_lt hlt)]
    exact Heap.get?_push_of_some _ q
  · rw [pn.length_eq, List.length_map, Array.length_toList]; exact hn
end
def rSortedSetB (w : World) : List V → Hp → VK → Prop := fun vs H Q => ∃ (a : Addr) (S : Int → Bool) (n : Nat), vs = [V.ref a] ∧ H a = some (SetO w a S n) ∧ n ≤ 4000 ∧
  ∀ (ns : List Int) (p : Addr), ns.Pairwise (· < ·) → (∀ k : Int, k ∈ ns ↔ S k = true) → ns.length = n → H p = none → Q (.ref p) (upd H p (.lst (ns.map V.int)))
theorem cr_sortedSetB {X : Cx} (hc : X.calm = true) : CallR X (.builtin "sorted") (rSortedSetB X.w) := by
  intro pins s σ H vs us Q I r h
  obtain ⟨a, S, n, rfl, ha, h64, q⟩ := h
  have R := setO_get I ha
  rw [Vals.ref1 r]
  refine sorted_setB R (I.ok.hd hc) h64 fun s' p out c ns k g o hp hg hi hs hm hl => ?_
  have hlen : (ns.map V.int).length ≤ sizeLine := by rw [List.length_map, hl, sizeLine_eq]; omega
  have hn : H p = none := I.hok.fresh hp
  have J : Inv X pins σ (upd H p (.lst (ns.map V.int))) { s with heap := s'.heap, gens := s'.gens, drawn := s'.drawn, toks := s'.toks } :=
    I.call (ch := []) (Un.laid k hp hn) (I.hok.laid k hp ⟨hlen, out.toList, c, vals_of_ints hi, hg⟩) (by rw [g]; exact I.bare) (fun _ z => nomatch z)
  have e : s' = { s with heap := s'.heap, gens := s'.gens, drawn := s'.drawn, toks := s'.toks } := by
    cases s'
    cases s
    cases o
    rfl
  rw [e]
  exact ⟨.ref p, _, J, rfl, q ns p hs hm hl hn⟩
end L2
namespace Wn
/-! the length (order) of a residue -/
def ordN (n r : Nat) : Nat := if Nat.gcd r n = 1 then (match (List.range n).find? fun j => r ^ (j + 1) % n == 1 % n with
  | some j => j + 1
  | none => 0) else 0
theorem ordN_no {n r : Nat} (h : Nat.gcd r n ≠ 1) : ordN n r = 0 := if_neg h
theorem find_least {n : Nat} {p : Nat → Bool} {j : Nat} (hj : j < n) (h : p j = true) (hl : ∀ i, i < j → p i = false) : (List.range n).find? p = some j := by
  rw [List.find?_range_eq_some]
  refine ⟨h, List.mem_range.mpr hj, fun i hi => ?_⟩
  rw [hl i hi]
  rfl
theorem ordN_per {n r : Nat} (hn : 1 ≤ n) (h : Nat.gcd r n = 1) : IsPer r n (ordN n r) ∧ ordN n r ≤ n := by
  obtain ⟨L, hL, hP⟩ := per_exists hn h
  have e : ordN n r = L := by
    unfold ordN
    rw [if_pos h, find_least (j := L - 1) (by have := hP.1; omega) (by
      rw [Nat.sub_add_cancel hP.1, beq_iff_eq]
      exact hP.2.1) fun i hi => by
        rw [beq_eq_false_iff_ne]
        exact hP.2.2 (i + 1) (by omega) (by omega)]
    exact Nat.sub_add_cancel hP.1
  rw [e]
  exact ⟨hP, hL⟩
theorem ordN_eq {n r L : Nat} (hn : 1 ≤ n) (h : Nat.gcd r n = 1) (hP : IsPer r n L) : ordN n r = L := (ordN_per hn h).1.uniq hP
theorem ordN_pos {n r : Nat} (hn : 1 ≤ n) : ordN n r ≠ 0 ↔ Nat.gcd r n = 1 := by
  constructor
  · intro h
    by_cases g : Nat.gcd r n = 1
    · exact g
    · exact absurd (ordN_no g) h
  · intro g
    have := (ordN_per hn g).1.1
    omega
theorem ordN_le {n r : Nat} (hn : 1 ≤ n) : ordN n r ≤ n := by
  by_cases g : Nat.gcd r n = 1
  · exact (ordN_per hn g).2
  · rw [ordN_no g]
    exact Nat.zero_le _
theorem per_pow {n r L k : Nat} (h : IsPer r n L) (hk : 1 ≤ k) : IsPer (r ^ k % n) n (L / Nat.gcd k L) := by
  have hL := h.1
  have g0 : 0 < Nat.gcd k L := Nat.gcd_pos_of_pos_left L hk
  have key : ∀ j, (r ^ k % n) ^ j % n = 1 % n ↔ L / Nat.gcd k L ∣ j := fun j => by
    rw [← Nat.pow_mod, ← Nat.pow_mul, h.iff]
    obtain ⟨a, ha⟩ := Nat.gcd_dvd_left k L
    obtain ⟨c, hc⟩ := Nat.gcd_dvd_right k L
    have cop := Nat.coprime_div_gcd_div_gcd (m := k) (n := L) g0
    have e1 : L / Nat.gcd k L = c := Nat.div_eq_of_eq_mul_right g0 hc
    have e2 : k / Nat.gcd k L = a := Nat.div_eq_of_eq_mul_right g0 ha
    rw [e1, e2] at cop
    rw [e1]
    generalize Nat.gcd k L = g at g0 ha hc
    rw [ha, hc, Nat.mul_assoc]
    constructor
    · intro d
      exact (Nat.Coprime.symm cop).dvd_of_dvd_mul_left (Nat.dvd_of_mul_dvd_mul_left g0 d)
    · intro d
      exact Nat.mul_dvd_mul_left g (Nat.dvd_trans d (Nat.dvd_mul_left j a))
  refine ⟨Nat.div_pos (Nat.le_of_dvd hL (Nat.gcd_dvd_right k L)) g0, (key _).mpr (Nat.dvd_refl _), fun j j1 jd z => ?_⟩
  have := Nat.le_of_dvd (by omega) ((key j).mp z)
  omega
end Wn
namespace Wn
open PySem PySem.Spec PyProof.Rows L2
local macro_rules | `(tactic| walk_at "vc") => `(tactic| simp only [cxK, cxK2, start1, start2, start3, tRet, tRetN, tSeq, tNext, tIfS, tAsg, gName, tDrop, tVar, tC, tOp, tUn, tTest, tB, tNot, tAnd, tOr, tAndV, tOrV, tNotV, tIf, tCons, tNil, tCB, tCall, tChain, tAug, ipI, rI, rI0, rU, rIs, rGcd, rEq, rNe, scal,
  List.getElem?_cons_zero, List.getElem?_cons_succ, List.set_cons_zero, List.set_cons_succ, Option.some.injEq, List.cons.injEq, V.int.injEq, V.bl.injEq, V.ref.injEq, V.str.injEq, and_true, true_and, exists_eq_left, exists_eq_left', exists_and_left, exists_and_right, List.append_nil, List.nil_append, List.cons_append, exists_eq_right, exists_eq_right', and_assoc, exists_const, V.ty.injEq, ↓reduceIte, Bool.false_eq_true, Bool.not_true, Bool.not_false, decide_eq_true_eq])
def topS (i : Nat) : Stmt := PySem.Challenge.pw_wheelnines_k42_whole_sums.main.body.getD i (.Pass ⟨0, 0, 0, 0⟩)
abbrev s_is_integer : Stmt := topS 11
theorem sc_is_integer : FnScope ["value"] ["value"] (defScope s_is_integer) := ⟨rfl, rfl, rfl, by decide +kernel, rfl, by decide +kernel, by decide +kernel⟩
abbrev s_is_within : Stmt := topS 12
theorem sc_is_within : FnScope ["value", "low", "high"] ["value", "low", "high"] (defScope s_is_within) := ⟨rfl, rfl, rfl, by decide +kernel, rfl, by decide +kernel, by decide +kernel⟩
abbrev s_need_base : Stmt := topS 13
theorem sc_need_base : FnScope ["value"] ["value"] (defScope s_need_base) := ⟨rfl, rfl, rfl, by decide +kernel, rfl, by decide +kernel, by decide +kernel⟩
abbrev s_need_denominator : Stmt := topS 14
theorem sc_need_denominator : FnScope ["value"] ["value"] (defScope s_need_denominator) := ⟨rfl, rfl, rfl, by decide +kernel, rfl, by decide +kernel, by decide +kernel⟩
abbrev s_need_fraction : Stmt := topS 15
theorem sc_need_fraction : FnScope ["value", "numerator", "denominator"] ["value"] (defScope s_need_fraction) := ⟨rfl, rfl, rfl, by decide +kernel, rfl, by decide +kernel, by decide +kernel⟩
abbrev s_pure_part : Stmt := topS 16
theorem sc_pure_part : FnScope ["base", "denominator", "pure", "common"] ["base", "denominator"] (defScope s_pure_part) := ⟨rfl, rfl, rfl, by decide +kernel, rfl, by decide +kernel, by decide +kernel⟩
abbrev s_period : Stmt := topS 17
theorem sc_period : FnScope ["base", "denominator", "pure", "one", "rest", "size"] ["base", "denominator"] (defScope s_period) := ⟨rfl, rfl, rfl, by decide +kernel, rfl, by decide +kernel, by decide +kernel⟩
abbrev s_power : Stmt := topS 18
theorem sc_power : FnScope ["number", "exponent", "result", "_"] ["number", "exponent"] (defScope s_power) := ⟨rfl, rfl, rfl, by decide +kernel, rfl, by decide +kernel, by decide +kernel⟩
abbrev s_prime_powers : Stmt := topS 19
theorem sc_prime_powers : FnScope ["number", "rows", "left", "prime", "exponent"] ["number"] (defScope s_prime_powers) := ⟨rfl, rfl, rfl, by decide +kernel, rfl, by decide +kernel, by decide +kernel⟩
abbrev s_added : Stmt := topS 21
theorem sc_added : FnScope ["fraction", "other", "numerator", "denominator", "rest", "common"] ["fraction", "other"] (defScope s_added) := ⟨rfl, rfl, rfl, by decide +kernel, rfl, by decide +kernel, by decide +kernel⟩
abbrev s_sum_of : Stmt := topS 23
theorem sc_sum_of : FnScope ["fraction", "other"] ["fraction", "other"] (defScope s_sum_of) := ⟨rfl, rfl, rfl, by decide +kernel, rfl, by decide +kernel, by decide +kernel⟩
abbrev s_sum_exponents : Stmt := topS 24
theorem sc_sum_exponents : FnScope ["prime", "one", "two"] ["prime", "one", "two"] (defScope s_sum_exponents) := ⟨rfl, rfl, rfl, by decide +kernel, rfl, by decide +kernel, by decide +kernel⟩
abbrev s_sum_denominators : Stmt := topS 25
theorem sc_sum_denominators : FnScope ["one", "two", "in_one", "in_two", "found", "prime", "_", "exponents", "factors", "exponent", "number", "factor"] ["one", "two"] (defScope s_sum_denominators) := ⟨rfl, rfl, rfl, by decide +kernel, rfl, by decide +kernel, by decide +kernel⟩
abbrev s_sum_periods : Stmt := topS 26
theorem sc_sum_periods : FnScope ["base", "one", "two", "denominator"] ["base", "one", "two"] (defScope s_sum_periods) := ⟨rfl, rfl, rfl, by decide +kernel, rfl, by decide +kernel, by decide +kernel⟩
abbrev s_sum_denominator : Stmt := topS 27
theorem sc_sum_denominator : FnScope ["fraction", "other", "total", "product"] ["fraction", "other"] (defScope s_sum_denominator) := ⟨rfl, rfl, rfl, by decide +kernel, rfl, by decide +kernel, by decide +kernel⟩
abbrev s_sum_example : Stmt := topS 28
theorem sc_sum_example : FnScope ["one", "two", "denominator", "fraction", "numerator", "other"] ["one", "two", "denominator"] (defScope s_sum_example) := ⟨rfl, rfl, rfl, by decide +kernel, rfl, by decide +kernel, by decide +kernel⟩
abbrev s_law_begun : Stmt := topS 30
theorem sc_law_begun : FnScope ["script", "k", "cells", "great", "cell", "seed"] ["script", "k"] (defScope s_law_begun) := ⟨rfl, rfl, rfl, by decide +kernel, rfl, by decide +kernel, by decide +kernel⟩
abbrev s_law_draw : Stmt := topS 31
theorem sc_law_draw : FnScope ["m", "limit", "found", "spot", "cells", "added_v", "cell", "blend"] ["m", "limit"] (defScope s_law_draw) := ⟨rfl, rfl, rfl, by decide +kernel, rfl, by decide +kernel, by decide +kernel⟩
abbrev s_law_divisor : Stmt := topS 33
theorem sc_law_divisor : FnScope ["one", "two"] ["one", "two"] (defScope s_law_divisor) := ⟨rfl, rfl, rfl, by decide +kernel, rfl, by decide +kernel, by decide +kernel⟩
abbrev s_law_lowest : Stmt := topS 34
theorem sc_law_lowest : FnScope ["above", "under", "rest", "both"] ["above", "under"] (defScope s_law_lowest) := ⟨rfl, rfl, rfl, by decide +kernel, rfl, by decide +kernel, by decide +kernel⟩
abbrev s_law_powers : Stmt := topS 35
theorem sc_law_powers : FnScope ["b", "n", "some", "rest"] ["b", "n"] (defScope s_law_powers) := ⟨rfl, rfl, rfl, by decide +kernel, rfl, by decide +kernel, by decide +kernel⟩
abbrev s_law_period : Stmt := topS 36
theorem sc_law_period : FnScope ["b", "n", "some", "begin"] ["b", "n"] (defScope s_law_period) := ⟨rfl, rfl, rfl, by decide +kernel, rfl, by decide +kernel, by decide +kernel⟩
abbrev s_law_units : Stmt := topS 37
theorem sc_law_units : FnScope ["n", "k"] ["n"] (defScope s_law_units) := ⟨rfl, rfl, rfl, by decide +kernel, rfl, by decide +kernel, by decide +kernel⟩
abbrev s_law_sum : Stmt := topS 38
theorem sc_law_sum : FnScope ["one", "two"] ["one", "two"] (defScope s_law_sum) := ⟨rfl, rfl, rfl, by decide +kernel, rfl, by decide +kernel, by decide +kernel⟩
abbrev s_law_all : Stmt := topS 39
theorem sc_law_all : FnScope ["one", "two", "found", "x", "y"] ["one", "two"] (defScope s_law_all) := ⟨rfl, rfl, rfl, by decide +kernel, rfl, by decide +kernel, by decide +kernel⟩
abbrev s_law_example : Stmt := topS 40
theorem sc_law_example : FnScope ["one", "two", "n", "error"] ["one", "two", "n"] (defScope s_law_example) := ⟨rfl, rfl, rfl, by decide +kernel, rfl, by decide +kernel, by decide +kernel⟩
abbrev s_law_pair_right : Stmt := topS 41
theorem sc_law_pair_right : FnScope ["m", "one", "two", "due", "b", "lengths_so", "n", "told", "pair"] ["m", "one", "two"] (defScope s_law_pair_right) := ⟨rfl, rfl, rfl, by decide +kernel, rfl, by decide +kernel, by decide +kernel⟩
abbrev s_law_sums_right : Stmt := topS 42
theorem sc_law_sums_right : FnScope ["m", "turn", "one", "two", "due"] ["m"] (defScope s_law_sums_right) := ⟨rfl, rfl, rfl, by decide +kernel, rfl, by decide +kernel, by decide +kernel⟩
abbrev s_law_heard : Stmt := topS 43
theorem sc_law_heard : FnScope ["call", "error"] ["call"] (defScope s_law_heard) := ⟨rfl, rfl, rfl, by decide +kernel, rfl, by decide +kernel, by decide +kernel⟩
abbrev s_law_hand_right : Stmt := topS 44
theorem sc_law_hand_right : FnScope ["told", "one", "two", "pair"] [] (defScope s_law_hand_right) := ⟨rfl, rfl, rfl, by decide +kernel, rfl, by decide +kernel, by decide +kernel⟩
abbrev s_law : Stmt := topS 45
theorem sc_law : FnScope ["script", "k", "m", "both", "one", "two"] ["script"] (defScope s_law) := ⟨rfl, rfl, rfl, by decide +kernel, rfl, by decide +kernel, by decide +kernel⟩
def clsB (st : Stmt) (j : Nat) : Stmt := match st with
  | .ClassDef (body := b) .. => b.getD j (.Pass ⟨0, 0, 0, 0⟩)
  | _ => .Pass ⟨0, 0, 0, 0⟩
abbrev s_TooGreat_init : Stmt := clsB (topS 6) 0
theorem sc_TooGreat_init : FnScope ["self", "most"] ["self", "most"] (defScope s_TooGreat_init) := ⟨rfl, rfl, rfl, by decide +kernel, rfl, by decide +kernel, by decide +kernel⟩
abbrev s_Nothing_init : Stmt := clsB (topS 7) 0
theorem sc_Nothing_init : FnScope ["self", "value"] ["self", "value"] (defScope s_Nothing_init) := ⟨rfl, rfl, rfl, by decide +kernel, rfl, by decide +kernel, by decide +kernel⟩
structure Txt (K : PySem.W.Frag) (mg : Str → Option Value) where
  d_is_integer : Dn K mg "is_integer" s_is_integer ["value"]
  d_is_within : Dn K mg "is_within" s_is_within ["value", "low", "high"]
  d_need_base : Dn K mg "need_base" s_need_base ["value"]
  d_need_denominator : Dn K mg "need_denominator" s_need_denominator ["value"]
  d_need_fraction : Dn K mg "need_fraction" s_need_fraction ["value"]
  d_pure_part : Dn K mg "pure_part" s_pure_part ["base", "denominator"]
  d_period : Dn K mg "period" s_period ["base", "denominator"]
  d_power : Dn K mg "power" s_power ["number", "exponent"]
  d_prime_powers : Dn K mg "prime_powers" s_prime_powers ["number"]
  d_added : Dn K mg "added" s_added ["fraction", "other"]
  d_sum_of : Dn K mg "sum_of" s_sum_of ["fraction", "other"]
  d_sum_exponents : Dn K mg "sum_exponents" s_sum_exponents ["prime", "one", "two"]
  d_sum_denominators : Dn K mg "sum_denominators" s_sum_denominators ["one", "two"]
  d_sum_periods : Dn K mg "sum_periods" s_sum_periods ["base", "one", "two"]
  d_sum_denominator : Dn K mg "sum_denominator" s_sum_denominator ["fraction", "other"]
  d_sum_example : Dn K mg "sum_example" s_sum_example ["one", "two", "denominator"]
  d_law_begun : Dn K mg "_law_begun" s_law_begun ["script", "k"]
  d_law_draw : Dn K mg "_law_draw" s_law_draw ["m", "limit"]
  d_law_divisor : Dn K mg "_law_divisor" s_law_divisor ["one", "two"]
  d_law_lowest : Dn K mg "_law_lowest" s_law_lowest ["above", "under"]
  d_law_powers : Dn K mg "_law_powers" s_law_powers ["b", "n"]
  d_law_period : Dn K mg "_law_period" s_law_period ["b", "n"]
  d_law_units : Dn K mg "_law_units" s_law_units ["n"]
  d_law_sum : Dn K mg "_law_sum" s_law_sum ["one", "two"]
  d_law_all : Dn K mg "_law_all" s_law_all ["one", "two"]
  d_law_example : Dn K mg "_law_example" s_law_example ["one", "two", "n"]
  d_law_pair_right : Dn K mg "_law_pair_right" s_law_pair_right ["m", "one", "two"]
  d_law_sums_right : Dn K mg "_law_sums_right" s_law_sums_right ["m"]
  d_law_heard : Dn K mg "_law_heard" s_law_heard ["call"]
  d_law_hand_right : Dn K mg "_law_hand_right" s_law_hand_right []
  d_law : Dn K mg "law" s_law ["script"]
  b_isinstance : mg "isinstance" = none
  b_int : mg "int" = none
  b_bool : mg "bool" = none
  b_len : mg "len" = none
  b_range : mg "range" = none
  b_tuple : mg "tuple" = none
  b_list : mg "list" = none
  b_max : mg "max" = none
  b_min : mg "min" = none
  b_repr : mg "repr" = none
  b_sorted : mg "sorted" = none
  b_dict : mg "dict" = none
  b_OverflowError : mg "OverflowError" = none
  b_LookupError : mg "LookupError" = none
  b_set : mg "set" = none
  b_gcd : mg "gcd" = some (.builtin "math.gcd")
  b_lcm : mg "lcm" = some (.builtin "math.lcm")
  C_WheelError : Addr
  g_WheelError : mg "WheelError" = some (.ref C_WheelError)
  r_WheelError : ClX.CRead K C_WheelError (.type "type")
  i_WheelError : PySem.W.findCls K (.ref C_WheelError) (.type "type") "__init__" = some (.val (.builtin "ValueError.__init__"))
  C_BadBase : Addr
  g_BadBase : mg "BadBase" = some (.ref C_BadBase)
  C_BadDenominator : Addr
  g_BadDenominator : mg "BadDenominator" = some (.ref C_BadDenominator)
  C_BadFraction : Addr
  g_BadFraction : mg "BadFraction" = some (.ref C_BadFraction)
  C_TooGreat : Addr
  g_TooGreat : mg "TooGreat" = some (.ref C_TooGreat)
  I_TooGreat : Addr
  T_TooGreat : ErrC K C_TooGreat I_TooGreat "most" "OverflowError" "OverflowError.__new__" "OverflowError.__init__" [.type "OverflowError", .type "ArithmeticError", .type "Exception", .type "BaseException", .type "object"]
  fd_TooGreat : FuncData
  F_TooGreat : Fun K "__init__" "TooGreat.__init__" s_TooGreat_init I_TooGreat fd_TooGreat
  b_TooGreat : Binds K fd_TooGreat ["self", "most"] []
  is_TooGreat : IsC K C_TooGreat
  C_Nothing : Addr
  g_Nothing : mg "Nothing" = some (.ref C_Nothing)
  I_Nothing : Addr
  T_Nothing : ErrC K C_Nothing I_Nothing "value" "LookupError" "LookupError.__new__" "LookupError.__init__" [.type "LookupError", .type "Exception", .type "BaseException", .type "object"]
  fd_Nothing : FuncData
  F_Nothing : Fun K "__init__" "Nothing.__init__" s_Nothing_init I_Nothing fd_Nothing
  b_Nothing : Binds K fd_Nothing ["self", "value"] []
  is_Nothing : IsC K C_Nothing
  ex1_TooGreat : PySem.W.exmOne K (.ref C_TooGreat) (.ref C_TooGreat) = some true
  ex1_Nothing : PySem.W.exmOne K (.ref C_Nothing) (.ref C_Nothing) = some true
  i_LookupError : PySem.W.findCls K (.type "LookupError") (.type "type") "__init__" = some (.val (.builtin "LookupError.__init__"))
  i_OverflowError : PySem.W.findCls K (.type "OverflowError") (.type "type") "__init__" = some (.val (.builtin "OverflowError.__init__"))
  k_law_hand_right : Addr
  p_law_hand_right : Addr
  e_law_hand_right : d_law_hand_right.fd.code = .ref k_law_hand_right
  t_MOST_BASE : Tok
  c_MOST_BASE : mg "MOST_BASE" = some (.int 1000 t_MOST_BASE)
  t_MOST_DENOMINATOR : Tok
  c_MOST_DENOMINATOR : mg "MOST_DENOMINATOR" = some (.int 5000 t_MOST_DENOMINATOR)
section
variable {P : Program} {w : World} {K : PySem.W.Frag} {mg : Str → Option Value} {base : Heap}

def BN (b n : Nat) : Prop := 2 ≤ b ∧ b ≤ 1000 ∧ 1 ≤ n ∧ n ≤ 5000
def sp_is_integer : Sp := fun vs H Q _ => ∃ i : Int, vs = [.int i] ∧ Q (.bl true) H
def sp_is_within : Sp := fun vs H Q _ => ∃ i lo hi : Int, vs = [.int i, .int lo, .int hi] ∧ (lo ≤ i ∧ i ≤ hi) ∧ Q (.bl true) H
def sp_need_base : Sp := fun vs H Q _ => ∃ i : Int, vs = [.int i] ∧ (2 ≤ i ∧ i ≤ 1000) ∧ Q (.int i) H
def sp_need_denominator : Sp := fun vs H Q _ => ∃ i : Int, vs = [.int i] ∧ (1 ≤ i ∧ i ≤ 5000) ∧ Q (.int i) H
def sp_need_fraction : Sp := fun vs H Q _ => ∃ (a : Addr) (x n : Nat), vs = [.ref a] ∧ H a = some (.tup [.int x, .int n]) ∧ (x < n ∧ n ≤ 5000 ∧ Nat.gcd x n = 1) ∧ Q (.ref a) H
def sp_pure_part : Sp := fun vs H Q _ => ∃ b n : Nat, vs = [.int b, .int n] ∧ BN b n ∧ ∀ p : Nat, IsPure b n p → Q (.int p) H
def sp_period : Sp := fun vs H Q _ => ∃ b n : Nat, vs = [.int b, .int n] ∧ BN b n ∧ ∀ p d : Nat, IsPure b n p → IsPer b p d → Q (.int d) H
def sp_head_size : Sp := fun vs H Q _ => ∃ b n : Nat, vs = [.int b, .int n] ∧ BN b n ∧ ∀ p q h : Nat, IsPure b n p → n = p * q → IsHead b q h → Q (.int h) H
theorem ok_is_integer (T : Txt K mg) : FnOk P w K mg base CX0 1 T.d_is_integer.f T.d_is_integer.fd ["value"] sp_is_integer := by
  refine T.d_is_integer.F.ok sc_is_integer (fun vs H Q E h => ?_) (fun cdv A outer s H vs Q E hr h => ?_)
  · obtain ⟨i, rfl, _⟩ := h; rfl
  · have hu := hu_of hr
    refine ⟨_, (pss_one (ps_ret (pe_and (pe_callB (r := rIs K) call_is (by rfl) T.b_isinstance (by decide +kernel) (pa_cons (pv 0) (pa_cons (pe_bltn (v := .ty "int") (by rfl) T.b_int (by decide +kernel) rfl) pa_nil))) (pe_one (pe_not (pe_callB (r := rIs K) call_is (by rfl) T.b_isinstance (by decide +kernel) (pa_cons (pv 0) (pa_cons (pe_bltn (v := .ty "bool") (by rfl) T.b_bool (by decide +kernel) rfl) pa_nil)))))))), ?_⟩
    obtain ⟨i, rfl, q⟩ := h
    walk_at "vc"
    refine ⟨"int", ty_int, by decide, by decide, iteT ⟨"int", ty_int, by decide, by decide, q⟩⟩
theorem ok_is_within (T : Txt K mg) : FnOk P w K mg base CX0 2 T.d_is_within.f T.d_is_within.fd ["value", "low", "high"] sp_is_within := by
  refine T.d_is_within.F.ok sc_is_within (fun vs H Q E h => ?_) (fun cdv A outer s H vs Q E hr h => ?_)
  · obtain ⟨i, lo, hi, rfl, _⟩ := h; rfl
  · have hu := hu_of hr
    refine ⟨_, (pss_one (ps_ret (pe_and (pe_call (ok_is_integer T) (hr.mono (by decide)) (by rfl) T.d_is_integer.m T.d_is_integer.F.kp T.d_is_integer.b .nil pass0 (pa_cons (pv 0) pa_nil)) (pe_one (pe_chain op_le op_le (pv 1) (pv 0) (pv 2)))))), ?_⟩
    obtain ⟨i, lo, hi, rfl, ⟨h1, h2⟩, q⟩ := h
    refine ⟨_, rfl, i, rfl, true, rfl, iteT ?_⟩
    walk_at "vc"
    rw [if_pos h1, decide_eq_true h2]
    exact q
theorem ok_need_base (T : Txt K mg) : FnOk P w K mg base CX0 3 T.d_need_base.f T.d_need_base.fd ["value"] sp_need_base := by
  refine T.d_need_base.F.ok sc_need_base (fun vs H Q E h => ?_) (fun cdv A outer s H vs Q E hr h => ?_)
  · obtain ⟨i, rfl, _⟩ := h; rfl
  · have hu := hu_of hr
    refine ⟨_, (pss_cons (ps_if (pt_not (pt_val (pe_call (ok_is_within T) (hr.mono (by decide)) (by rfl) T.d_is_within.m T.d_is_within.F.kp T.d_is_within.b .nil pass0 (pa_cons (pv 0) (pa_cons pe_int (pa_cons (pe_glob (v := .int 1000) (by rfl) T.c_MOST_BASE ⟨_, rfl⟩) pa_nil)))))) (pss_one ps_never) pss_nil)
      (pss_one (ps_ret (pv 0)))), ?_⟩
    obtain ⟨i, rfl, ⟨h1, h2⟩, q⟩ := h
    refine ⟨_, rfl, i, _, _, rfl, ⟨h1, h2⟩, true, rfl, iteF ?_⟩
    exact ⟨_, rfl, q⟩
theorem ok_need_denominator (T : Txt K mg) : FnOk P w K mg base CX0 3 T.d_need_denominator.f T.d_need_denominator.fd ["value"] sp_need_denominator := by
  refine T.d_need_denominator.F.ok sc_need_denominator (fun vs H Q E h => ?_) (fun cdv A outer s H vs Q E hr h => ?_)
  · obtain ⟨i, rfl, _⟩ := h; rfl
  · have hu := hu_of hr
    refine ⟨_, (pss_cons (ps_if (pt_not (pt_val (pe_call (ok_is_within T) (hr.mono (by decide)) (by rfl) T.d_is_within.m T.d_is_within.F.kp T.d_is_within.b .nil pass0 (pa_cons (pv 0) (pa_cons pe_int (pa_cons (pe_glob (v := .int 5000) (by rfl) T.c_MOST_DENOMINATOR ⟨_, rfl⟩) pa_nil)))))) (pss_one ps_never) pss_nil)
      (pss_one (ps_ret (pv 0)))), ?_⟩
    obtain ⟨i, rfl, ⟨h1, h2⟩, q⟩ := h
    refine ⟨_, rfl, i, _, _, rfl, ⟨h1, h2⟩, true, rfl, iteF ?_⟩
    exact ⟨_, rfl, q⟩
theorem ok_need_fraction (T : Txt K mg) : FnOk P w K mg base CX0 3 T.d_need_fraction.f T.d_need_fraction.fd ["value"] sp_need_fraction := by
  refine T.d_need_fraction.F.ok sc_need_fraction (fun vs H Q E h => ?_) (fun cdv A outer s H vs Q E hr h => ?_)
  · obtain ⟨a, x, n, rfl, _⟩ := h; rfl
  · have hu := hu_of hr
    refine ⟨_, (pss_cons (ps_if (PW.pt (pw_or (pt_not (pt_val (pe_callB (r := rIs K) call_is (by rfl) T.b_isinstance (by decide +kernel) (pa_cons (pv 0) (pa_cons (pe_bltn (v := .ty "tuple") (by rfl) T.b_tuple (by decide +kernel) rfl) pa_nil))))) (pw_or1 (pt_cmpR op_ne (pe_callB (r := rLn K) call_ln (by rfl) T.b_len PySem.boot_len (pa_cons (pv 0) pa_nil)) pe_int (nomark _))))) (pss_one ps_never) pss_nil)
      (pss_cons (ps_asg (pv 0) (pg_tup (by rfl) (pgs_cons (pg_name (i := 1) sc_need_fraction.nd rfl (by first | exact .inl rfl | exact .inr rfl)) (pgs_cons (pg_name (i := 2) sc_need_fraction.nd rfl (by first | exact .inl rfl | exact .inr rfl)) pgs_nil))))
      (pss_cons (ps_if (PW.pt (pw_or (pt_not (pt_val (pe_call (ok_is_within T) (hr.mono (by decide)) (by rfl) T.d_is_within.m T.d_is_within.F.kp T.d_is_within.b .nil pass0 (pa_cons (pv 2) (pa_cons pe_int (pa_cons (pe_glob (v := .int 5000) (by rfl) T.c_MOST_DENOMINATOR ⟨_, rfl⟩) pa_nil)))))) (pw_or1 (pt_not (pt_val (pe_call (ok_is_within T) (hr.mono (by decide)) (by rfl) T.d_is_within.m T.d_is_within.F.kp T.d_is_within.b .nil pass0 (pa_cons (pv 1) (pa_cons pe_int (pa_cons (pe_op op_sub (pv 2) pe_int) pa_nil))))))))) (pss_one ps_never) pss_nil)
      (pss_cons (ps_if (pt_cmpR op_ne (pe_callBfun cr_gcd (by rfl) T.b_gcd (pa_cons (pv 1) (pa_cons (pv 2) pa_nil))) pe_int (nomark _)) (pss_one ps_never) pss_nil)
      (pss_one (ps_ret (pv 0))))))), ?_⟩
    obtain ⟨a, x, n, rfl, ha, ⟨h1, h2, h3⟩, q⟩ := h
    refine ⟨_, rfl, _, "tuple", rfl, "tuple", ⟨ty_tup ha, by decide, by decide⟩, true, rfl, ?_⟩
    refine iteF ⟨_, rfl, a, _, rfl, .inr (sq_tup ha), rfl, _, rfl, ?_⟩
    refine iteF ?_
    refine ⟨_, rfl, a, _, rfl, sq_tup ha, rfl, _, _, rfl, _, _, rfl, rfl, ?_⟩
    refine ⟨_, rfl, n, _, _, rfl, ⟨by omega, by omega⟩, true, rfl, iteF ?_⟩
    refine ⟨_, rfl, _, rfl, n, 1, rfl, rfl, x, _, _, rfl, ⟨by omega, by omega⟩, true, rfl, iteF ?_⟩
    refine ⟨_, rfl, _, rfl, x, n, rfl, rfl, _, rfl, ?_⟩
    have e : (!decide (V.int ((Nat.gcd (x : Int).natAbs (n : Int).natAbs : Nat) : Int) = V.int 1)) = false := by
      rw [Int.natAbs_natCast, Int.natAbs_natCast, h3]
      rfl
    rw [e]
    exact iteF ⟨_, rfl, q⟩
theorem ok_pure_part (T : Txt K mg) : FnOk P w K mg base CX0 4 T.d_pure_part.f T.d_pure_part.fd ["base", "denominator"] sp_pure_part := by
  refine T.d_pure_part.F.ok sc_pure_part (fun vs H Q E h => ?_) (fun cdv A outer s H vs Q E hr h => ?_)
  · obtain ⟨b, n, rfl, _⟩ := h; rfl
  · have hu := hu_of hr
    refine ⟨_, (pss_cons (ps_expr (pe_call (ok_need_base T) (hr.mono (by decide)) (by rfl) T.d_need_base.m T.d_need_base.F.kp T.d_need_base.b .nil pass0 (pa_cons (pv 0) pa_nil)))
      (pss_cons (ps_expr (pe_call (ok_need_denominator T) (hr.mono (by decide)) (by rfl) T.d_need_denominator.m T.d_need_denominator.F.kp T.d_need_denominator.b .nil pass0 (pa_cons (pv 1) pa_nil)))
      (pss_cons (ps_set (i := 2) sc_pure_part.nd rfl (by first | exact .inl rfl | exact .inr rfl) (pv 1))
      (pss_cons (ps_set (i := 3) sc_pure_part.nd rfl (by first | exact .inl rfl | exact .inr rfl) (pe_callBfun cr_gcd (by rfl) T.b_gcd (pa_cons (pv 0) (pa_cons (pv 2) pa_nil))))
      (pss_cons (ps_while PassesOwn.never (pt_cmpR op_gt (pv 3) pe_int (nomark _)) (pss_cons (ps_set (i := 2) sc_pure_part.nd rfl (by first | exact .inl rfl | exact .inr rfl) (pe_op op_fdiv (pv 2) (pv 3)))
      (pss_one (ps_set (i := 3) sc_pure_part.nd rfl (by first | exact .inl rfl | exact .inr rfl) (pe_callBfun cr_gcd (by rfl) T.b_gcd (pa_cons (pv 0) (pa_cons (pv 2) pa_nil)))))))
      (pss_one (ps_ret (pv 2)))))))), ?_⟩
    obtain ⟨b, n, rfl, ⟨hb1, hb2, hn1, hn2⟩, q⟩ := h
    refine ⟨_, rfl, b, rfl, ⟨by omega, by omega⟩, ?_⟩
    refine ⟨_, rfl, n, rfl, ⟨by omega, by omega⟩, ?_⟩
    refine ⟨_, rfl, _, rfl, _, rfl, b, n, rfl, ?_⟩
    refine ⟨fun m σ H' => H' = H ∧ ∃ p r k : Nat, m = p ∧ σ = [some (.int b), some (.int n), some (.int p), some (.int (Nat.gcd b p : Nat))] ∧ 1 ≤ p ∧ n = p * r ∧ r ∣ b ^ k, ⟨n, rfl, n, 1, 0, rfl, rfl, hn1, by simp, by simp⟩, ?_⟩
    rintro m σ H' ⟨rfl, p, r, k, rfl, rfl, hp, hn, hr'⟩
    have hpn : m ≤ 5000 := by
      have : m ∣ n := ⟨r, hn⟩
      have := Nat.le_of_dvd hn1 this
      omega
    have hgm : Nat.gcd b m ≤ m := Nat.gcd_le_right b hp
    have hg1 : 1 ≤ Nat.gcd b m := Nat.gcd_pos_of_pos_right b hp
    refine ⟨_, rfl, _, 1, rfl, rfl, _, rfl, ?_⟩
    by_cases hc : (1 : Int) < ((Nat.gcd b m : Nat) : Int)
    · rw [decide_eq_true hc]
      refine iteT ⟨fun σ' H2 => H2 = H' ∧ ∃ p r k : Nat, p < m ∧ σ' = [some (.int b), some (.int n), some (.int p), some (.int (Nat.gcd b p : Nat))] ∧ 1 ≤ p ∧ n = p * r ∧ r ∣ b ^ k, ?_, ?_⟩
      · rintro σ' H2 ⟨rfl, p, r, k, h1, h2, h3, h4, h5⟩
        exact ⟨p, h1, rfl, p, r, k, rfl, h2, h3, h4, h5⟩
      · refine ⟨_, rfl, _, rfl, m, Nat.gcd b m, rfl, rfl, ⟨by omega, by omega⟩, ?_⟩
        dsimp only
        rw [← Int.natCast_ediv]
        refine ⟨_, rfl, _, rfl, b, ((m / Nat.gcd b m : Nat) : Int), rfl, ?_⟩
        obtain ⟨c, hc'⟩ := Nat.gcd_dvd_right b m
        have hq : m / Nat.gcd b m = c := by
          rw [Nat.div_eq_iff_eq_mul_right hg1 (Nat.gcd_dvd_right b m)]
          exact hc'
        have hc1 : 1 ≤ c := by
          rcases Nat.eq_zero_or_pos c with z | z
          · rw [z] at hc'
            omega
          · exact z
        have hcl : c < m := by
          have hg2 : 2 ≤ Nat.gcd b m := by omega
          have : 2 * c ≤ Nat.gcd b m * c := Nat.mul_le_mul_right c hg2
          omega
        refine ⟨rfl, c, Nat.gcd b m * r, k + 1, hcl, ?_, hc1, ?_, ?_⟩
        · rw [hq]
          rfl
        · rw [hn]
          conv => lhs; rw [hc']
          rw [Nat.mul_comm (Nat.gcd b m) c, Nat.mul_assoc]
        · rw [Nat.pow_succ, Nat.mul_comm (b ^ k) b]
          exact Nat.mul_dvd_mul (Nat.gcd_dvd_left b m) hr'
    · rw [decide_eq_false hc]
      refine iteF ⟨_, rfl, ?_⟩
      exact q m ⟨by omega, r, k, hn, hr'⟩
theorem ok_period (T : Txt K mg) : FnOk P w K mg base CX0 5 T.d_period.f T.d_period.fd ["base", "denominator"] sp_period := by
  refine T.d_period.F.ok sc_period (fun vs H Q E h => ?_) (fun cdv A outer s H vs Q E hr h => ?_)
  · obtain ⟨b, n, rfl, _⟩ := h; rfl
  · have hu := hu_of hr
    refine ⟨_, (pss_cons (ps_set (i := 2) sc_period.nd rfl (by first | exact .inl rfl | exact .inr rfl) (pe_call (ok_pure_part T) (hr.mono (by decide)) (by rfl) T.d_pure_part.m T.d_pure_part.F.kp T.d_pure_part.b .nil pass0 (pa_cons (pv 0) (pa_cons (pv 1) pa_nil))))
      (pss_cons (ps_set (i := 3) sc_period.nd rfl (by first | exact .inl rfl | exact .inr rfl) (pe_op op_mod pe_int (pv 2)))
      (pss_cons (ps_set (i := 4) sc_period.nd rfl (by first | exact .inl rfl | exact .inr rfl) (pe_op op_mod (pv 0) (pv 2)))
      (pss_cons (ps_set (i := 5) sc_period.nd rfl (by first | exact .inl rfl | exact .inr rfl) pe_int)
      (pss_cons (ps_while PassesOwn.never (pt_cmpR op_ne (pv 4) (pv 3) (nomark _)) (pss_cons (ps_set (i := 4) sc_period.nd rfl (by first | exact .inl rfl | exact .inr rfl) (pe_op op_mod (pe_op op_mul (pv 4) (pv 0)) (pv 2)))
      (pss_one (ps_aug (i := 5) sc_period.nd rfl (by first | exact .inl rfl | exact .inr rfl) pe_int ip_add))))
      (pss_one (ps_ret (pv 5)))))))), ?_⟩
    obtain ⟨b, n, rfl, hbn, q⟩ := h
    have hbn' := id hbn
    obtain ⟨hb1, hb2, hn1, hn2⟩ := hbn
    refine ⟨_, rfl, _, rfl, b, n, rfl, hbn', fun p hp => ?_⟩
    obtain ⟨g0, r0, k0, e0, d0⟩ := id hp
    have hp1 : 1 ≤ p := by
      rcases Nat.eq_zero_or_pos p with z | z
      · rw [z] at e0
        omega
      · exact z
    have hpn : p ≤ 5000 := by
      have : p ∣ n := ⟨r0, e0⟩
      have := Nat.le_of_dvd hn1 this
      omega
    obtain ⟨d, hdp, hd⟩ := per_exists hp1 g0
    refine ⟨_, rfl, 1, p, rfl, rfl, (show (0 : Int) < (p : Int) by omega), ?_⟩
    refine ⟨_, rfl, _, rfl, b, p, rfl, rfl, (show (0 : Int) < (p : Int) by omega), ?_⟩
    have e1 : (1 : Int) % (p : Int) = ((1 % p : Nat) : Int) := by rw [Int.natCast_emod]; rfl
    have e2 : (b : Int) % (p : Int) = ((b ^ 1 % p : Nat) : Int) := by rw [Int.natCast_emod, Nat.pow_one]
    refine ⟨fun m σ H' => H' = H ∧ ∃ k : Nat, m = d - k ∧ σ = [some (.int b), some (.int n), some (.int p), some (.int (1 % p : Nat)), some (.int (b ^ k % p : Nat)), some (.int k)] ∧ 1 ≤ k ∧ k ≤ d, ⟨d - 1, rfl, 1, rfl, ?_, Nat.le_refl _, hd.1⟩, ?_⟩
    · rw [← e1, ← e2]
      rfl
    rintro m σ H' ⟨rfl, k, rfl, rfl, hk1, hk2⟩
    refine ⟨_, rfl, _, rfl, rfl, _, rfl, ?_⟩
    by_cases hc : b ^ k % p = 1 % p
    · have hkd : k = d := by
        apply Nat.le_antisymm hk2
        apply Nat.le_of_not_lt
        intro l
        exact hd.2.2 k hk1 l hc
      rw [decide_eq_true (show V.int ((b ^ k % p : Nat) : Int) = V.int ((1 % p : Nat) : Int) by rw [hc])]
      refine iteF ⟨_, rfl, ?_⟩
      rw [hkd]
      exact q p d hp hd
    · rw [decide_eq_false (show ¬ V.int ((b ^ k % p : Nat) : Int) = V.int ((1 % p : Nat) : Int) from fun z => hc (by have := V.int.inj z; omega))]
      have hkd : k < d := by
        rcases Nat.lt_or_eq_of_le hk2 with l | l
        · exact l
        · subst l
          exact absurd hd.2.1 hc
      refine iteT ⟨fun σ' H2 => H2 = H' ∧ σ' = [some (.int b), some (.int n), some (.int p), some (.int (1 % p : Nat)), some (.int (b ^ (k + 1) % p : Nat)), some (.int (k + 1 : Nat))], ?_, ?_⟩
      · rintro σ' H2 ⟨rfl, rfl⟩
        exact ⟨d - (k + 1), by omega, rfl, k + 1, rfl, rfl, by omega, hkd⟩
      · have hlt : b ^ k % p < p := Nat.mod_lt _ hp1
        refine ⟨_, rfl, _, rfl, _, b, rfl, rfl, .inl ⟨by omega, by omega⟩, _, rfl, _, p, rfl, rfl, (show (0 : Int) < (p : Int) by omega), ?_⟩
        dsimp only
        rw [icm, pow_mod_step]
        exact ⟨_, rfl, _, _, rfl, rfl, rfl, rfl⟩

/-- the digits of a division that has come to x: so many of them -/
def dgs (b n x c : Nat) : List V := (List.range c).map fun i => V.int ((rem b n x i * b / n : Nat) : Int)
def sp_divided : Sp := fun vs H Q _ => ∃ b x n c : Nat, vs = [.int b, .int x, .int n, .int c] ∧ (BN b n ∧ x < n ∧ c ≤ 10000) ∧ ∀ t H', Gr [] H H' → H' t = some (.tup (dgs b n x c)) → Q (.ref t) H'

def dgf (b n x lo c : Nat) : List V := (List.range c).map fun i => V.int ((rem b n x (lo + i) * b / n : Nat) : Int)
structure Exp (H : Hp) (r : Addr) (b x n h L : Nat) : Prop where
  at_ : ∃ a c, H r = some (.tup [.ref a, .ref c]) ∧ H a = some (.tup (dgf b n x 0 h)) ∧ H c = some (.tup (dgf b n x h L))
def sp_expansion : Sp := fun vs H Q _ => ∃ (b x n : Nat) (a : Addr), vs = [.int b, .ref a] ∧ H a = some (.tup [.int x, .int n]) ∧ (BN b n ∧ x < n ∧ Nat.gcd x n = 1) ∧
  ∀ p q h L t H', IsPure b n p → n = p * q → IsHead b q h → IsPer b p L → Gr [] H H' → Exp H' t b x n h L → Q (.ref t) H'

/-! the state of the draws of the second half -/
def mkv (c : Addr) (l sd s : Int) : List (Key × V) := [(Sum.inr "left", .int l), (Sum.inr "seed", .int sd), (Sum.inr "cells", .ref c), (Sum.inr "spot", .int s)]
theorem k_ld : ¬ (("left" : Str) = "seed") := by decide +kernel
theorem k_dl : ¬ (("seed" : Str) = "left") := by decide +kernel
theorem k_lc : ¬ (("left" : Str) = "cells") := by decide +kernel
theorem k_cl : ¬ (("cells" : Str) = "left") := by decide +kernel
theorem k_ls : ¬ (("left" : Str) = "spot") := by decide +kernel
theorem k_sl : ¬ (("spot" : Str) = "left") := by decide +kernel
theorem k_dc : ¬ (("seed" : Str) = "cells") := by decide +kernel
theorem k_cd : ¬ (("cells" : Str) = "seed") := by decide +kernel
theorem k_ds : ¬ (("seed" : Str) = "spot") := by decide +kernel
theorem k_sd : ¬ (("spot" : Str) = "seed") := by decide +kernel
theorem k_cs : ¬ (("cells" : Str) = "spot") := by decide +kernel
theorem k_sc : ¬ (("spot" : Str) = "cells") := by decide +kernel
theorem mv_l (c : Addr) (l sd s : Int) : valV (mkv c l sd s) (Sum.inr "left" : Key) = some (.int l) := by
  unfold mkv
  rw [valV_pos rfl]
theorem mv_d (c : Addr) (l sd s : Int) : valV (mkv c l sd s) (Sum.inr "seed" : Key) = some (.int sd) := by
  unfold mkv
  rw [valV_neg (by intro z; exact k_ld (Sum.inr.inj z)), valV_pos rfl]
theorem mv_c (c : Addr) (l sd s : Int) : valV (mkv c l sd s) (Sum.inr "cells" : Key) = some (.ref c) := by
  unfold mkv
  rw [valV_neg (by intro z; exact k_lc (Sum.inr.inj z)), valV_neg (by intro z; exact k_dc (Sum.inr.inj z)), valV_pos rfl]
theorem mv_s (c : Addr) (l sd s : Int) : valV (mkv c l sd s) (Sum.inr "spot" : Key) = some (.int s) := by
  unfold mkv
  rw [valV_neg (by intro z; exact k_ls (Sum.inr.inj z)), valV_neg (by intro z; exact k_ds (Sum.inr.inj z)), valV_neg (by intro z; exact k_cs (Sum.inr.inj z)), valV_pos rfl]
theorem mp_l (c : Addr) (l sd s l' : Int) : putK (mkv c l sd s) (Sum.inr "left" : Key) (.int l') = mkv c l' sd s := by
  unfold mkv putK
  simp [k_dl, k_cl, k_sl]
theorem mp_s (c : Addr) (l sd s s' : Int) : putK (mkv c l sd s) (Sum.inr "spot" : Key) (.int s') = mkv c l sd s' := by
  unfold mkv putK
  simp [k_ls, k_ds, k_cs, putK]
theorem mm (c : Addr) (l sd s : Int) : mergeK [] (mkv c l sd s) = mkv c l sd s := by
  unfold mkv mergeK putK
  simp [k_ld, k_lc, k_ls, k_dc, k_ds, k_cs, mergeK, putK]
theorem dg_c {H : Hp} {d c : Addr} {l sd s : Int} (h : H d = some (.dK (mkv c l sd s))) : DGet H d (.str "cells") (some (.ref c)) := by
  rw [← mv_c c l sd s]
  exact DGet.k (k := Sum.inr "cells") h
theorem dg_l {H : Hp} {d c : Addr} {l sd s : Int} (h : H d = some (.dK (mkv c l sd s))) : DGet H d (.str "left") (some (.int l)) := by
  rw [← mv_l c l sd s]
  exact DGet.k (k := Sum.inr "left") h
theorem dg_d {H : Hp} {d c : Addr} {l sd s : Int} (h : H d = some (.dK (mkv c l sd s))) : DGet H d (.str "seed") (some (.int sd)) := by
  rw [← mv_d c l sd s]
  exact DGet.k (k := Sum.inr "seed") h
theorem dg_s {H : Hp} {d c : Addr} {l sd s : Int} (h : H d = some (.dK (mkv c l sd s))) : DGet H d (.str "spot") (some (.int s)) := by
  rw [← mv_s c l sd s]
  exact DGet.k (k := Sum.inr "spot") h
theorem dp_l {H : Hp} {d c : Addr} {l sd s l' : Int} (h : H d = some (.dK (mkv c l sd s))) : DPut H d (.str "left") (.int l') (upd H d (.dK (mkv c l' sd s))) := by
  rw [← mp_l c l sd s l']
  exact DPut.k (k := Sum.inr "left") h (by show 4 < sizeLine; decide)
theorem dp_s {H : Hp} {d c : Addr} {l sd s s' : Int} (h : H d = some (.dK (mkv c l sd s))) : DPut H d (.str "spot") (.int s') (upd H d (.dK (mkv c l sd s'))) := by
  rw [← mp_s c l sd s s']
  exact DPut.k (k := Sum.inr "spot") h (by show 4 < sizeLine; decide)
def MOk (H : Hp) (d : Addr) (n : Nat) : Prop := ∃ (c : Addr) (xs : List Int) (l sd s : Int), H d = some (.dK (mkv c l sd s)) ∧ H c = some (.lst (xs.map V.int)) ∧ xs ≠ [] ∧ (0 ≤ sd ∧ sd < 2147483647) ∧ 0 ≤ s ∧ s ≤ (n : Int)
theorem MOk.gr {H H' : Hp} {d : Addr} {n : Nat} (h : MOk H d n) (g : Gr [] H H') : MOk H' d n := by
  obtain ⟨c, xs, l, sd, s, h1, h2, h3⟩ := h
  exact ⟨c, xs, l, sd, s, g d _ (by simp) h1, g c _ (by simp) h2, h3⟩
theorem MOk.mono {H : Hp} {d : Addr} {n n' : Nat} (h : MOk H d n) (g : n ≤ n') : MOk H d n' := by
  obtain ⟨c, xs, l, sd, s, h1, h2, h3, h4, h5, h6⟩ := h
  exact ⟨c, xs, l, sd, s, h1, h2, h3, h4, h5, by omega⟩
theorem MOk.ne {H : Hp} {d a : Addr} {n : Nat} {o : HO} (h : MOk H d n) (e : H a = some o) (k : ∀ kvs, o ≠ .dK kvs) : a ∉ [d] := by
  obtain ⟨c, xs, l, sd, s, h1, _⟩ := h
  intro z
  rw [List.mem_singleton] at z
  subst z
  rw [h1] at e
  exact k _ (Option.some.inj e).symm
theorem MOk.lst {H H' : Hp} {d a : Addr} {n : Nat} {xs : List V} (h : MOk H d n) (g : Gr [d] H H') (e : H a = some (.lst xs)) : H' a = some (.lst xs) := g a _ (h.ne e (fun _ z => by cases z)) e
theorem MOk.tup {H H' : Hp} {d a : Addr} {n : Nat} {xs : List V} (h : MOk H d n) (g : Gr [d] H H') (e : H a = some (.tup xs)) : H' a = some (.tup xs) := g a _ (h.ne e (fun _ z => by cases z)) e
def Lim (n : Nat) : Prop := (n : Int).natAbs.log2 < 9000
set_option exponentiation.threshold 10000 in
theorem lim_le {n : Nat} (h : n ≤ 1000000000) : Lim n := by
  unfold Lim
  rw [Int.natAbs_natCast]
  exact PySem.Flt.log2_lt_of (by decide) (Nat.lt_of_le_of_lt h (Nat.lt_of_lt_of_le (show (1000000000 : Nat) < 2 ^ 30 by decide) (Nat.pow_le_pow_right (by decide) (by decide))))
def sp_law_draw : Sp := fun vs H Q _ => ∃ (d : Addr) (lim n : Nat), vs = [.ref d, .int lim] ∧ MOk H d n ∧ (1 ≤ lim ∧ Lim lim ∧ n ≤ 1000000000) ∧
  ∀ (r : Nat) H', r < lim → Gr [d] H H' → MOk H' d (n + 1) → Q (.int r) H'
theorem imod_nat (x : Int) (lim : Nat) (h : 1 ≤ lim) : ∃ r : Nat, x % (lim : Int) = (r : Int) ∧ r < lim := by
  have h1 := Int.emod_nonneg x (show (lim : Int) ≠ 0 by omega)
  have h2 := Int.emod_lt_of_pos x (show (0 : Int) < (lim : Int) by omega)
  exact ⟨(x % (lim : Int)).toNat, by omega, by omega⟩
theorem sqBound {z : Int} (h0 : 0 ≤ z) (h1 : z ≤ 1000000000) : -(2 ^ 64) < 40503 * z ∧ 40503 * z < 2 ^ 64 := by omega
theorem ok_law_draw (T : Txt K mg) : FnOk P w K mg base CX0 1 T.d_law_draw.f T.d_law_draw.fd ["m", "limit"] sp_law_draw := by
  refine T.d_law_draw.F.ok sc_law_draw (fun vs H Q E h => ?_) (fun cdv A outer s H vs Q E hr h => ?_)
  · obtain ⟨d, lim, n, rfl, _⟩ := h; rfl
  · have hu := hu_of hr
    refine ⟨_, (pss_cons (ps_if (pt_cmpR op_gt (pe_dget hu (pv 0) pe_str (fun _ _ => rfl)) pe_int (nomark _)) (pss_cons (ps_set (i := 2) sc_law_draw.nd rfl (by first | exact .inl rfl | exact .inr rfl) (pe_op op_mod (pe_callTy call_int1 (by rfl) T.b_int (by decide +kernel) (pa_cons (pe_dget hu (pv 0) pe_str (fun _ _ => rfl)) pa_nil)) (pv 1)))
      (pss_cons (ps_dput hu (pv 0) pe_str (pe_op op_fdivW (pe_dget hu (pv 0) pe_str (fun _ _ => rfl)) (pv 1)) rfl)
      (pss_one (ps_ret (pv 2))))) pss_nil)
      (pss_cons (ps_set (i := 3) sc_law_draw.nd rfl (by first | exact .inl rfl | exact .inr rfl) (pe_dget hu (pv 0) pe_str (fun _ _ => rfl)))
      (pss_cons (ps_dput hu (pv 0) pe_str (pe_op op_add (pv 3) pe_int) rfl)
      (pss_cons (ps_par (i := 4) (j := 5) (by rfl) sc_law_draw.nd rfl rfl (by decide) rfl rfl (pa_cons (pe_dget hu (pv 0) pe_str (fun _ _ => rfl)) (pa_cons (pe_op op_add (pe_dget hu (pv 0) pe_str (fun _ _ => rfl)) (pe_op op_mul (pe_op op_mul pe_int (pv 3)) (pv 3))) pa_nil)) (by rfl))
      (pss_cons (ps_set (i := 6) sc_law_draw.nd rfl (by first | exact .inl rfl | exact .inr rfl) (pe_ix (r := rIxL K) ix_list (pv 4) (pe_op op_mod (pe_callTy call_int1 (by rfl) T.b_int (by decide +kernel) (pa_cons (pv 3) pa_nil)) (pe_callB (r := rLn K) call_ln (by rfl) T.b_len PySem.boot_len (pa_cons (pv 4) pa_nil))) (fun _ _ => rfl)))
      (pss_cons (ps_set (i := 7) sc_law_draw.nd rfl (by first | exact .inl rfl | exact .inr rfl) (pe_op op_mod (pe_callTy call_int1 (by rfl) T.b_int (by decide +kernel) (pa_cons (pe_op op_add (pe_op op_mul (pv 6) (pe_op op_add (pe_op op_mul pe_int (pv 3)) pe_int)) (pv 5)) pa_nil)) pe_int))
      (pss_cons (ps_set (i := 7) sc_law_draw.nd rfl (by first | exact .inl rfl | exact .inr rfl) (pe_op op_mod (pe_callTy call_int1 (by rfl) T.b_int (by decide +kernel) (pa_cons (pe_op op_add (pe_op op_add (pe_op op_mul (pv 7) (pv 7)) (pe_op op_mul pe_int (pv 3))) (pe_dget hu (pv 0) pe_str (fun _ _ => rfl))) pa_nil)) pe_int))
      (pss_one (ps_ret (pe_op op_mod (pe_op op_fdiv (pe_op op_mod (pe_callTy call_int1 (by rfl) T.b_int (by decide +kernel) (pa_cons (pe_op op_add (pe_op op_mul (pv 7) pe_int) (pv 3)) pa_nil)) pe_int) pe_int) (pv 1))))))))))), ?_⟩
    obtain ⟨d, lim, n, rfl, ⟨c, xs, l, sd, z, hd, hc, hx, ⟨hs0, hs1⟩, hz0, hzn⟩, ⟨h1, h2, h3⟩, q⟩ := h
    have hdc : d ≠ c := ne_of hd hc (by intro q; cases q)
    refine ⟨_, rfl, d, _, rfl, dg_l hd, l, 0, rfl, rfl, _, rfl, ?_⟩
    have hl0 : (0 : Int) < (lim : Int) := by omega
    by_cases hl : (0 : Int) < l
    · rw [decide_eq_true hl]
      refine iteT ⟨_, rfl, d, _, rfl, dg_l hd, .inl ⟨l, rfl, _, rfl, l, lim, rfl, rfl, hl0, ?_⟩⟩
      obtain ⟨r, er, hr1⟩ := imod_nat l lim h1
      dsimp only
      rw [er]
      refine ⟨_, rfl, d, _, rfl, dg_l hd, _, rfl, l, lim, rfl, rfl, ⟨hl0, h2⟩, _, rfl, d, _, rfl, dp_l hd, _, rfl, ?_⟩
      refine q r _ hr1 (Gr.wr (by simp)) ⟨c, xs, l / lim, sd, z, upd_same, ?_, hx, ⟨hs0, hs1⟩, hz0, by omega⟩
      rw [upd_ne hdc.symm]
      exact hc
    · rw [decide_eq_false hl]
      refine iteF ?_
      refine ⟨_, rfl, d, _, rfl, dg_s hd, ?_⟩
      refine ⟨_, rfl, _, _, rfl, rfl, _, rfl, d, _, rfl, dp_s hd, ?_⟩
      have hd' : (upd H d (.dK (mkv c l sd (z + 1)))) d = some (.dK (mkv c l sd (z + 1))) := upd_same
      have hc' : (upd H d (.dK (mkv c l sd (z + 1)))) c = some (.lst (xs.map V.int)) := by
        rw [upd_ne hdc.symm]
        exact hc
      have hxl : 1 ≤ xs.length := by
        cases xs with
        | nil => exact absurd rfl hx
        | cons x r => simp
      refine ⟨_, rfl, d, _, rfl, dg_c hd', _, rfl, d, _, rfl, dg_d hd', _, rfl, _, _, rfl, rfl, .inl ⟨by decide, by decide⟩, _, rfl, _, _, rfl, rfl, .inr ⟨by omega, by omega⟩, _, _, rfl, rfl, _, _, rfl, ?_⟩
      have hxi : ∃ i : Int, i = z := ⟨z, rfl⟩
      refine ⟨_, rfl, _, rfl, .inl ⟨z, rfl, _, rfl, c, _, rfl, .inl (sq_lst hc'), _, _, rfl, rfl, ?_, ?_⟩⟩
      · rw [List.length_map]
        omega
      rw [List.length_map]
      obtain ⟨j, ej, hj⟩ := imod_nat z xs.length hxl
      dsimp only
      refine ⟨c, _, _, .int xs[j], rfl, rfl, sq_lst hc', ?_, ?_⟩
      · rw [ej]
        refine atI_nat ?_
        rw [List.getElem?_map, List.getElem?_eq_getElem hj]
        rfl
      refine ⟨_, rfl, _, rfl, _, _, rfl, rfl, .inl ⟨by decide, by decide⟩, _, _, rfl, rfl, _, _, rfl, rfl, .inr ⟨by omega, by omega⟩, _, rfl, _, _, rfl, rfl, .inl ⟨_, rfl, _, _, rfl, rfl, (by show (0 : Int) < 2147483647; decide), ?_⟩⟩
      obtain ⟨u, eu, hu1⟩ := imod_nat (xs[j] * (2 * z + 3) + (sd + 40503 * z * z)) 2147483647 (by decide)
      have eu' : (xs[j] * (2 * z + 3) + (sd + 40503 * z * z)) % 2147483647 = (u : Int) := eu
      dsimp only
      rw [eu']
      refine ⟨_, rfl, _, rfl, _, _, rfl, rfl, .inl ⟨by omega, by omega⟩, _, rfl, _, _, rfl, rfl, .inl ⟨by decide, by decide⟩, _, _, rfl, rfl, _, rfl, d, _, rfl, dg_d hd', _, _, rfl, rfl, .inl ⟨_, rfl, _, _, rfl, rfl, (by show (0 : Int) < 2147483629; decide), ?_⟩⟩
      refine ⟨_, rfl, _, _, rfl, rfl, .inr ⟨by decide, by decide⟩, _, rfl, _, _, rfl, rfl, .inl ⟨_, rfl, _, _, rfl, rfl, (by show (0 : Int) < 2147483647; decide), _, _, rfl, rfl, ⟨by decide, by decide⟩, _, rfl, _, _, rfl, rfl, hl0, ?_⟩⟩
      dsimp only
      obtain ⟨r, er, hr1⟩ := imod_nat _ lim h1
      rw [er]
      exact q r _ hr1 (Gr.wr (by simp)) ⟨c, xs, l, sd, z + 1, hd', hc', hx, ⟨hs0, hs1⟩, by omega, by omega⟩

def sp_law_of (K : PySem.W.Frag) : Sp := fun vs H Q _ => ∃ (d a : Addr) (n : Nat) (xs : List V), vs = [.ref d, .ref a] ∧ MOk H d n ∧ H a = some (.lst xs) ∧ (xs ≠ [] ∧ xs.length ≤ 100000 ∧ n ≤ 1000000000) ∧
  ∀ v H', v ∈ xs → Gr [d] H H' → MOk H' d (n + 1) → Q v H'

def sp_law_divisor : Sp := fun vs H Q _ => ∃ a c : Nat, vs = [.int a, .int c] ∧ Q (.int (Nat.gcd a c : Nat)) H
theorem ok_law_divisor (T : Txt K mg) : FnOk P w K mg base CX0 1 T.d_law_divisor.f T.d_law_divisor.fd ["one", "two"] sp_law_divisor := by
  refine T.d_law_divisor.F.ok sc_law_divisor (fun vs H Q E h => ?_) (fun cdv A outer s H vs Q E hr h => ?_)
  · obtain ⟨a, c, rfl, _⟩ := h; rfl
  · have hu := hu_of hr
    refine ⟨_, (pss_cons (ps_while PassesOwn.never (pt_cmpR op_ne (pv 1) pe_int (nomark _)) (pss_one (ps_par (i := 0) (j := 1) (by rfl) sc_law_divisor.nd rfl rfl (by decide) rfl rfl (pa_cons (pv 1) (pa_cons (pe_op op_mod (pe_callTy call_int1 (by rfl) T.b_int (by decide +kernel) (pa_cons (pv 0) pa_nil)) (pe_callTy call_int1 (by rfl) T.b_int (by decide +kernel) (pa_cons (pv 1) pa_nil))) pa_nil)) (by rfl))))
      (pss_one (ps_ret (pv 0)))), ?_⟩
    obtain ⟨a, c, rfl, q⟩ := h
    refine ⟨fun m σ H' => H' = H ∧ ∃ u : Nat, σ = [some (.int u), some (.int m)] ∧ Nat.gcd u m = Nat.gcd a c, ⟨c, rfl, a, rfl, rfl⟩, ?_⟩
    rintro m σ H' ⟨rfl, u, rfl, e⟩
    refine ⟨_, rfl, rfl, _, rfl, ?_⟩
    by_cases hc : m = 0
    · refine iteFb (by rw [hc]; rfl) ⟨_, rfl, ?_⟩
      subst hc
      rw [← e, Nat.gcd_zero_right] at q
      exact q
    · refine iteTb (by rw [Bool.not_eq_true']; exact decide_eq_false fun z => hc (by have := V.int.inj z; omega)) ⟨fun σ' H2 => H2 = H' ∧ σ' = [some (.int m), some (.int (u % m : Nat))], ?_, ?_⟩
      · rintro σ' H2 ⟨rfl, rfl⟩
        refine ⟨u % m, Nat.mod_lt _ (by omega), rfl, m, rfl, ?_⟩
        rw [← e, Nat.gcd_comm m, ← Nat.gcd_rec, Nat.gcd_comm]
      · refine ⟨_, rfl, _, rfl, .inl ⟨_, rfl, _, rfl, .inl ⟨_, rfl, _, _, rfl, rfl, (show (0 : Int) < (m : Int) by omega), ?_⟩⟩⟩
        exact ⟨_, _, rfl, rfl, by dsimp only; rw [← Int.natCast_emod]; rfl⟩

theorem rl_succ (b n x i : Nat) : rl b n x (i + 1) = rl b n x i ++ [rem b n x i] := by
  unfold rl
  rw [List.range_succ, List.map_append]
  rfl
theorem rl_get {b n x i L : Nat} (h : i < L) : (vn (rl b n x L))[i]? = some (.int (rem b n x i : Nat)) := by
  unfold vn rl
  rw [List.map_map, List.getElem?_map, List.getElem?_range h]
  rfl
theorem flat_vn : ∀ xs : List Nat, (vn xs).all flatV = true
  | [] => rfl
  | x :: r => by
    show (true && (vn r).all flatV) = true
    rw [flat_vn r]
    rfl
def sp_law_powers (K : PySem.W.Frag) : Sp := fun vs H Q _ => ∃ (b n : Nat), vs = [.int b, .int n] ∧ (b ≤ 5000 ∧ 1 ≤ n ∧ n ≤ 5000) ∧
  ∀ (t l : Addr) H' (p q h L : Nat), Par b n p q h L → Gr [] H H' → H' t = some (.tup [.ref l, .int (h : Nat)]) → H' l = some (.lst (vn (rl b n 1 (h + L)))) → Q (.ref t) H'
theorem ok_law_powers (T : Txt K mg) : FnOk P w K mg base CX0 1 T.d_law_powers.f T.d_law_powers.fd ["b", "n"] (sp_law_powers K) := by
  refine T.d_law_powers.F.ok sc_law_powers (fun vs H Q E h => ?_) (fun cdv A outer s H vs Q E hr h => ?_)
  · obtain ⟨b, n, rfl, _⟩ := h; rfl
  · have hu := hu_of hr
    refine ⟨_, (pss_cons (ps_par (i := 2) (j := 3) (by rfl) sc_law_powers.nd rfl rfl (by decide) rfl rfl (pa_cons (pe_lst pa_nil) (pa_cons (pe_op op_mod pe_int (pv 1)) pa_nil)) (by rfl))
      (pss_cons (ps_while PassesOwn.never (pt_cmpR (r := rIn K true) op_notIn_seq (pv 3) (pv 2) rfl) (pss_cons (ps_expr (pe_bm PySem.F.plainAttrs_list PySem.F.slot_list_append PySem.F.type_list_append mt_append (pv 2) (pa_cons (pv 3) pa_nil)))
      (pss_one (ps_set (i := 3) sc_law_powers.nd rfl (by first | exact .inl rfl | exact .inr rfl) (pe_op op_mod (pe_callTy call_int1 (by rfl) T.b_int (by decide +kernel) (pa_cons (pe_op op_mul (pv 3) (pv 0)) pa_nil)) (pv 1))))))
      (pss_one (ps_ret (pe_tup (pa_cons (pv 2) (pa_cons (pe_bm (r := rIndex K) PySem.F.plainAttrs_list PySem.F.slot_list_index PySem.F.type_list_index mt_index (pv 2) (pa_cons (pv 3) pa_nil)) pa_nil))))))), ?_⟩
    obtain ⟨b, n, rfl, ⟨hb, hn1, hn⟩, q⟩ := h
    have g1 : Nat.gcd 1 n = 1 := Nat.gcd_one_left n
    refine ⟨Nat.zero_le _, fun l nl => ?_⟩
    refine ⟨_, rfl, _, n, rfl, rfl, (show (0 : Int) < (n : Int) by omega), ?_⟩
    refine ⟨_, _, rfl, ?_⟩
    have e0 : (1 : Int) % (n : Int) = ((rem b n 1 0 : Nat) : Int) := by
      unfold rem
      rw [Nat.pow_zero, Nat.mul_one]
      exact (Int.natCast_emod 1 n).symm
    dsimp only
    rw [e0]
    have nlH := nl
    refine ⟨fun m σ H' => ∃ i : Nat, m = n - i ∧ i ≤ n ∧ Gr [] H H' ∧ H' l = some (.lst (vn (rl b n 1 i))) ∧ σ = [some (.int b), some (.int n), some (.ref l), some (.int (rem b n 1 i : Nat))] ∧ (∀ u v, u < v → v < i → rem b n 1 u ≠ rem b n 1 v),
      ⟨n, 0, rfl, Nat.zero_le _, Gr.new nl, upd_same, rfl, fun u v _ z => absurd z (Nat.not_lt_zero _)⟩, ?_⟩
    rintro m σ H' ⟨i, rfl, hi, G, hL, rfl, hd⟩
    refine ⟨_, rfl, _, rfl, l, _, rfl, .inl (sq_lst hL), rfl, flat_vn _, _, rfl, ?_⟩
    by_cases hc : ∃ j, j < i ∧ rem b n 1 j = rem b n 1 i
    · obtain ⟨j, hj, ej⟩ := hc
      refine iteFb (by show (!inV (V.int ((rem b n 1 i : Nat) : Int)) (vn (rl b n 1 i))) = false; rw [inV_ni, decide_eq_true (mem_rl.mpr ⟨j, hj, ej⟩)]; rfl) ?_
      obtain ⟨p, q0, h, L, P⟩ := par_exists (b := b) hn1
      obtain ⟨ei, eh⟩ := ring_end P hn1 g1 hd hj ej
      refine ⟨_, rfl, _, rfl, .inl ⟨rfl, _, sq_lst hL⟩, _, rfl, l, _, _, j, .int (rem b n 1 j : Nat), rfl, rfl, sq_lst hL, rfl, flat_vn _, rl_get hj, ?_, ?_, by show 2 ≤ sizeLine; decide, fun t nt => ?_⟩
      · show (((rem b n 1 j : Nat) : Int) == ((rem b n 1 i : Nat) : Int)) = true
        rw [ej, beq_self_eq_true]
      · intro u z' hu hz
        rw [rl_get (by omega)] at hz
        cases hz
        show (((rem b n 1 u : Nat) : Int) == ((rem b n 1 i : Nat) : Int)) = false
        rw [beq_eq_false_iff_ne]
        intro z
        exact hd u j hu hj (by rw [ej]; omega)
      · refine q t l _ p q0 h L P (G.trans (Gr.new nt)) ?_ ?_
        · rw [upd_same, eh]
        · rw [upd_ne (ne_of_none hL nt), hL, ei]
    · have hno : ∀ j, j < i → rem b n 1 j ≠ rem b n 1 i := fun j hj ej => hc ⟨j, hj, ej⟩
      refine iteTb (by show (!inV (V.int ((rem b n 1 i : Nat) : Int)) (vn (rl b n 1 i))) = true; rw [inV_ni, decide_eq_false (fun z => by obtain ⟨j, hj, ej⟩ := mem_rl.mp z; exact hno j hj ej)]; rfl) ?_
      have hlt : rem b n 1 i < n := rem_lt hn1
      have hin : i + 1 ≤ n := by
        have := nodup_le n ((List.range (i + 1)).map fun u => rem b n 1 u) (by
          rw [List.nodup_iff_pairwise_ne, List.pairwise_map, List.pairwise_iff_getElem]
          intro u v hu hv huv
          rw [List.getElem_range, List.getElem_range]
          rw [List.length_range] at hv
          rcases Nat.lt_or_eq_of_le (show v ≤ i by omega) with z | z
          · exact hd u v huv z
          · rw [z]
            exact hno u (by omega)) (fun y hy => by
          obtain ⟨u, _, rfl⟩ := List.mem_map.mp hy
          exact rem_lt hn1)
        rw [List.length_map, List.length_range] at this
        exact this
      refine ⟨fun σ' H2 => Gr [] H H2 ∧ H2 l = some (.lst (vn (rl b n 1 (i + 1)))) ∧ σ' = [some (.int b), some (.int n), some (.ref l), some (.int (rem b n 1 (i + 1) : Nat))], ?_, ?_⟩
      · rintro σ' H2 ⟨G2, L2, rfl⟩
        refine ⟨n - (i + 1), by omega, i + 1, rfl, hin, G2, L2, rfl, fun u v huv hv => ?_⟩
        rcases Nat.lt_or_eq_of_le (show v ≤ i by omega) with z | z
        · exact hd u v huv z
        · rw [z]
          exact hno u (by omega)
      · have small : ∀ {k : Nat}, k ≤ 5000 → k < sizeLine := fun h => Nat.lt_of_lt_of_le (show _ < 6000 by omega) (by decide)
        refine ⟨_, rfl, .inl ⟨rfl, _, sq_lst hL⟩, _, rfl, l, _, _, rfl, rfl, hL, by rw [vn_len, rl_len]; exact small (by omega), ?_⟩
        rw [vn_snoc, ← rl_succ]
        refine ⟨_, rfl, _, rfl, _, b, rfl, rfl, .inl ⟨by omega, by omega⟩, .inl ⟨_, rfl, _, rfl, _, n, rfl, rfl, (show (0 : Int) < (n : Int) by omega), ?_⟩⟩
        dsimp only
        rw [icm, rem_succ]
        refine ⟨fun c o _ ec => ?_, upd_same, rfl⟩
        rw [upd_ne (ne_of_none ec nlH)]
        exact G c o (by simp) ec

def sp_law_period : Sp := fun vs H Q _ => ∃ (b n : Nat), vs = [.int b, .int n] ∧ (b ≤ 5000 ∧ 1 ≤ n ∧ n ≤ 5000) ∧
  ∀ (t : Addr) H' (p q h L : Nat), Par b n p q h L → Gr [] H H' → H' t = some (.tup [.int (L : Nat), .int (h : Nat)]) → Q (.ref t) H'
theorem ok_law_period (T : Txt K mg) : FnOk P w K mg base CX0 2 T.d_law_period.f T.d_law_period.fd ["b", "n"] sp_law_period := by
  refine T.d_law_period.F.ok sc_law_period (fun vs H Q E h => ?_) (fun cdv A outer s H vs Q E hr h => ?_)
  · obtain ⟨b, n, rfl, _⟩ := h; rfl
  · have hu := hu_of hr
    refine ⟨_, (pss_cons (ps_asg (pe_call (ok_law_powers T) (hr.mono (by decide)) (by rfl) T.d_law_powers.m T.d_law_powers.F.kp T.d_law_powers.b .nil pass0 (pa_cons (pv 0) (pa_cons (pv 1) pa_nil))) (pg_tup (by rfl) (pgs_cons (pg_name (i := 2) sc_law_period.nd rfl (by first | exact .inl rfl | exact .inr rfl)) (pgs_cons (pg_name (i := 3) sc_law_period.nd rfl (by first | exact .inl rfl | exact .inr rfl)) pgs_nil))))
      (pss_one (ps_ret (pe_tup (pa_cons (pe_op op_sub (pe_callB (r := rLn K) call_ln (by rfl) T.b_len PySem.boot_len (pa_cons (pv 2) pa_nil)) (pv 3)) (pa_cons (pv 3) pa_nil)))))), ?_⟩
    obtain ⟨b, n, rfl, hh, q⟩ := h
    refine ⟨_, rfl, _, rfl, b, n, rfl, hh, fun t l H1 p q0 h L P g1 ht hl => ?_⟩
    refine ⟨t, _, rfl, sq_tup ht, rfl, _, _, rfl, _, _, rfl, rfl, ?_⟩
    refine ⟨_, rfl, l, _, rfl, .inl (sq_lst hl), _, rfl, _, _, rfl, rfl, _, rfl, by show 2 ≤ sizeLine; decide, fun t2 n2 => ?_⟩
    refine q t2 _ p q0 h L P (g1.trans (Gr.new n2)) ?_
    rw [upd_same, vn_len, rl_len]
    dsimp only
    rw [show ((h + L : Nat) : Int) - (h : Int) = (L : Int) by omega]

def sp_law_units : Sp := fun vs H Q _ => ∃ (n : Nat), vs = [.int n] ∧ n ≤ 5000 ∧ ∀ (a : Addr) H', Gr [] H H' → H' a = some (.lst (vn (copL n))) → Q (.ref a) H'
theorem cop_step {n k : Nat} : ((List.range (k + 1)).filter fun x => decide (Nat.gcd x n = 1)) = ((List.range k).filter fun x => decide (Nat.gcd x n = 1)) ++ (if Nat.gcd k n = 1 then [k] else []) := by
  rw [List.range_succ, List.filter_append]
  by_cases h : Nat.gcd k n = 1
  · rw [if_pos h, List.filter_cons_of_pos (p := fun x => decide (Nat.gcd x n = 1)) (decide_eq_true h)]
    rfl
  · rw [if_neg h, List.filter_cons_of_neg (p := fun x => decide (Nat.gcd x n = 1)) (by rw [decide_eq_true_eq]; exact h)]
    rfl
theorem ok_law_units (T : Txt K mg) : FnOk P w K mg base CX0 2 T.d_law_units.f T.d_law_units.fd ["n"] sp_law_units := by
  refine T.d_law_units.F.ok sc_law_units (fun vs H Q E h => ?_) (fun cdv A outer s H vs Q E hr h => ?_)
  · obtain ⟨n, rfl, _⟩ := h; rfl
  · have hu := hu_of hr
    refine ⟨_, (pss_one (ps_ret (pe_lc (own := [("k", 1)]) (g := gName 1) (tt := _) rfl sc_law_units.nd (pi_range1 (by rfl) T.b_range (pa_cons (pv 0) pa_nil)) (blkOk_by (own := [("k", 1)]) (N := ["n", "k"]) (sc := defScope s_law_units) (by decide +kernel)) (fun _ _ _ _ _ => (pg_name (i := 1) sc_law_units.nd rfl (by first | exact .inl rfl | exact .inr rfl))) (fun _ _ _ _ _ => (pts_one (pt_cmpR op_eq (pe_call (ok_law_divisor T) (hr.mono (by decide)) (by rfl) T.d_law_divisor.m T.d_law_divisor.F.kp T.d_law_divisor.b .nil pass0 (pa_cons (pv 1) (pa_cons (pv 0) pa_nil))) pe_int (nomark _)))) (fun _ _ _ _ _ => (pv 1))))), ?_⟩
    obtain ⟨n, rfl, hn, q⟩ := h
    have small : ∀ {k : Nat}, k ≤ 5000 → k < sizeLine := fun h => Nat.lt_of_lt_of_le (show _ < 6000 by omega) (by decide)
    refine ⟨_, rfl, (n : Int), rfl, by omega, by omega, fun D nD => ?_⟩
    refine lc_range (lo := 0) (n := ((n : Int) - 0).toNat) (fun i H' => Gr [] H H' ∧ H' D = some (.lst (vn ((List.range i).filter fun x => decide (Nat.gcd x n = 1))))) ⟨Gr.new nD, upd_same⟩ ?_ ?_
    · rintro i H' hi ⟨G, hD⟩
      have ei : (0 : Int) + (i : Int) = ((i : Nat) : Int) := by omega
      have hin : i < n := by omega
      rw [ei]
      refine ⟨rfl, ?_⟩
      refine ⟨_, rfl, _, rfl, i, n, rfl, rfl, _, rfl, ?_⟩
      by_cases hg : Nat.gcd i n = 1
      · refine iteTb (by rw [hg]; rfl) ⟨_, rfl, _, hD, small (by rw [vn_len]; exact Nat.le_trans (List.length_filter_le _ _) (by rw [List.length_range]; omega)), fun c u _ e => ?_, ?_⟩
        · rw [upd_ne (ne_of_none e nD)]
          exact G c u (by simp) e
        · rw [upd_same, vn_snoc, cop_step, if_pos hg]
      · refine iteFb (decide_eq_false fun z => hg (by have := V.int.inj z; omega)) ⟨G, ?_⟩
        rw [hD, cop_step, if_neg hg, List.append_nil]
    rintro H' ⟨G, hD⟩
    exact q D H' G (by rw [hD, show ((n : Int) - 0).toNat = n by omega]; rfl)

def sp_law_begun (K : PySem.W.Frag) : Sp := fun vs H Q _ => ∃ (a : Addr) (ns : List Int) (k : Nat), vs = [.ref a, .int k] ∧ SqL K H a (ns.map V.int) ∧ ns.length ≤ 63 ∧ k ≤ 1000 ∧ ∀ d H', H d = none → Gr [] H H' → MOk H' d 0 → Q (.ref d) H'
theorem eqv_nil (ys : List Int) : PyData.eqv (.list (ys.map PyData.int)) (.list []) = ys.isEmpty := by
  cases ys with
  | nil => rfl
  | cons y r => rfl
theorem lay_ints : ∀ ys : List Int, PyData.canLayAll0 (ys.map PyData.int) = true ∧ PyData.depthAll (ys.map PyData.int) = 0
  | [] => ⟨rfl, rfl⟩
  | y :: r => by
    obtain ⟨h1, h2⟩ := lay_ints r
    refine ⟨?_, ?_⟩
    · show (true && PyData.canLayAll0 (r.map PyData.int)) = true
      rw [h1]
      rfl
    · show max 0 (PyData.depthAll (r.map PyData.int)) = 0
      rw [h2]
      rfl
theorem shaped_ints (ys : List Int) : SeqAt.shaped (.list (ys.map PyData.int)) = true := by
  obtain ⟨h1, h2⟩ := lay_ints ys
  exact Fits.shaped h1 (by show PyData.depthAll _ + 1 ≤ 64; rw [h2]; decide)
theorem get_ints {ns : List Int} {i : Nat} {x : V} (h : (ns.map V.int)[i]? = some x) : ∃ n, x = .int n ∧ ns[i]? = some n ∧ i < ns.length := by
  rw [List.getElem?_map] at h
  cases e : ns[i]? with
  | none =>
    rw [e] at h
    cases h
  | some n =>
    rw [e] at h
    exact ⟨n, (Option.some.inj h).symm, rfl, (List.getElem?_eq_some_iff.mp e).1⟩
theorem cut_ints (ns : List Int) (lo hi : Option Int) : ∃ ys : List Int, cutV (ns.map V.int) lo hi = ys.map V.int ∧ ys.length ≤ ns.length := by
  unfold cutV
  rw [← List.map_drop, ← List.map_take]
  exact ⟨_, rfl, by rw [List.length_take, List.length_drop]; omega⟩
theorem ok_law_begun (T : Txt K mg) : FnOk P w K mg base CX0 1 T.d_law_begun.f T.d_law_begun.fd ["script", "k"] (sp_law_begun K) := by
  refine T.d_law_begun.F.ok sc_law_begun (fun vs H Q E h => ?_) (fun cdv A outer s H vs Q E hr h => ?_)
  · obtain ⟨a, ns, k, rfl, _⟩ := h; rfl
  · have hu := hu_of hr
    refine ⟨_, (pss_cons (ps_set (i := 2) sc_law_begun.nd rfl (by first | exact .inl rfl | exact .inr rfl) (pe_op op_cat (pe_slice (r := rSlL K) sl_list (pv 0) (po_some (pv 1)) po_none) (pe_slice (r := rSlL K) sl_list (pv 0) po_none (po_some (pv 1)))))
      (pss_cons (ps_setLc (i := 3) (own := [("cell", 4)]) (g := gName 4) (tt := _) rfl sc_law_begun.nd rfl rfl (sw_true rfl rfl rfl (by decide +kernel)) (pi_list (pv 2)) (blkOk_by (own := [("cell", 4)]) (N := ["script", "k", "cells", "great", "cell", "seed"]) (sc := defScope s_law_begun) (by decide +kernel)) (fun _ _ _ _ _ => (pg_name (i := 4) sc_law_begun.nd rfl (by first | exact .inl rfl | exact .inr rfl))) (fun _ _ _ _ _ => (pts_one (pt_cmpR op_ge (pv 4) (pe_op op_pow pe_int pe_int) (nomark _)))) (fun _ _ _ _ _ => (pv 4)))
      (pss_cons (ps_set (i := 5) sc_law_begun.nd rfl (by first | exact .inl rfl | exact .inr rfl) (pe_op op_add pe_int (pv 1)))
      (pss_cons (ps_for PassesOwn.never rfl (pi_list (pv 2)) (pg_name (i := 4) sc_law_begun.nd rfl (by first | exact .inl rfl | exact .inr rfl)) (pss_one (ps_set (i := 5) sc_law_begun.nd rfl (by first | exact .inl rfl | exact .inr rfl) (pe_op op_mod (pe_callTy call_int1 (by rfl) T.b_int (by decide +kernel) (pa_cons (pe_op op_add (pe_op op_mul (pv 5) pe_int) (pv 4)) pa_nil)) pe_int))))
      (pss_one (ps_ret (pe_disp (pps_cons pe_str (pe_ifExp (pt_cmpR (r := rNeD K) (op_neD hr.units) (pv 3) (pe_lst pa_nil) (nomark _)) (pe_ix (r := rIxL K) ix_list (pv 3) pe_int (fun _ _ => rfl)) pe_int) (pps_cons pe_str (pv 5) (pps_cons pe_str (pe_op op_cat (pv 2) (pe_lst (pa_cons (pe_op op_add (pe_op op_mul pe_int (pv 1)) pe_int) pa_nil))) (pps_cons pe_str pe_int pps_nil)))) (by rfl) (by rfl) (fun z => by cases z) (by decide)))))))), ?_⟩
    obtain ⟨a, ns, k, rfl, hS, hn, hk, q⟩ := h
    have sz : ∀ {k : Nat}, k ≤ 1000 → k < sizeLine := fun h => small1000 h
    refine ⟨_, rfl, _, rfl, (k : Int), rfl, ?_⟩
    dsimp only [tNoPart]
    refine ⟨a, _, rfl, hS, fun p1 n1 => ?_⟩
    obtain ⟨y1, e1, l1⟩ := cut_ints ns (some (k : Int)) none
    rw [e1]
    have g1 : Gr [] H (upd H p1 (.lst (y1.map V.int))) := Gr.new n1
    have h1 : (upd H p1 (.lst (y1.map V.int))) p1 = some (.lst (y1.map V.int)) := upd_same
    generalize upd H p1 (.lst (y1.map V.int)) = H1 at g1 h1 ⊢
    refine ⟨_, rfl, _, rfl, (k : Int), rfl, a, _, rfl, (Kp.of g1).sqL hS, fun p2 n2 => ?_⟩
    obtain ⟨y2, e2, l2⟩ := cut_ints ns none (some (k : Int))
    rw [e2]
    have g2 : Gr [] H1 (upd H1 p2 (.lst (y2.map V.int))) := Gr.new n2
    have h2 : (upd H1 p2 (.lst (y2.map V.int))) p2 = some (.lst (y2.map V.int)) := upd_same
    generalize upd H1 p2 (.lst (y2.map V.int)) = H2 at g2 h2 ⊢
    refine ⟨p1, p2, _, _, rfl, rfl, g2 p1 _ (by simp) h1, h2, by rw [List.length_map, List.length_map]; exact Nat.le_of_lt (sz (by omega)), fun p3 n3 => ?_⟩
    dsimp only
    rw [← List.map_append]
    have g3 : Gr [] H2 (upd H2 p3 (.lst ((y1 ++ y2).map V.int))) := Gr.new n3
    have h3 : (upd H2 p3 (.lst ((y1 ++ y2).map V.int))) p3 = some (.lst ((y1 ++ y2).map V.int)) := upd_same
    generalize upd H2 p3 (.lst ((y1 ++ y2).map V.int)) = H3 at g3 h3 ⊢
    have G3 := (g1.trans g2).trans g3
    clear g1 g2 g3 h1 h2 e1 e2
    obtain ⟨xs, ex⟩ : ∃ xs, xs = y1 ++ y2 := ⟨_, rfl⟩
    have hxl : xs.length ≤ 126 := by
      rw [ex, List.length_append]
      omega
    rw [← ex] at h3
    clear ex
    refine ⟨_, rfl, p3, rfl, ⟨_, sq_lst h3⟩, fun D nD => ?_⟩
    have hDp : D ≠ p3 := fun e => by
      rw [e, h3] at nD
      cases nD
    refine lc_list (K := K) (a := p3) (xs := xs.map V.int) (fun i H' => Gr [] H3 H' ∧ ∃ ys : List Int, ys.length ≤ i ∧ H' D = some (.lst (ys.map V.int))) ⟨Gr.new nD, [], Nat.le_refl _, upd_same⟩ (fun i H' _ z => (Kp.of z.1).sqL (sq_lst h3)) ?_ ?_
    · rintro i y H' hy ⟨G, ys, hl, hD⟩
      obtain ⟨n, rfl, hn', hi⟩ := get_ints hy
      refine ⟨rfl, ?_⟩
      refine ⟨_, rfl, _, _, rfl, rfl, ⟨by decide, by decide, by decide⟩, _, _, rfl, rfl, _, rfl, ?_⟩
      have ex : ∀ {o : HO}, Gr [] H3 (upd H' D o) := fun {o} c u _ e => by
        rw [upd_ne (ne_of_none e nD)]
        exact G c u (by simp) e
      refine ite2 (fun _ => ?_) (fun _ => ?_)
      · refine ⟨_, rfl, _, hD, by rw [List.length_map]; exact sz (by omega), ex, ys ++ [n], by rw [List.length_append]; simp; omega, ?_⟩
        rw [upd_same, List.map_append]
        rfl
      · exact ⟨G, ys, by omega, hD⟩
    rintro H4 ⟨g4, ys, hl, hD⟩
    have h4 := g4 p3 _ (by simp) h3
    rw [List.length_map] at hl
    refine ⟨_, rfl, _, _, rfl, rfl, ?_⟩
    refine ⟨_, rfl, p3, rfl, ⟨_, sq_lst h4⟩, ?_⟩
    refine for_list (K := K) (a := p3) (xs := xs.map V.int) (fun i σ H' => H' = H4 ∧ ∃ (sd : Int) (v : Option V), (0 ≤ sd ∧ sd < 2147483647) ∧ σ = [some (.ref a), some (.int k), some (.ref p3), some (.ref D), v, some (.int sd)]) ⟨rfl, 131 + (k : Int), none, ⟨by omega, by omega⟩, rfl⟩ (fun i σ H' _ z => by rw [z.1]; exact sq_lst h4) ?_ ?_
    · rintro i y σ H' hy ⟨rfl, sd, v, ⟨s0, s1⟩, rfl⟩
      obtain ⟨n, rfl, _, _⟩ := get_ints hy
      refine ⟨_, rfl, _, _, rfl, rfl, .inr ⟨by decide, by decide⟩, _, rfl, _, _, rfl, rfl, .inl ⟨_, rfl, _, _, rfl, rfl, (by show (0 : Int) < 2147483647; decide), ?_⟩⟩
      exact ⟨rfl, _, _, ⟨Int.emod_nonneg _ (by decide), Int.emod_lt_of_pos _ (by decide)⟩, rfl⟩
    rintro σ H' ⟨rfl, sd, v, hs, rfl⟩
    intro p np
    have gp : Gr [] H' (upd H' p (.dK [])) := Gr.new np
    have hp : (upd H' p (.dK [])) p = some (.dK []) := upd_same
    have hD5 := gp D _ (by simp) hD
    have h5 := gp p3 _ (by simp) h4
    have np0 := np
    generalize hH5 : upd H' p (.dK []) = H5 at gp hp hD5 h5 ⊢
    have G4 : ∀ (H7 : Hp) (p6 : Addr) (l0 : Int), Gr [] H5 H7 → H7 p6 = some (.lst ((xs ++ [43 * (k : Int) + 7]).map V.int)) → Q (.ref p) (upd H7 p (.dK (mergeK [] (mkv p6 l0 sd 0)))) := fun H7 p6 l0 g7 h6 => by
      rw [mm]
      have hp7 := g7 p _ (by simp) hp
      have hne : p6 ≠ p := by
        intro e
        rw [e, hp7] at h6
        cases h6
      refine q p _ (by
        cases z : H p with
        | none => rfl
        | some o =>
          have := g4 p o (by simp) (G3 p o (by simp) z)
          rw [np] at this
          cases this) (fun c u _ e => ?_) ⟨p6, xs ++ [43 * (k : Int) + 7], l0, sd, 0, upd_same, ?_, by simp, hs, Int.le_refl _, Int.le_refl _⟩
      · have e1 := g4 c u (by simp) (G3 c u (by simp) e)
        rw [upd_ne (ne_of_none e1 np)]
        exact g7 c u (by simp) (gp c u (by simp) e1)
      · rw [upd_ne hne]
        exact h6
    refine ⟨_, rfl, Nat.zero_le _, fun q0 nq => ?_⟩
    have hq := (Gr.new (W := []) (o := .lst []) nq)
    refine ⟨.list (ys.map PyData.int), .list [], dp_lst (hq D _ (by simp) hD5) (dpAll_ints ys), dp_lst upd_same .nil, shaped_ints ys, rfl, _, rfl, ?_⟩
    rw [eqv_nil]
    have gq : Gr [] H5 (upd H5 q0 (.lst [])) := hq
    have h6 := hq p3 _ (by simp) h5
    have hD6 := hq D _ (by simp) hD5
    generalize upd H5 q0 (.lst []) = H6 at gq h6 hD6 ⊢
    cases ys with
    | nil =>
      refine iteF ?_
      refine ⟨_, rfl, _, rfl, _, rfl, _, _, rfl, rfl, .inl ⟨by decide, by decide⟩, _, _, rfl, rfl, by show 1 ≤ sizeLine; decide, fun p7 n7 => ?_⟩
      have k1 := (Gr.new (W := []) (o := .lst [V.int (43 * (k : Int) + 7)]) n7) p3 _ (by simp) h6
      refine ⟨p3, p7, _, _, rfl, rfl, k1, upd_same, by rw [List.length_map]; exact Nat.le_of_lt (sz (by show xs.length + 1 ≤ 1000; omega)), fun p8 n8 => ?_⟩
      have g8 := (gq.trans (Gr.new (W := []) (o := .lst [V.int (43 * (k : Int) + 7)]) n7)).trans (Gr.new (W := []) (o := .lst (xs.map V.int ++ [V.int (43 * (k : Int) + 7)])) n8)
      refine ⟨g8 p _ (by simp) hp, mkv p8 0 sd 0, rfl, by show 4 ≤ 15; decide, G4 _ p8 0 g8 ?_⟩
      rw [upd_same, List.map_append]
      rfl
    | cons y r =>
      refine iteT ⟨_, rfl, D, _, 0, .int y, rfl, rfl, sq_lst hD6, atI_nat (j := 0) rfl, ?_⟩
      refine ⟨_, rfl, _, rfl, _, rfl, _, _, rfl, rfl, .inl ⟨by decide, by decide⟩, _, _, rfl, rfl, by show 1 ≤ sizeLine; decide, fun p7 n7 => ?_⟩
      have k1 := (Gr.new (W := []) (o := .lst [V.int (43 * (k : Int) + 7)]) n7) p3 _ (by simp) h6
      refine ⟨p3, p7, _, _, rfl, rfl, k1, upd_same, by rw [List.length_map]; exact Nat.le_of_lt (sz (by show xs.length + 1 ≤ 1000; omega)), fun p8 n8 => ?_⟩
      have g8 := (gq.trans (Gr.new (W := []) (o := .lst [V.int (43 * (k : Int) + 7)]) n7)).trans (Gr.new (W := []) (o := .lst (xs.map V.int ++ [V.int (43 * (k : Int) + 7)])) n8)
      refine ⟨g8 p _ (by simp) hp, mkv p8 y sd 0, rfl, by show 4 ≤ 15; decide, G4 _ p8 y g8 ?_⟩
      rw [upd_same, List.map_append]
      rfl

end
end Wn
namespace Wn
open PySem PySem.Spec PyProof.Rows L2
open LamX (Tabs ExtN tLam)
local macro_rules | `(tactic| walk_at "vc") => `(tactic| simp only [cxK, cxK2, start1, start2, start3, tRet, tRetN, tSeq, tNext, tIfS, tAsg, gName, tDrop, tVar, tC, tOp, tUn, tTest, tB, tNot, tAnd, tOr, tAndV, tOrV, tNotV, tIf, tCons, tNil, tCB, tCall, tChain, tAug, ipI, rI, rI0, rU, rIs, rGcd, rEq, rNe, scal,
  List.getElem?_cons_zero, List.getElem?_cons_succ, List.set_cons_zero, List.set_cons_succ, Option.some.injEq, List.cons.injEq, V.int.injEq, V.bl.injEq, V.ref.injEq, V.str.injEq, and_true, true_and, exists_eq_left, exists_eq_left', exists_and_left, exists_and_right, List.append_nil, List.nil_append, List.cons_append, exists_eq_right, exists_eq_right', and_assoc, exists_const, V.ty.injEq, ↓reduceIte, Bool.false_eq_true, Bool.not_true, Bool.not_false, decide_eq_true_eq])

section
variable {P : Program} {w : World} {K : PySem.W.Frag} {mg : Str → Option Value} {base : Heap}
theorem ok_init_TooGreat (T : Txt K mg) : FnOk P w K mg base CX0 1 T.I_TooGreat T.fd_TooGreat ["self", "most"] (spInit T.C_TooGreat "most") := by
  refine T.F_TooGreat.ok sc_TooGreat_init (fun vs H Q E h => ?_) (fun cdv A outer s H vs Q E hr h => ?_)
  · obtain ⟨a, v, rfl, _⟩ := h
    rfl
  · obtain ⟨a, v, rfl, ha, q⟩ := h
    refine ⟨_, pss_cons (ps_expr (pe_initB T.T_TooGreat (by rfl) T.b_OverflowError (by rfl) (by decide) (by decide) (by kernel_rfl) (by decide +kernel) T.i_OverflowError (by rfl) (pa_cons (pv 0) (pa_cons pe_str pa_nil)))) (pss_one (ps_ostE T.T_TooGreat (pv 0) (pv 1))), ?_⟩
    exact ⟨_, rfl, a, _, rfl, by show 1 ≤ 1000; decide, ha, _, rfl, _, rfl, a, rfl, ha, fun d nd da => q d nd da⟩
theorem ok_init_Nothing (T : Txt K mg) : FnOk P w K mg base CX0 1 T.I_Nothing T.fd_Nothing ["self", "value"] (spInit T.C_Nothing "value") := by
  refine T.F_Nothing.ok sc_Nothing_init (fun vs H Q E h => ?_) (fun cdv A outer s H vs Q E hr h => ?_)
  · obtain ⟨a, v, rfl, _⟩ := h
    rfl
  · obtain ⟨a, v, rfl, ha, q⟩ := h
    refine ⟨_, pss_cons (ps_expr (pe_initB T.T_Nothing (by rfl) T.b_LookupError (by rfl) (by decide) (by decide) (by kernel_rfl) (by decide +kernel) T.i_LookupError (by rfl) (pa_cons (pv 0) (pa_cons pe_str pa_nil)))) (pss_one (ps_ostE T.T_Nothing (pv 0) (pv 1))), ?_⟩
    exact ⟨_, rfl, a, _, rfl, by show 1 ≤ 1000; decide, ha, _, rfl, _, rfl, a, rfl, ha, fun d nd da => q d nd da⟩

/-! values of any kind -/
def tyD : PyData → String
  | .none => "NoneType"
  | .bool _ => "bool"
  | .int _ => "int"
  | .str _ => "str"
  | .list _ => "list"
  | .tuple _ => "tuple"
  | .dict _ => "dict"
theorem sqT_ty {K : PySem.W.Frag} {H : Hp} {a : Addr} {xs : List V} (h : SqT K H a xs) : TyX K H (.ref a) (.type "tuple") := by
  rcases h with (h | ⟨o, h⟩) | ⟨o, its, n, h, c, _⟩
  · exact .base (.tup h)
  · exact .fTuple h
  · exact .kTuple h c
theorem sqL_ty {K : PySem.W.Frag} {H : Hp} {a : Addr} {xs : List V} (h : SqL K H a xs) : TyX K H (.ref a) (.type "list") := by
  rcases h with (h | ⟨o, h⟩) | ⟨o, its, n, h, c, _⟩
  · exact .base (.lst h)
  · exact .base (.frz h)
  · exact .kList h c
theorem dp_ty {K : PySem.W.Frag} {H : Hp} {v : V} {d : PyData} (h : Dp K H v d) : TyX K H v (.type (tyD d)) ∧ tyD d ∈ tyNames := by
  cases h with
  | non => exact ⟨.base .non, by decide⟩
  | bl b => exact ⟨.base (.bl b), by show "bool" ∈ tyNames; decide⟩
  | int i => exact ⟨.base (.int i), by show "int" ∈ tyNames; decide⟩
  | str x => exact ⟨.base (.str x), by show "str" ∈ tyNames; decide⟩
  | lst s a => exact ⟨sqL_ty s, by show "list" ∈ tyNames; decide⟩
  | tup s a => exact ⟨sqT_ty s, by show "tuple" ∈ tyNames; decide⟩
def isI : PyData → Bool
  | .int _ => true
  | _ => false
def isW (lo hi : Int) : PyData → Bool
  | .int i => decide (lo ≤ i) && decide (i ≤ hi)
  | _ => false
theorem rIs_dp {K : PySem.W.Frag} {H : Hp} {v : V} {d : PyData} {n : String} {Q : VK} (h : Dp K H v d) (hn : n ∈ qyNames) (q : Q (.bl (isB (tyD d) n)) H) : rIs K [v, .ty n] H Q :=
  ⟨v, n, rfl, tyD d, ⟨(dp_ty h).1, (dp_ty h).2, hn⟩, q⟩
def sp_is_integerA (K : PySem.W.Frag) : Sp := fun vs H Q _ => ∃ (v : V) (d : PyData), vs = [v] ∧ Dp K H v d ∧ Q (.bl (isI d)) H
def sp_is_withinA (K : PySem.W.Frag) : Sp := fun vs H Q _ => ∃ (v : V) (d : PyData) (lo hi : Int), vs = [v, .int lo, .int hi] ∧ Dp K H v d ∧ Q (.bl (isW lo hi d)) H
theorem tyD_nn {d : PyData} (h1 : isB (tyD d) "int" = true) (h2 : isB (tyD d) "bool" = false) : ∃ i, d = .int i := by
  cases d with
  | int i => exact ⟨i, rfl⟩
  | none => cases h1
  | bool b => cases h2
  | str x => cases h1
  | list x => cases h1
  | tuple x => cases h1
  | dict x => cases h1
theorem okA_is_integer (T : Txt K mg) : FnOk P w K mg base CX0 1 T.d_is_integer.f T.d_is_integer.fd ["value"] (sp_is_integerA K) := by
  refine T.d_is_integer.F.ok sc_is_integer (fun vs H Q E h => ?_) (fun cdv A outer s H vs Q E hr h => ?_)
  · obtain ⟨v, d, rfl, _⟩ := h; rfl
  · have hu := hu_of hr
    refine ⟨_, (pss_one (ps_ret (pe_and (pe_callB (r := rIs K) call_is (by rfl) T.b_isinstance (by decide +kernel) (pa_cons (pv 0) (pa_cons (pe_bltn (v := .ty "int") (by rfl) T.b_int (by decide +kernel) rfl) pa_nil))) (pe_one (pe_not (pe_callB (r := rIs K) call_is (by rfl) T.b_isinstance (by decide +kernel) (pa_cons (pv 0) (pa_cons (pe_bltn (v := .ty "bool") (by rfl) T.b_bool (by decide +kernel) rfl) pa_nil)))))))), ?_⟩
    obtain ⟨v, d, rfl, hd, q⟩ := h
    refine ⟨_, rfl, v, "int", rfl, tyD d, ⟨(dp_ty hd).1, (dp_ty hd).2, by decide⟩, _, rfl, ?_⟩
    cases h1 : isB (tyD d) "int" with
    | false =>
      refine iteF ?_
      have e : isI d = false := by
        cases d with
        | int i => cases h1
        | none => rfl
        | bool b => rfl
        | str x => rfl
        | list x => rfl
        | tuple x => rfl
        | dict x => rfl
      rw [e] at q
      exact q
    | true =>
      refine iteT ⟨_, rfl, v, "bool", rfl, tyD d, ⟨(dp_ty hd).1, (dp_ty hd).2, by decide⟩, _, rfl, ?_⟩
      cases h2 : isB (tyD d) "bool" with
      | true =>
        have e : isI d = false := by
          cases d with
          | bool b => rfl
          | int i => cases h2
          | none => cases h2
          | str x => cases h2
          | list x => cases h2
          | tuple x => cases h2
          | dict x => cases h2
        rw [e] at q
        exact q
      | false =>
        obtain ⟨i, rfl⟩ := tyD_nn h1 h2
        exact q
theorem okA_is_within (T : Txt K mg) : FnOk P w K mg base CX0 2 T.d_is_within.f T.d_is_within.fd ["value", "low", "high"] (sp_is_withinA K) := by
  refine T.d_is_within.F.ok sc_is_within (fun vs H Q E h => ?_) (fun cdv A outer s H vs Q E hr h => ?_)
  · obtain ⟨v, d, lo, hi, rfl, _⟩ := h; rfl
  · have hu := hu_of hr
    refine ⟨_, (pss_one (ps_ret (pe_and (pe_call (okA_is_integer T) (hr.mono (by decide)) (by rfl) T.d_is_integer.m T.d_is_integer.F.kp T.d_is_integer.b .nil pass0 (pa_cons (pv 0) pa_nil)) (pe_one (pe_chain op_le op_le (pv 1) (pv 0) (pv 2)))))), ?_⟩
    obtain ⟨v, d, lo, hi, rfl, hd, q⟩ := h
    refine ⟨_, rfl, v, d, rfl, hd, _, rfl, ?_⟩
    cases d with
    | int i =>
      obtain rfl := dp_int hd
      refine iteT ?_
      walk_at "vc"
      by_cases h1 : lo ≤ i
      · have e : isW lo hi (.int i) = decide (i ≤ hi) := by
          show (decide (lo ≤ i) && decide (i ≤ hi)) = _
          rw [decide_eq_true h1, Bool.true_and]
        rw [if_pos h1, ← e]
        exact q
      · have e : isW lo hi (.int i) = false := by
          show (decide (lo ≤ i) && decide (i ≤ hi)) = _
          rw [decide_eq_false h1, Bool.false_and]
        rw [if_neg h1, ← e]
        exact q
    | none => exact iteF q
    | bool b => exact iteF q
    | str x => exact iteF q
    | list x => exact iteF q
    | tuple x => exact iteF q
    | dict x => exact iteF q

inductive Prs (H : Hp) : List Addr → List (Nat × Nat) → Prop
  | nil : Prs H [] []
  | cons {p : Addr} {ps : List Addr} {r : Nat × Nat} {rs : List (Nat × Nat)} : H p = some (.tup [.int (r.1 : Nat), .int (r.2 : Nat)]) → Prs H ps rs → Prs H (p :: ps) (r :: rs)
theorem Prs.imp {H H' : Hp} {ps : List Addr} {rs : List (Nat × Nat)} (h : Prs H ps rs) (k : ∀ {p : Addr} {r : Nat × Nat}, H p = some (.tup [.int (r.1 : Nat), .int (r.2 : Nat)]) → H' p = some (.tup [.int (r.1 : Nat), .int (r.2 : Nat)])) : Prs H' ps rs := by
  induction h with
  | nil => exact .nil
  | cons a _ ih => exact .cons (k a) ih
theorem Prs.len {H : Hp} {ps : List Addr} {rs : List (Nat × Nat)} (h : Prs H ps rs) : ps.length = rs.length := by
  induction h with
  | nil => rfl
  | cons a _ ih => exact congrArg (· + 1) ih
theorem Prs.snoc {H : Hp} {ps : List Addr} {rs : List (Nat × Nat)} {p : Addr} {r : Nat × Nat} (h : Prs H ps rs) (e : H p = some (.tup [.int (r.1 : Nat), .int (r.2 : Nat)])) : Prs H (ps ++ [p]) (rs ++ [r]) := by
  induction h with
  | nil => exact .cons e .nil
  | cons a _ ih => exact .cons a ih
theorem Prs.at_ {H : Hp} {ps : List Addr} {rs : List (Nat × Nat)} (h : Prs H ps rs) {i : Nat} {v : V} (e : (ps.map V.ref)[i]? = some v) : ∃ (p : Addr) (hi : i < rs.length), v = .ref p ∧ H p = some (.tup [.int ((rs[i]).1 : Nat), .int ((rs[i]).2 : Nat)]) := by
  induction h generalizing i with
  | nil => simp at e
  | @cons p ps r rs a _ ih =>
    cases i with
    | zero =>
      have : V.ref p = v := by simpa using e
      exact ⟨p, by simp, this.symm, a⟩
    | succ i =>
      obtain ⟨p2, hi, h1, h2⟩ := ih (i := i) (by simpa using e)
      exact ⟨p2, by simpa using hi, h1, h2⟩
def sp_prime_powers : Sp := fun vs H Q _ => ∃ n : Nat, vs = [.int n] ∧ (1 ≤ n ∧ n ≤ 20000) ∧ ∀ (l : Addr) (ps : List Addr) H', Gr [] H H' → H' l = some (.lst (ps.map V.ref)) → Prs H' ps (ppL n) → Q (.ref l) H'
theorem ok_prime_powers (T : Txt K mg) : FnOk P w K mg base CX0 1 T.d_prime_powers.f T.d_prime_powers.fd ["number"] sp_prime_powers := by
  refine T.d_prime_powers.F.ok sc_prime_powers (fun vs H Q E h => ?_) (fun cdv A outer s H vs Q E hr h => ?_)
  · obtain ⟨n, rfl, _⟩ := h; rfl
  · have hu := hu_of hr
    refine ⟨_, (pss_cons (ps_set (i := 1) sc_prime_powers.nd rfl (by first | exact .inl rfl | exact .inr rfl) (pe_lst pa_nil))
      (pss_cons (ps_set (i := 2) sc_prime_powers.nd rfl (by first | exact .inl rfl | exact .inr rfl) (pv 0))
      (pss_cons (ps_set (i := 3) sc_prime_powers.nd rfl (by first | exact .inl rfl | exact .inr rfl) pe_int)
      (pss_cons (ps_while PassesOwn.never (pt_cmpR op_gt (pv 2) pe_int (nomark _)) (pss_cons (ps_if (pt_cmpR op_gt (pe_op op_mul (pv 3) (pv 3)) (pv 2) (nomark _)) (pss_one (ps_set (i := 3) sc_prime_powers.nd rfl (by first | exact .inl rfl | exact .inr rfl) (pv 2))) pss_nil)
      (pss_cons (ps_set (i := 4) sc_prime_powers.nd rfl (by first | exact .inl rfl | exact .inr rfl) pe_int)
      (pss_cons (ps_while PassesOwn.never (pt_cmpR op_eq (pe_op op_mod (pv 2) (pv 3)) pe_int (nomark _)) (pss_cons (ps_set (i := 2) sc_prime_powers.nd rfl (by first | exact .inl rfl | exact .inr rfl) (pe_op op_fdiv (pv 2) (pv 3)))
      (pss_one (ps_aug (i := 4) sc_prime_powers.nd rfl (by first | exact .inl rfl | exact .inr rfl) pe_int ip_add))))
      (pss_cons (ps_if (pt_cmpR op_gt (pv 4) pe_int (nomark _)) (pss_one (ps_expr (pe_bm PySem.F.plainAttrs_list PySem.F.slot_list_append PySem.F.type_list_append mt_append (pv 1) (pa_cons (pe_tup (pa_cons (pv 3) (pa_cons (pv 4) pa_nil))) pa_nil)))) pss_nil)
      (pss_one (ps_aug (i := 3) sc_prime_powers.nd rfl (by first | exact .inl rfl | exact .inr rfl) pe_int ip_add)))))))
      (pss_one (ps_ret (pv 1))))))), ?_⟩
    obtain ⟨n, rfl, ⟨hn1, hn2⟩, q⟩ := h
    refine ⟨Nat.zero_le _, fun l nl => ?_⟩
    have hl0 : (upd H l (.lst [])) l = some (.lst (([] : List Addr).map V.ref)) := upd_same
    have g0 : Gr [] H (upd H l (.lst [])) := Gr.new nl
    generalize upd H l (.lst []) = H0 at hl0 g0 ⊢
    refine ⟨_, rfl, ?_⟩
    refine ⟨fun m σ H' => ∃ (left k : Nat) (ps : List Addr), (m = if left ≤ 1 then 0 else left - k + 1) ∧ H' = H' ∧ Gr [] H H' ∧ H' l = some (.lst (ps.map V.ref)) ∧ Prs H' ps (ppU n k) ∧ Left n left k ∧ 2 ≤ k ∧ k ≤ n + 1 ∧ ∃ v, σ = [some (.int n), some (.ref l), some (.int left), some (.int k), v], ⟨_, n, 2, [], rfl, rfl, g0, hl0, ?_, Left.start hn1, Nat.le_refl _, by omega, none, rfl⟩, ?_⟩
    · rw [show ppU n 2 = [] from by
        unfold ppU
        rw [show List.range 2 = [0, 1] from rfl]
        have f0 : fpp n 0 = none := by
          unfold fpp
          rw [if_neg]
          rintro ⟨_, h⟩
          cases h
        have f1 : fpp n 1 = none := by
          unfold fpp
          rw [if_neg]
          rintro ⟨_, h⟩
          cases h
        simp [f0, f1]]
      exact .nil
    rintro m σ H' ⟨left, k, ps, hm, _, G, hL, hP, L, hk2, hkn, v, rfl⟩
    have hln : left ≤ n := Nat.le_of_dvd hn1 L.dv
    refine ⟨_, rfl, _, 1, rfl, rfl, _, rfl, ?_⟩
    by_cases hl : 1 < left
    · have hge := L.ge hl
      rw [if_neg (by omega)] at hm
      refine iteTb (decide_eq_true (show (1 : Int) < (left : Int) by omega)) ?_
      refine ⟨fun σ' H2 => ∃ (left2 k2 : Nat) (ps : List Addr), H2 = H2 ∧ (if left2 ≤ 1 then 0 else left2 - k2 + 1) = (if left2 ≤ 1 then 0 else left2 - k2 + 1) ∧ Gr [] H H2 ∧ H2 l = some (.lst (ps.map V.ref)) ∧ Prs H2 ps (ppU n k2) ∧ Left n left2 k2 ∧ (2 ≤ k2 ∧ k2 ≤ n + 1) ∧ (if left2 ≤ 1 then 0 else left2 - k2 + 1) < m ∧ ∃ v, σ' = [some (.int n), some (.ref l), some (.int left2), some (.int k2), v], ?_, ?_⟩
      · rintro σ' H2 ⟨left2, k2, ps2, _, _, a1, a2, a3, a4, ⟨a5, a6⟩, a7, v, rfl⟩
        exact ⟨_, a7, left2, k2, ps2, rfl, rfl, a1, a2, a3, a4, a5, a6, v, rfl⟩
      refine ⟨_, rfl, _, rfl, _, _, rfl, rfl, .inl ⟨by omega, by omega⟩, _, rfl, _, _, rfl, rfl, _, rfl, ?_⟩
      dsimp only
      rw [← Int.natCast_mul]
      by_cases hj : left < k * k
      · refine iteTb (decide_eq_true (by omega)) ⟨_, rfl, ?_⟩
        have HK : 2 ≤ left ∧ left ≤ left ∧ Left n left left ∧ ppU n left = ppU n k := by
          obtain ⟨j1, j2, j3⟩ := L.jump hk2 hl hj
          exact ⟨by omega, Nat.le_refl _, j2, ppU_skip hge j3⟩
        have K2 : 2 ≤ left := HK.1
        have KL : left ≤ left := HK.2.1
        have LL : Left n left left := HK.2.2.1
        have PU : ppU n left = ppU n k := HK.2.2.2
        refine ⟨fun m2 σ2 H2 => H2 = H' ∧ ∃ r e : Nat, m2 = r ∧ σ2 = [some (.int n), some (.ref l), some (.int r), some (.int (left : Nat)), some (.int e)] ∧ left = r * left ^ e ∧ 1 ≤ r, ⟨left, rfl, left, 0, rfl, rfl, by rw [Nat.pow_zero, Nat.mul_one], LL.pos⟩, ?_⟩
        rintro m2 σ2 H2 ⟨rfl, r, e, rfl, rfl, hre, hr1⟩
        have hrl : m2 ≤ left := by
          have : m2 ∣ left := ⟨_, hre⟩
          exact Nat.le_of_dvd LL.pos this
        refine ⟨_, rfl, _, rfl, _, _, rfl, rfl, (show (0 : Int) < ((left : Nat) : Int) by omega), rfl, _, rfl, ?_⟩
        by_cases hd : m2 % left = 0
        · refine iteTb (decide_eq_true (show V.int (((m2 : Nat) : Int) % ((left : Nat) : Int)) = V.int 0 by rw [← Int.natCast_emod, hd]; rfl)) ?_
          obtain ⟨c, hc⟩ := Nat.dvd_of_mod_eq_zero hd
          have hc1 : 1 ≤ c := Nat.pos_of_ne_zero fun z => by rw [hc, z] at hr1; omega
          have hc2 : c < m2 := by
            have : 2 * c ≤ left * c := Nat.mul_le_mul_right _ K2
            omega
          refine ⟨fun σ3 H3 => H3 = H2 ∧ σ3 = [some (.int n), some (.ref l), some (.int c), some (.int (left : Nat)), some (.int (e + 1 : Nat))], ?_, ?_⟩
          · rintro σ3 H3 ⟨rfl, rfl⟩
            refine ⟨c, hc2, rfl, c, e + 1, rfl, rfl, ?_, hc1⟩
            refine hre.trans ?_
            rw [hc, Nat.pow_succ, Nat.mul_comm left c, Nat.mul_assoc, Nat.mul_comm left]
          · refine ⟨_, rfl, _, rfl, _, _, rfl, rfl, ⟨by omega, by omega⟩, ?_⟩
            refine ⟨_, rfl, _, _, rfl, rfl, rfl, ?_⟩
            dsimp only
            rw [← Int.natCast_ediv, show m2 / left = c by rw [hc, Nat.mul_div_cancel_left _ (by omega)]]
            rfl
        · refine iteFb (decide_eq_false (show ¬ V.int (((m2 : Nat) : Int) % ((left : Nat) : Int)) = V.int 0 from fun z => hd (by rw [← Int.natCast_emod] at z; have := V.int.inj z; omega))) ?_
          have hnd : ¬ left ∣ m2 := fun z => hd (Nat.mod_eq_zero_of_dvd z)
          obtain ⟨LN, FP⟩ := LL.next hn1 K2 hre hnd
          have US : ppU n (left + 1) = ppU n k ++ (if e = 0 then [] else [(left, e)]) := by
            by_cases z : e = 0
            · rw [ppU_succ, PU, FP, if_pos z, if_pos z]
            · rw [ppU_succ, PU, FP, if_neg z, if_neg z]
          have meas : ∀ {x : Nat}, (if m2 ≤ 1 then 0 else m2 - (left + 1) + 1) = x → x < left - k + 1 := fun {x} h => by
            rw [← h]
            split
            · omega
            · have := LN.ge (by omega)
              omega
          refine ⟨_, rfl, _, _, rfl, rfl, _, rfl, ?_⟩
          by_cases he : e = 0
          · refine iteFb (decide_eq_false (by omega)) ?_
            rw [if_pos he, List.append_nil] at US
            refine ⟨_, rfl, _, _, rfl, rfl, ?_⟩
            exact ⟨m2, left + 1, ps, rfl, rfl, G, hL, by rw [US]; exact hP, LN, ⟨by omega, by omega⟩, by rw [hm]; exact meas rfl, some (.int e), rfl⟩
          · refine iteTb (decide_eq_true (by omega)) ?_
            rw [if_neg he] at US
            refine ⟨_, rfl, .inl ⟨rfl, _, sq_lst hL⟩, _, rfl, _, rfl, by show 2 ≤ sizeLine; decide, fun t nt => ?_⟩
            have gt := Gr.new (W := []) (o := .tup [.int (left : Nat), .int (e : Nat)]) nt
            have et : (upd H2 t (.tup [.int (left : Nat), .int (e : Nat)])) t = some (.tup [.int (left : Nat), .int (e : Nat)]) := upd_same
            have hL2 := gt l _ (by simp) hL
            have hP2 := hP.imp fun h => gt _ _ (by simp) h
            generalize upd H2 t (.tup [.int (left : Nat), .int (e : Nat)]) = H4 at gt et hL2 hP2 ⊢
            refine ⟨l, _, _, rfl, rfl, hL2, ?_, ?_⟩
            · have := hP.len
              have := ppU_len (n := n) k
              rw [List.length_map]
              exact Nat.lt_of_lt_of_le (show ps.length < 30000 by omega) (by decide)
            refine ⟨_, rfl, _, _, rfl, rfl, ?_⟩
            refine ⟨m2, left + 1, ps ++ [t], rfl, rfl, ?_, by rw [upd_same, List.map_append]; rfl, ?_, LN, ⟨by omega, by omega⟩, by rw [hm]; exact meas rfl, some (.int e), rfl⟩
            · intro u o _ eo
              rw [upd_ne (ne_of_none eo nl)]
              exact gt u o (by simp) (G u o (by simp) eo)
            · rw [US]
              refine (hP2.imp fun h => ?_).snoc ?_
              · rw [upd_ne (ne_of h hL2 (by intro z; cases z))]
                exact h
              · rw [upd_ne (ne_of et hL2 (by intro z; cases z))]
                exact et
      · refine iteFb (decide_eq_false (by omega)) ?_
        have HK : 2 ≤ k ∧ k ≤ left ∧ Left n left k ∧ ppU n k = ppU n k := ⟨hk2, hge, L, rfl⟩
        have K2 : 2 ≤ k := HK.1
        have KL : k ≤ left := HK.2.1
        have LL : Left n left k := HK.2.2.1
        have PU : ppU n k = ppU n k := HK.2.2.2
        refine ⟨fun m2 σ2 H2 => H2 = H' ∧ ∃ r e : Nat, m2 = r ∧ σ2 = [some (.int n), some (.ref l), some (.int r), some (.int (k : Nat)), some (.int e)] ∧ left = r * k ^ e ∧ 1 ≤ r, ⟨left, rfl, left, 0, rfl, rfl, by rw [Nat.pow_zero, Nat.mul_one], LL.pos⟩, ?_⟩
        rintro m2 σ2 H2 ⟨rfl, r, e, rfl, rfl, hre, hr1⟩
        have hrl : m2 ≤ left := by
          have : m2 ∣ left := ⟨_, hre⟩
          exact Nat.le_of_dvd LL.pos this
        refine ⟨_, rfl, _, rfl, _, _, rfl, rfl, (show (0 : Int) < ((k : Nat) : Int) by omega), rfl, _, rfl, ?_⟩
        by_cases hd : m2 % k = 0
        · refine iteTb (decide_eq_true (show V.int (((m2 : Nat) : Int) % ((k : Nat) : Int)) = V.int 0 by rw [← Int.natCast_emod, hd]; rfl)) ?_
          obtain ⟨c, hc⟩ := Nat.dvd_of_mod_eq_zero hd
          have hc1 : 1 ≤ c := Nat.pos_of_ne_zero fun z => by rw [hc, z] at hr1; omega
          have hc2 : c < m2 := by
            have : 2 * c ≤ k * c := Nat.mul_le_mul_right _ K2
            omega
          refine ⟨fun σ3 H3 => H3 = H2 ∧ σ3 = [some (.int n), some (.ref l), some (.int c), some (.int (k : Nat)), some (.int (e + 1 : Nat))], ?_, ?_⟩
          · rintro σ3 H3 ⟨rfl, rfl⟩
            refine ⟨c, hc2, rfl, c, e + 1, rfl, rfl, ?_, hc1⟩
            refine hre.trans ?_
            rw [hc, Nat.pow_succ, Nat.mul_comm k c, Nat.mul_assoc, Nat.mul_comm k]
          · refine ⟨_, rfl, _, rfl, _, _, rfl, rfl, ⟨by omega, by omega⟩, ?_⟩
            refine ⟨_, rfl, _, _, rfl, rfl, rfl, ?_⟩
            dsimp only
            rw [← Int.natCast_ediv, show m2 / k = c by rw [hc, Nat.mul_div_cancel_left _ (by omega)]]
            rfl
        · refine iteFb (decide_eq_false (show ¬ V.int (((m2 : Nat) : Int) % ((k : Nat) : Int)) = V.int 0 from fun z => hd (by rw [← Int.natCast_emod] at z; have := V.int.inj z; omega))) ?_
          have hnd : ¬ k ∣ m2 := fun z => hd (Nat.mod_eq_zero_of_dvd z)
          obtain ⟨LN, FP⟩ := LL.next hn1 K2 hre hnd
          have US : ppU n (k + 1) = ppU n k ++ (if e = 0 then [] else [(k, e)]) := by
            by_cases z : e = 0
            · rw [ppU_succ, PU, FP, if_pos z, if_pos z]
            · rw [ppU_succ, PU, FP, if_neg z, if_neg z]
          have meas : ∀ {x : Nat}, (if m2 ≤ 1 then 0 else m2 - (k + 1) + 1) = x → x < left - k + 1 := fun {x} h => by
            rw [← h]
            split
            · omega
            · have := LN.ge (by omega)
              omega
          refine ⟨_, rfl, _, _, rfl, rfl, _, rfl, ?_⟩
          by_cases he : e = 0
          · refine iteFb (decide_eq_false (by omega)) ?_
            rw [if_pos he, List.append_nil] at US
            refine ⟨_, rfl, _, _, rfl, rfl, ?_⟩
            exact ⟨m2, k + 1, ps, rfl, rfl, G, hL, by rw [US]; exact hP, LN, ⟨by omega, by omega⟩, by rw [hm]; exact meas rfl, some (.int e), rfl⟩
          · refine iteTb (decide_eq_true (by omega)) ?_
            rw [if_neg he] at US
            refine ⟨_, rfl, .inl ⟨rfl, _, sq_lst hL⟩, _, rfl, _, rfl, by show 2 ≤ sizeLine; decide, fun t nt => ?_⟩
            have gt := Gr.new (W := []) (o := .tup [.int (k : Nat), .int (e : Nat)]) nt
            have et : (upd H2 t (.tup [.int (k : Nat), .int (e : Nat)])) t = some (.tup [.int (k : Nat), .int (e : Nat)]) := upd_same
            have hL2 := gt l _ (by simp) hL
            have hP2 := hP.imp fun h => gt _ _ (by simp) h
            generalize upd H2 t (.tup [.int (k : Nat), .int (e : Nat)]) = H4 at gt et hL2 hP2 ⊢
            refine ⟨l, _, _, rfl, rfl, hL2, ?_, ?_⟩
            · have := hP.len
              have := ppU_len (n := n) k
              rw [List.length_map]
              exact Nat.lt_of_lt_of_le (show ps.length < 30000 by omega) (by decide)
            refine ⟨_, rfl, _, _, rfl, rfl, ?_⟩
            refine ⟨m2, k + 1, ps ++ [t], rfl, rfl, ?_, by rw [upd_same, List.map_append]; rfl, ?_, LN, ⟨by omega, by omega⟩, by rw [hm]; exact meas rfl, some (.int e), rfl⟩
            · intro u o _ eo
              rw [upd_ne (ne_of_none eo nl)]
              exact gt u o (by simp) (G u o (by simp) eo)
            · rw [US]
              refine (hP2.imp fun h => ?_).snoc ?_
              · rw [upd_ne (ne_of h hL2 (by intro z; cases z))]
                exact h
              · rw [upd_ne (ne_of et hL2 (by intro z; cases z))]
                exact et
    · have e1 : left = 1 := by have := L.pos; omega
      subst e1
      refine iteFb (decide_eq_false (show ¬ (1 : Int) < ((1 : Nat) : Int) by omega)) ⟨_, rfl, q l ps H' G hL ?_⟩
      have : ppL n = ppU n k := ppU_skip hkn fun p h1 h2 => by
        unfold fpp
        rw [if_neg]
        rintro ⟨h3, h4⟩
        have := (L.same p 1 h1 h4).mpr (by rw [Nat.pow_one]; exact Nat.dvd_of_mod_eq_zero h3)
        rw [Nat.pow_one] at this
        have := Nat.le_of_dvd (by decide) this
        have := (isP_iff.mp h4).1
        omega
      rw [this]
      exact hP

def sp_power : Sp := fun vs H Q _ => ∃ b k : Nat, vs = [.int b, .int k] ∧ (b ≤ 1000000000 ∧ k ≤ 10000) ∧ Q (.int (b ^ k : Nat)) H
theorem ok_power (T : Txt K mg) : FnOk P w K mg base CX0 1 T.d_power.f T.d_power.fd ["number", "exponent"] sp_power := by
  refine T.d_power.F.ok sc_power (fun vs H Q E h => ?_) (fun cdv A outer s H vs Q E hr h => ?_)
  · obtain ⟨b, k, rfl, _⟩ := h; rfl
  · have hu := hu_of hr
    refine ⟨_, (pss_cons (ps_set (i := 2) sc_power.nd rfl (by first | exact .inl rfl | exact .inr rfl) pe_int)
      (pss_cons (ps_for PassesOwn.never rfl (pi_range1 (by rfl) T.b_range (pa_cons (pv 1) pa_nil)) (pg_name (i := 3) sc_power.nd rfl (by first | exact .inl rfl | exact .inr rfl)) (pss_one (ps_set (i := 2) sc_power.nd rfl (by first | exact .inl rfl | exact .inr rfl) (pe_op op_mul (pv 2) (pv 0)))))
      (pss_one (ps_ret (pv 2))))), ?_⟩
    obtain ⟨b, k, rfl, ⟨hb, hk⟩, q⟩ := h
    refine ⟨_, rfl, (k : Int), rfl, by omega, by omega, ?_⟩
    refine for_range (lo := 0) (n := ((k : Int)).toNat) (fun i σ H' => H' = H ∧ ∃ v, σ = [some (.int b), some (.int k), some (.int (b ^ i : Nat)), v]) ⟨rfl, none, ?_⟩ ?_ ?_
    · rfl
    · rintro i σ H' hi ⟨rfl, v, rfl⟩
      refine ⟨_, rfl, _, rfl, _, _, rfl, rfl, .inr ⟨by omega, by omega⟩, rfl, some (.int (0 + (i : Int))), ?_⟩
      dsimp only
      rw [Nat.pow_succ, Int.natCast_mul]
      rfl
    rintro σ H' ⟨rfl, v, rfl⟩
    rw [Int.toNat_natCast]
    exact ⟨_, rfl, q⟩

end
end Wn
namespace Wn
open PySem PySem.Spec PyProof.Rows L2
open LamX (Tabs ExtN tLam)
local macro_rules | `(tactic| walk_at "vc") => `(tactic| simp only [cxK, cxK2, start1, start2, start3, tRet, tRetN, tSeq, tNext, tIfS, tAsg, gName, tDrop, tVar, tC, tOp, tUn, tTest, tB, tNot, tAnd, tOr, tAndV, tOrV, tNotV, tIf, tCons, tNil, tCB, tCall, tChain, tAug, ipI, rI, rI0, rU, rIs, rGcd, rEq, rNe, scal,
  List.getElem?_cons_zero, List.getElem?_cons_succ, List.set_cons_zero, List.set_cons_succ, Option.some.injEq, List.cons.injEq, V.int.injEq, V.bl.injEq, V.ref.injEq, V.str.injEq, and_true, true_and, exists_eq_left, exists_eq_left', exists_and_left, exists_and_right, List.append_nil, List.nil_append, List.cons_append, exists_eq_right, exists_eq_right', and_assoc, exists_const, V.ty.injEq, ↓reduceIte, Bool.false_eq_true, Bool.not_true, Bool.not_false, decide_eq_true_eq])

section
variable {P : Program} {w : World} {K : PySem.W.Frag} {mg : Str → Option Value} {base : Heap}

theorem rgV0 (k : Nat) : rgV 0 (k : Nat) = vn (List.range k) := by
  unfold rgV vn
  rw [show ((k : Int) - 0).toNat = k by omega]
  refine List.map_congr_left fun i _ => ?_
  rw [Int.zero_add]
def sp_sum_exponents : Sp := fun vs H Q _ => ∃ p a c : Nat, vs = [.int p, .int a, .int c] ∧ (a ≤ 20000 ∧ c ≤ 20000) ∧ ∀ l, H l = none → Q (.ref l) (upd H l (.lst (vn (sumE p a c))))
def kvR (rs : List (Nat × Nat)) : List (Key × V) := rs.map fun r => ((Sum.inl (r.1 : Int) : Key), V.int (r.2 : Nat))
theorem mergeK_vals {G : Key → V} : ∀ (more base : List (Key × V)) (k : Key), (∀ kv ∈ more, kv.2 = G kv.1) → valV (mergeK base more) k = if ∃ kv ∈ more, kv.1 = k then some (G k) else valV base k
  | [], base, k, _ => by
    rw [if_neg (by rintro ⟨_, h, _⟩; simp at h)]
    rfl
  | p :: r, base, k, h => by
    show valV (mergeK (putK base p.1 p.2) r) k = _
    rw [mergeK_vals r _ k fun kv hk => h kv (List.mem_cons_of_mem _ hk), valV_put]
    have hp := h p (List.mem_cons_self ..)
    by_cases h1 : ∃ kv ∈ r, kv.1 = k
    · obtain ⟨kv, hk, e⟩ := h1
      rw [if_pos ⟨kv, hk, e⟩, if_pos ⟨kv, List.mem_cons_of_mem _ hk, e⟩]
    · rw [if_neg h1]
      by_cases h2 : k = p.1
      · subst h2
        rw [if_pos rfl, if_pos ⟨p, List.mem_cons_self .., rfl⟩, hp]
      · rw [if_neg h2, if_neg]
        rintro ⟨kv, hk, e⟩
        rcases List.mem_cons.mp hk with rfl | hk
        · exact h2 e.symm
        · exact h1 ⟨kv, hk, e⟩
/-- how often a prime divides, by the dict of prime powers -/
theorem pp_get {n p : Nat} (hn : 1 ≤ n) (hp : isP p = true) : (valV (mergeK [] (kvR (ppL n))) (Sum.inl (p : Int) : Key)).getD (.int 0) = .int (vl p n : Nat) := by
  rw [mergeK_vals (G := fun k => match k with | .inl i => V.int (vl i.toNat n : Nat) | .inr _ => .non) _ _ _ fun kv hk => by
    obtain ⟨r, hr, rfl⟩ := List.mem_map.mp hk
    show V.int (r.2 : Nat) = V.int (vl ((r.1 : Int)).toNat n : Nat)
    rw [Int.toNat_natCast, (ppL_mem hr).2.2]]
  by_cases h : p ∣ n
  · rw [if_pos ⟨((Sum.inl (p : Int) : Key), V.int (vl p n : Nat)), List.mem_map.mpr ⟨(p, vl p n), mem_ppL hn hp h, rfl⟩, rfl⟩]
    show (some (V.int (vl ((p : Int)).toNat n : Nat))).getD _ = _
    rw [Int.toNat_natCast]
    rfl
  · rw [if_neg]
    · show V.int 0 = _
      have e : vl p n = 0 := by
        unfold vl
        cases n with
        | zero => rfl
        | succ k =>
          unfold vlF
          rw [if_neg fun z => h (Nat.dvd_of_mod_eq_zero z)]
      rw [e]
      rfl
    · rintro ⟨kv, hk, e⟩
      obtain ⟨r, hr, rfl⟩ := List.mem_map.mp hk
      have e : (Sum.inl ((r.1 : Nat) : Int) : Key) = Sum.inl ((p : Nat) : Int) := e
      injection e with e
      have : r.1 = p := by omega
      exact h (this ▸ (ppL_mem hr).2.1)
theorem prs_paired {K : PySem.W.Frag} {H : Hp} : ∀ {ps : List Addr} {rs : List (Nat × Nat)}, Prs H ps rs → Paired (fun p kv => SqT K H p [kV kv.1, kv.2]) ps (kvR rs)
  | _, _, .nil => .nil
  | _, _, .cons a b => .cons (sq_tup a) (prs_paired b)
theorem vl_le {p n : Nat} : vl p n ≤ n := by
  have : ∀ f n, vlF p f n ≤ f := by
    intro f
    induction f with
    | zero => intro n; exact Nat.le_refl _
    | succ f ih =>
      intro n
      unfold vlF
      split
      · exact Nat.succ_le_succ (ih _)
      · exact Nat.zero_le _
  exact this n n
theorem sumE_le {p a c B : Nat} (ha : a ≤ B) (hc : c ≤ B) : (∀ e ∈ sumE p a c, e ≤ B) ∧ (sumE p a c).length ≤ B + 1 := by
  unfold sumE
  split
  · refine ⟨fun e he => ?_, by show 1 ≤ B + 1; omega⟩
    rw [List.mem_singleton] at he
    omega
  · split
    · refine ⟨fun e he => ?_, by rw [List.length_range]; omega⟩
      have := List.mem_range.mp he
      omega
    · refine ⟨fun e he => ?_, by rw [List.length_range]; omega⟩
      have := List.mem_range.mp he
      omega
def sp_sum_denominators (T : Txt K mg) : Sp := fun vs H Q E => ∃ one two : Nat, vs = [.int one, .int two] ∧ (1 ≤ one ∧ one ≤ 5000) ∧ (1 ≤ two ∧ two ≤ 5000) ∧ sumOk one two = true ∧
  ((∀ z ∈ sumL one two, z ≤ 5000) → ∀ t H', Gr [] H H' → H' t = some (.tup (vn (sdL one two))) → Q (.ref t) H') ∧
  ((∃ z ∈ sumL one two, 5000 < z) → ∀ H1 dd, Gr [] H H1 → H1 dd = none → E (.ref T.C_TooGreat) (some dd) (upd H1 dd (.xd [("most", .int 5000)])))
theorem ok_sum_exponents (T : Txt K mg) : FnOk P w K mg base CX0 1 T.d_sum_exponents.f T.d_sum_exponents.fd ["prime", "one", "two"] sp_sum_exponents := by
  refine T.d_sum_exponents.F.ok sc_sum_exponents (fun vs H Q E h => ?_) (fun cdv A outer s H vs Q E hr h => ?_)
  · obtain ⟨p, a, c, rfl, _⟩ := h; rfl
  · have hu := hu_of hr
    refine ⟨_, (pss_cons (ps_if (pt_cmpR op_ne (pv 1) (pv 2) (nomark _)) (pss_one (ps_ret (pe_lst (pa_cons (pe_callB (call_max2 rfl) (by rfl) T.b_max (by decide +kernel) (pa_cons (pv 1) (pa_cons (pv 2) pa_nil))) pa_nil)))) pss_nil)
      (pss_cons (ps_if (pt_cmpR op_eq (pv 0) pe_int (nomark _)) (pss_one (ps_ret (pe_listRg rfl (by rfl) T.b_list (prg_1 (by rfl) T.b_range (pv 1))))) pss_nil)
      (pss_one (ps_ret (pe_listRg rfl (by rfl) T.b_list (prg_1 (by rfl) T.b_range (pe_op op_add (pv 1) pe_int))))))), ?_⟩
    obtain ⟨p, a, c, rfl, ⟨ha, hc⟩, q⟩ := h
    refine ⟨_, rfl, _, rfl, rfl, _, rfl, ?_⟩
    by_cases h : a = c
    case neg =>
      refine iteTb (by rw [Bool.not_eq_true']; exact decide_eq_false fun z => h (by have := V.int.inj z; omega)) ?_
      refine ⟨_, rfl, _, rfl, _, _, rfl, by show 1 ≤ sizeLine; decide, fun l nl => ?_⟩
      have e : sumE p a c = [max a c] := by
        unfold sumE
        rw [if_pos h]
      rw [e] at q
      have e2 : (if (c : Int) > (a : Int) then (c : Int) else (a : Int)) = ((max a c : Nat) : Int) := by
        split <;> omega
      have := q l nl
      show Q _ (upd H l (.lst [V.int (if (c : Int) > (a : Int) then (c : Int) else (a : Int))]))
      rw [e2]
      exact this
    subst h
    refine iteFb (by rw [decide_eq_true rfl]; rfl) ?_
    refine ⟨_, rfl, rfl, _, rfl, ?_⟩
    have RG : ∀ k : Nat, k ≤ 30000 → RgOk 0 (k : Int) := fun k hk => ⟨by decide, by decide, by omega, by omega⟩
    by_cases h2 : p = 2
    · subst h2
      refine iteTb (decide_eq_true rfl) ?_
      refine ⟨_, rfl, a, rfl, RG a (by omega), fun l nl => ?_⟩
      have := q l nl
      have e : sumE 2 a a = List.range a := by
        unfold sumE
        rw [if_neg (fun z => z rfl), if_pos rfl]
      rw [e] at this
      rw [rgV0]
      exact this
    · refine iteFb (decide_eq_false fun z => h2 (by have := V.int.inj z; omega)) ?_
      refine ⟨_, rfl, _, _, rfl, rfl, ((a + 1 : Nat) : Int), by rw [Int.natCast_add]; rfl, RG (a + 1) (by omega), fun l nl => ?_⟩
      have := q l nl
      have e : sumE p a a = List.range (a + 1) := by
        unfold sumE
        rw [if_neg (fun z => z rfl), if_neg h2]
      rw [e] at this
      rw [rgV0]
      exact this
theorem okX_sum_denominators (T : Txt K mg) : FnOk P w K mg base (L2.CX P w) 4 T.d_sum_denominators.f T.d_sum_denominators.fd ["one", "two"] (sp_sum_denominators T) := by
  refine T.d_sum_denominators.F.okX sc_sum_denominators (fun vs H Q E h => ?_) (fun cdv A outer s H vs Q E hr h => ?_)
  · obtain ⟨one, two, rfl, _⟩ := h; rfl
  · have hu := hu_of hr
    refine ⟨_, (pss_cons (ps_expr (pe_call (ok_need_denominator T) (hr.mono (by decide)) (by rfl) T.d_need_denominator.m T.d_need_denominator.F.kp T.d_need_denominator.b .nil pass0 (pa_cons (pv 0) pa_nil)))
      (pss_cons (ps_expr (pe_call (ok_need_denominator T) (hr.mono (by decide)) (by rfl) T.d_need_denominator.m T.d_need_denominator.F.kp T.d_need_denominator.b .nil pass0 (pa_cons (pv 1) pa_nil)))
      (pss_cons (ps_set (i := 2) sc_sum_denominators.nd rfl (by first | exact .inl rfl | exact .inr rfl) (pe_callTy (r := rDP K) (call_dP rfl) (by rfl) T.b_dict (by decide +kernel) (pa_cons (pe_call (ok_prime_powers T) (hr.mono (by decide)) (by rfl) T.d_prime_powers.m T.d_prime_powers.F.kp T.d_prime_powers.b .nil pass0 (pa_cons (pv 0) pa_nil)) pa_nil)))
      (pss_cons (ps_set (i := 3) sc_sum_denominators.nd rfl (by first | exact .inl rfl | exact .inr rfl) (pe_callTy (r := rDP K) (call_dP rfl) (by rfl) T.b_dict (by decide +kernel) (pa_cons (pe_call (ok_prime_powers T) (hr.mono (by decide)) (by rfl) T.d_prime_powers.m T.d_prime_powers.F.kp T.d_prime_powers.b .nil pass0 (pa_cons (pv 1) pa_nil)) pa_nil)))
      (pss_cons (ps_set (i := 4) sc_sum_denominators.nd rfl (by first | exact .inl rfl | exact .inr rfl) (pe_lst (pa_cons pe_int pa_nil)))
      (pss_cons (psNox (ps_for PassesOwn.never rfl (pi_list (pe_call (ok_prime_powers T) (hr.mono (by decide)) (by rfl) T.d_prime_powers.m T.d_prime_powers.F.kp T.d_prime_powers.b .nil pass0 (pa_cons (pe_callBfun cr_lcm (by rfl) T.b_lcm (pa_cons (pv 0) (pa_cons (pv 1) pa_nil))) pa_nil))) (pg_tup (by rfl) (pgs_cons (pg_name (i := 5) sc_sum_denominators.nd rfl (by first | exact .inl rfl | exact .inr rfl)) (pgs_cons (pg_name (i := 6) sc_sum_denominators.nd rfl (by first | exact .inl rfl | exact .inr rfl)) pgs_nil))) (pss_cons (ps_set (i := 7) sc_sum_denominators.nd rfl (by first | exact .inl rfl | exact .inr rfl) (pe_call (ok_sum_exponents T) (hr.mono (by decide)) (by rfl) T.d_sum_exponents.m T.d_sum_exponents.F.kp T.d_sum_exponents.b .nil pass0 (pa_cons (pv 5) (pa_cons (pe_dget2 hu (pv 2) (pv 5) pe_int ⟨by rfl, by rfl, by rfl, by rfl⟩) (pa_cons (pe_dget2 hu (pv 3) (pv 5) pe_int ⟨by rfl, by rfl, by rfl, by rfl⟩) pa_nil)))))
      (pss_cons (ps_set (i := 8) sc_sum_denominators.nd rfl (by first | exact .inl rfl | exact .inr rfl) (pe_lc (own := [("exponent", 9)]) (g := gName 9) (tt := tYes) rfl sc_sum_denominators.nd (pi_list (pv 7)) (blkOk_by (own := [("exponent", 9)]) (N := ["one", "two", "in_one", "in_two", "found", "prime", "_", "exponents", "factors", "exponent", "number", "factor"]) (sc := defScope s_sum_denominators) (by decide +kernel)) (fun _ _ _ _ _ => (pg_name (i := 9) sc_sum_denominators.nd rfl (by first | exact .inl rfl | exact .inr rfl))) (fun _ _ _ _ _ => pts_nil) (fun _ _ _ _ _ => (pe_call (ok_power T) (hr.mono (by decide)) (by rfl) T.d_power.m T.d_power.F.kp T.d_power.b .nil pass0 (pa_cons (pv 5) (pa_cons (pv 9) pa_nil))))))
      (pss_one (ps_setLc2 (i := 4) (own := [("number", 10), ("factor", 11)]) (vs1 := [11]) (g := gName 10) (g1 := gName 11) (tt := tYes) (tt1 := tYes) (wi1 := iList K (tVar 8)) rfl sc_sum_denominators.nd rfl rfl (sw_true rfl rfl rfl (by decide +kernel)) (pi_list (pv 4)) (blkOk_by (own := [("number", 10), ("factor", 11)]) (N := ["one", "two", "in_one", "in_two", "found", "prime", "_", "exponents", "factors", "exponent", "number", "factor"]) (sc := defScope s_sum_denominators) (by decide +kernel)) (by decide) (fun _ _ _ _ _ => (pg_name (i := 10) sc_sum_denominators.nd rfl (by first | exact .inl rfl | exact .inr rfl))) (fun _ _ _ _ _ => pts_nil) (fun _ _ _ _ _ => (pi_list (pv 8))) (fun _ _ _ _ _ => (pg_name (i := 11) sc_sum_denominators.nd rfl (by first | exact .inl rfl | exact .inr rfl))) (fun _ _ _ _ _ => pts_nil) (fun _ _ _ _ _ => (pe_op op_mul (pv 10) (pv 11)))))))))
      (pss_cons (ps_if (pt_cmpR op_gt (pe_callB (r := rMax K) (cr_max rfl) (by rfl) T.b_max (by decide +kernel) (pa_cons (pv 4) pa_nil)) (pe_glob (v := .int 5000) (by rfl) T.c_MOST_DENOMINATOR ⟨_, rfl⟩) (nomark _)) (pss_one (ps_raise rfl (takes_of rfl rfl rfl rfl) (pmkE T.T_TooGreat (ok_init_TooGreat T) (hr.mono (by decide)) T.b_TooGreat pass0 (by rfl) T.g_TooGreat (pa_cons (pe_glob (v := .int 5000) (by rfl) T.c_MOST_DENOMINATOR ⟨_, rfl⟩) pa_nil)))) pss_nil)
      (PSs.nox (pss_one (ps_ret (pe_callTy (r := rTpO K) call_tpO (by rfl) T.b_tuple (by decide +kernel) (pa_cons (pe_callB cr_sortedI (by rfl) T.b_sorted (by decide +kernel) (pa_cons (pv 4) pa_nil)) pa_nil)))))))))))), ?_⟩
    obtain ⟨one, two, rfl, h1, h2, hok, q, e⟩ := h
    have hlc := sumOk_lcm hok
    have hlc1 : 1 ≤ Nat.lcm one two := Nat.lcm_pos (by omega) (by omega)
    refine ⟨_, rfl, one, rfl, ⟨by omega, by omega⟩, ?_⟩
    refine ⟨_, rfl, two, rfl, ⟨by omega, by omega⟩, ?_⟩
    refine ⟨_, rfl, one, rfl, ⟨h1.1, by omega⟩, fun l1 ps1 H1 g1 hl1 hP1 => ?_⟩
    refine ⟨l1, ps1, kvR (ppL one), rfl, sq_lst hl1, prs_paired hP1, fun d1 nd1 => ?_⟩
    have gd1 := Gr.new (W := []) (o := .dK (mergeK [] (kvR (ppL one)))) nd1
    have hd1 : (upd H1 d1 (.dK (mergeK [] (kvR (ppL one))))) d1 = some (.dK (mergeK [] (kvR (ppL one)))) := upd_same
    generalize upd H1 d1 (.dK (mergeK [] (kvR (ppL one)))) = H2 at gd1 hd1 ⊢
    refine ⟨_, rfl, two, rfl, ⟨h2.1, by omega⟩, fun l2 ps2 H3 g3 hl2 hP2 => ?_⟩
    refine ⟨l2, ps2, kvR (ppL two), rfl, sq_lst hl2, prs_paired hP2, fun d2 nd2 => ?_⟩
    have gd2 := Gr.new (W := []) (o := .dK (mergeK [] (kvR (ppL two)))) nd2
    have hd2 : (upd H3 d2 (.dK (mergeK [] (kvR (ppL two))))) d2 = some (.dK (mergeK [] (kvR (ppL two)))) := upd_same
    have hd1 := gd2 d1 _ (by simp) (g3 d1 _ (by simp) hd1)
    have G4 := (g1.trans gd1).trans (g3.trans gd2)
    generalize upd H3 d2 (.dK (mergeK [] (kvR (ppL two)))) = H4 at hd1 hd2 G4 ⊢
    clear g1 gd1 g3 gd2 hl1 hP1 hl2 hP2 nd1 nd2
    refine ⟨by show 1 ≤ sizeLine; decide, fun f0 nf0 => ?_⟩
    have gf0 := Gr.new (W := []) (o := .lst [.int 1]) nf0
    have hf0 : (upd H4 f0 (.lst [.int 1])) f0 = some (.lst (vn (sumK one two 0))) := upd_same
    have hd1 := gf0 d1 _ (by simp) hd1
    have hd2 := gf0 d2 _ (by simp) hd2
    have G5 := G4.trans gf0
    generalize upd H4 f0 (.lst [.int 1]) = H5 at hd1 hd2 hf0 G5 ⊢
    clear gf0 nf0 G4
    refine ⟨_, rfl, _, rfl, one, two, rfl, ⟨by omega, by omega⟩, Nat.lcm one two, rfl, ⟨hlc1, hlc⟩, fun l3 ps3 H6 g6 hl3 hP3 => ?_⟩
    refine ⟨l3, rfl, ⟨_, sq_lst hl3⟩, ?_⟩
    refine for_list (K := K) (a := l3) (xs := ps3.map V.ref) (D := ⟨_, Q, fun _ _ => False, fun _ _ => False⟩) (fun i σ H' => Gr [] H6 H' ∧ ∃ f v5 v6 v7 v8, H' f = some (.lst (vn (sumK one two i))) ∧ σ = [some (.int one), some (.int two), some (.ref d1), some (.ref d2), some (.ref f), v5, v6, v7, v8, none, none, none]) ⟨Gr.refl _ _, f0, none, none, none, none, g6 f0 _ (by simp) hf0, rfl⟩ (fun i σ H' _ z => sq_lst (z.1 l3 _ (by simp) hl3)) ?_ ?_
    · rintro i x σ H' hx ⟨G, f, v5, v6, v7, v8, hf, rfl⟩
      have hP' := hP3.imp fun {p r} h => G p _ (by simp) h
      obtain ⟨a, hi, rfl, ha⟩ := hP'.at_ hx
      have hd1' := G d1 _ (by simp) (g6 d1 _ (by simp) hd1)
      have hd2' := G d2 _ (by simp) (g6 d2 _ (by simp) hd2)
      have hsuc := sumK_succ hi
      have hmem := List.getElem_mem hi
      have hoi := sumOk_at hok (Nat.le_of_lt hi)
      have hoi1 := sumOk_at hok hi
      generalize (ppL (Nat.lcm one two))[i] = r0 at ha hsuc hmem
      rw [hsuc] at hoi1
      obtain ⟨r1, r2, r3⟩ := ppL_mem hmem
      have r4 := (isP_iff.mp r1).1
      have r5 := Nat.le_of_dvd hlc1 r2
      refine ⟨a, _, rfl, sq_tup ha, rfl, _, _, rfl, _, _, rfl, rfl, ?_⟩
      dsimp only
      have get1 := pp_get h1.1 r1
      have get2 := pp_get h2.1 r1
      have v1 := vl_le (p := r0.1) (n := one)
      have v2 := vl_le (p := r0.1) (n := two)
      refine ⟨_, rfl, _, rfl, d1, rfl, .inl ⟨_, .inl hd1'⟩, _, rfl, _, DGet.k (k := (Sum.inl (r0.1 : Int) : Key)) hd1', ?_⟩
      rw [get1]
      refine ⟨_, rfl, d2, rfl, .inl ⟨_, .inl hd2'⟩, _, rfl, _, DGet.k (k := (Sum.inl (r0.1 : Int) : Key)) hd2', ?_⟩
      rw [get2]
      refine ⟨r0.1, vl r0.1 one, vl r0.1 two, rfl, ⟨by omega, by omega⟩, fun le nle => ?_⟩
      have gle := Gr.new (W := []) (o := .lst (vn (sumE r0.1 (vl r0.1 one) (vl r0.1 two)))) nle
      have hle : (upd H' le (.lst (vn (sumE r0.1 (vl r0.1 one) (vl r0.1 two))))) le = some (.lst (vn (sumE r0.1 (vl r0.1 one) (vl r0.1 two)))) := upd_same
      obtain ⟨hE1, hE2⟩ := sumE_le (p := r0.1) (B := 5000) (a := vl r0.1 one) (c := vl r0.1 two) (by omega) (by omega)
      have hst : sumStep one two (sumK one two i) r0 = (sumK one two i).flatMap fun x => (sumE r0.1 (vl r0.1 one) (vl r0.1 two)).map fun e => x * r0.1 ^ e := rfl
      generalize sumE r0.1 (vl r0.1 one) (vl r0.1 two) = es at gle hle hE1 hE2 hst ⊢
      generalize upd H' le (.lst (vn es)) = H7 at gle hle ⊢
      refine ⟨_, rfl, le, rfl, ⟨_, sq_lst hle⟩, fun D nD => ?_⟩
      refine lc_list (K := K) (a := le) (xs := vn es) (fun j H'' => Gr [] H7 H'' ∧ H'' D = some (.lst (vn ((es.take j).map fun e => r0.1 ^ e)))) ⟨Gr.new nD, upd_same⟩ (fun j H'' _ z => sq_lst (z.1 le _ (by simp) hle)) ?_ ?_
      · rintro j y H'' hy ⟨G7, hD⟩
        obtain ⟨hj, rfl⟩ := vn_get hy
        have tk := List.take_succ_eq_append_getElem hj
        have hej := hE1 _ (List.getElem_mem hj)
        generalize es[j] = ej at tk hej ⊢
        refine ⟨rfl, ?_⟩
        dsimp only [tYes]
        refine iteT ?_
        refine ⟨_, rfl, _, rfl, r0.1, ej, rfl, ⟨by omega, by omega⟩, _, hD, Nat.lt_of_lt_of_le (show _ < 6000 by rw [vn_len, List.length_map, List.length_take]; omega) (by decide), fun c o _ ec => ?_, ?_⟩
        · rw [upd_ne (ne_of_none ec nD)]
          exact G7 c o (by simp) ec
        · rw [upd_same, vn_snoc, tk, List.map_append]
          rfl
      rintro H8 ⟨g8, hD⟩
      rw [vn_len, List.take_of_length_le (Nat.le_refl _)] at hD
      have hf8 := g8 f _ (by simp) (gle f _ (by simp) hf)
      have hst2 : sumStep one two (sumK one two i) r0 = (sumK one two i).flatMap fun x => (es.map fun e => r0.1 ^ e).map fun w => x * w := by
        rw [hst]
        simp only [List.map_map]
        rfl
      have hwl : (es.map fun e => r0.1 ^ e).length ≤ 5001 := by rw [List.length_map]; exact hE2
      generalize (es.map fun e => r0.1 ^ e) = ws at hD hst2 hwl
      generalize hfs : sumK one two i = fs at hf8 hoi hst2 hsuc hoi1
      rw [hst2] at hsuc hoi1
      refine ⟨_, rfl, f, rfl, ⟨_, sq_lst hf8⟩, fun F nF => ?_⟩
      refine ⟨fun i2 m H'' => m = fs.length - i2 ∧ i2 ≤ fs.length ∧ Gr [] H8 H'' ∧ H'' F = some (.lst (vn ((fs.take i2).flatMap fun x => ws.map fun w => x * w))), ⟨fs.length, by omega, Nat.zero_le _, Gr.new nF, upd_same⟩, ?_⟩
      rintro i2 m H'' ⟨rfl, hi2, G8, hF⟩
      have hf9 := G8 f _ (by simp) hf8
      rcases Nat.lt_or_eq_of_le hi2 with lt | rfl
      · refine .inr ⟨⟨_, V.int (fs[i2] : Nat), sq_lst hf9, by unfold vn; simp [lt]⟩, fun H3 => Gr [] H8 H3 ∧ H3 F = some (.lst (vn ((fs.take (i2 + 1)).flatMap fun x => ws.map fun w => x * w))), fun H3 z => ⟨fs.length - (i2 + 1), by omega, rfl, lt, z⟩, fun x H3 y => ?_⟩
        obtain ⟨e3, y⟩ := y
        subst e3
        have hx2 := y _ (sq_lst hf9)
        obtain ⟨hi3, rfl⟩ := vn_get hx2
        have tk := List.take_succ_eq_append_getElem lt
        have hxle := hoi.2.1 _ (List.getElem_mem lt)
        generalize fs[i2] = x0 at tk hxle ⊢
        refine ⟨rfl, ?_⟩
        dsimp only [tYes]
        refine iteT ?_
        have hD9 := G8 D _ (by simp) hD
        refine ⟨_, rfl, D, rfl, ⟨_, sq_lst hD9⟩, ?_⟩
        refine ⟨fun j2 m H4 => m = ws.length - j2 ∧ j2 ≤ ws.length ∧ Gr [] H8 H4 ∧ H4 F = some (.lst (vn ((fs.take i2).flatMap (fun x => ws.map fun w => x * w) ++ (ws.take j2).map fun w => x0 * w))), ⟨ws.length, by omega, Nat.zero_le _, G8, by rw [List.take_zero, List.map_nil, List.append_nil]; exact hF⟩, ?_⟩
        rintro j2 m H4 ⟨rfl, hj2, G9, hF4⟩
        have hD4 := G9 D _ (by simp) hD
        rcases Nat.lt_or_eq_of_le hj2 with ltj | rfl
        · refine .inr ⟨⟨_, V.int (ws[j2] : Nat), sq_lst hD4, by unfold vn; simp [ltj]⟩, fun H5 => Gr [] H8 H5 ∧ H5 F = some (.lst (vn ((fs.take i2).flatMap (fun x => ws.map fun w => x * w) ++ (ws.take (j2 + 1)).map fun w => x0 * w))), fun H5 z => ⟨ws.length - (j2 + 1), by omega, rfl, ltj, z⟩, fun x H5 y => ?_⟩
          obtain ⟨e5, y⟩ := y
          subst e5
          obtain ⟨hj3, rfl⟩ := vn_get (y _ (sq_lst hD4))
          have tkj := List.take_succ_eq_append_getElem ltj
          generalize ws[j2] = w0 at tkj ⊢
          refine ⟨rfl, ?_⟩
          dsimp only [tYes]
          refine iteT ?_
          refine ⟨_, rfl, _, rfl, _, _, rfl, rfl, .inl ⟨by omega, by omega⟩, ?_⟩
          refine ⟨_, hF4, ?_, fun c o _ ec => ?_, ?_⟩
          · have hlen : ((fs.take i2).flatMap (fun x => ws.map fun w => x * w) ++ (ws.take j2).map fun w => x0 * w).length ≤ 1000000 + 5001 := by
              rw [List.length_append, List.length_map, List.length_take]
              have : ((fs.take i2).flatMap fun x => ws.map fun w => x * w).length ≤ (fs.flatMap fun x => ws.map fun w => x * w).length := by
                conv => rhs; rw [← List.take_append_drop i2 fs, List.flatMap_append, List.length_append]
                omega
              omega
            rw [vn_len]
            exact Nat.lt_of_lt_of_le (show _ < 2000000 by omega) (by decide)
          · rw [upd_ne (ne_of_none ec nF)]
            exact G9 c o (by simp) ec
          · have e9 : V.int ((x0 : Int) * (w0 : Int)) = V.int ((x0 * w0 : Nat) : Int) := by rw [Int.natCast_mul]
            rw [upd_same, tkj, List.map_append, ← List.append_assoc]
            show some (HO.lst (vn _ ++ [V.int ((x0 : Int) * (w0 : Int))])) = _
            rw [e9, vn_snoc]
            rfl
        · refine .inl ⟨⟨_, sq_lst hD4, by rw [vn_len]; exact Nat.le_refl _⟩, G9, ?_⟩
          rw [hF4, List.take_length, tk, List.flatMap_append]
          simp
      · refine .inl ⟨⟨_, sq_lst hf9, by rw [vn_len]; exact Nat.le_refl _⟩, ?_⟩
        rw [List.take_length, ← hsuc] at hF
        exact ⟨((G.trans gle).trans g8).trans G8, F, _, _, _, _, hF, rfl⟩
    rintro σ H7 ⟨G, f, v5, v6, v7, v8, hf, rfl⟩
    have hl := hP3.len
    rw [List.length_map, hl, sumK_all] at hf
    have hoa := sumOk_at hok (Nat.le_refl _)
    rw [sumK_all] at hoa
    have G7 := (G5.trans g6).trans G
    refine ⟨_, rfl, f, ni (sumL one two), rfl, sq_lst (by rw [← vn_ni]; exact hf), by unfold ni; rw [List.length_map]; omega, fun mx hm1 hm2 => ?_⟩
    have hmx : ∃ z ∈ sumL one two, mx = (z : Int) := by
      unfold ni at hm1
      obtain ⟨z, hz, rfl⟩ := List.mem_map.mp hm1
      exact ⟨z, hz, rfl⟩
    obtain ⟨z, hz, rfl⟩ := hmx
    refine ⟨_, 5000, rfl, rfl, _, rfl, ?_⟩
    by_cases hgt : 5000 < z
    · refine iteTb (decide_eq_true (show (5000 : Int) < (z : Int) by omega)) ?_
      exact mk1_go fun dd nd => e ⟨z, hz, hgt⟩ H7 dd G7 nd
    refine iteFb (decide_eq_false (show ¬ (5000 : Int) < (z : Int) by omega)) ?_
    have hall : ∀ y ∈ sumL one two, y ≤ 5000 := fun y hy => by
      have := hm2 (y : Int) (by unfold ni; exact List.mem_map.mpr ⟨y, hy, rfl⟩)
      omega
    refine ⟨_, rfl, f, ni (sumL one two), rfl, sq_lst (by rw [← vn_ni]; exact hf), fun ns p hp hs np => ?_⟩
    have es := srt_is hp hs
    subst es
    have gp := Gr.new (W := []) (o := .lst ((ni (srtN (sumL one two))).map V.int)) np
    have hpp : (upd H7 p (.lst ((ni (srtN (sumL one two))).map V.int))) p = some (.lst (vn (sdL one two))) := by
      rw [upd_same, ← vn_ni]
      rfl
    generalize upd H7 p (.lst ((ni (srtN (sumL one two))).map V.int)) = H8 at gp hpp ⊢
    refine ⟨p, _, rfl, .inl ⟨sq_lst hpp, fun t nt => ?_⟩⟩
    exact q hall t _ ((G7.trans gp).trans (Gr.new nt)) upd_same

end
end Wn
namespace Wn
open PySem PySem.Spec PyProof.Rows L2
open LamX (Tabs ExtN tLam)
local macro_rules | `(tactic| walk_at "vc") => `(tactic| simp only [cxK, cxK2, start1, start2, start3, tRet, tRetN, tSeq, tNext, tIfS, tAsg, gName, tDrop, tVar, tC, tOp, tUn, tTest, tB, tNot, tAnd, tOr, tAndV, tOrV, tNotV, tIf, tCons, tNil, tCB, tCall, tChain, tAug, ipI, rI, rI0, rU, rIs, rGcd, rEq, rNe, scal,
  List.getElem?_cons_zero, List.getElem?_cons_succ, List.set_cons_zero, List.set_cons_succ, Option.some.injEq, List.cons.injEq, V.int.injEq, V.bl.injEq, V.ref.injEq, V.str.injEq, and_true, true_and, exists_eq_left, exists_eq_left', exists_and_left, exists_and_right, List.append_nil, List.nil_append, List.cons_append, exists_eq_right, exists_eq_right', and_assoc, exists_const, V.ty.injEq, ↓reduceIte, Bool.false_eq_true, Bool.not_true, Bool.not_false, decide_eq_true_eq])

section
variable {P : Program} {w : World} {K : PySem.W.Frag} {mg : Str → Option Value} {base : Heap}

open Classical in
noncomputable def perF (b n : Nat) : Nat := if h : ∃ L, ∃ p, IsPure b n p ∧ IsPer b p L then Classical.choose h else 0
theorem perF_eq {b n p L : Nat} (hp : IsPure b n p) (hL : IsPer b p L) : perF b n = L := by
  unfold perF
  have h : ∃ L, ∃ p, IsPure b n p ∧ IsPer b p L := ⟨L, p, hp, hL⟩
  rw [dif_pos h]
  obtain ⟨p', h1, h2⟩ := Classical.choose_spec h
  obtain rfl := h1.uniq hp
  exact h2.uniq hL
theorem sum_posF {one two : Nat} : ∀ (rows : List (Nat × Nat)) (fs : List Nat), (∀ r ∈ rows, 1 ≤ r.1) → (∀ x ∈ fs, 1 ≤ x) → ∀ z ∈ rows.foldl (sumStep one two) fs, 1 ≤ z
  | [], fs, _, h, z, hz => h z hz
  | r :: rows, fs, hr, h, z, hz => by
    refine sum_posF rows (sumStep one two fs r) (fun r' h' => hr r' (List.mem_cons_of_mem _ h')) (fun x hx => ?_) z hz
    unfold sumStep at hx
    obtain ⟨y, hy, hx⟩ := List.mem_flatMap.mp hx
    obtain ⟨e, _, rfl⟩ := List.mem_map.mp hx
    have := h y hy
    have := hr r (List.mem_cons_self ..)
    exact Nat.mul_pos (by omega) (Nat.pow_pos (by omega))
theorem sum_pos {one two z : Nat} (hz : z ∈ sumL one two) : 1 ≤ z := by
  refine sum_posF _ _ (fun r hr => ?_) (fun x hx => ?_) z hz
  · have := (isP_iff.mp (ppL_mem hr).1).1
    omega
  · rw [List.mem_singleton] at hx
    omega
theorem sdL_mem {one two z : Nat} : z ∈ sdL one two ↔ z ∈ sumL one two := (srtN_perm _).mem_iff
theorem sdL_len {one two : Nat} : (sdL one two).length = (sumL one two).length := (srtN_perm _).length_eq
noncomputable def spL (b one two : Nat) : List Nat := setN ((sdL one two).map (perF b))
def exD (one two y : Nat) : PyData := .tuple [.tuple [.int (1 % one : Nat), .int (one : Nat)], .tuple [.int (y : Nat), .int (two : Nat)]]
def sp_sum_periods (T : Txt K mg) : Sp := fun vs H Q E => ∃ b one two : Nat, vs = [.int b, .int one, .int two] ∧ (2 ≤ b ∧ b ≤ 1000) ∧ (1 ≤ one ∧ one ≤ 5000) ∧ (1 ≤ two ∧ two ≤ 5000) ∧ sumOk one two = true ∧
  ((∀ z ∈ sumL one two, z ≤ 5000) → ∀ t H', Gr [] H H' → H' t = some (.tup (vn (spL b one two))) → Q (.ref t) H') ∧
  ((∃ z ∈ sumL one two, 5000 < z) → ∀ H1 dd, Gr [] H H1 → H1 dd = none → E (.ref T.C_TooGreat) (some dd) (upd H1 dd (.xd [("most", .int 5000)])))
def sp_sum_denominator : Sp := fun vs H Q _ => ∃ (a c : Addr) (x n y m : Nat), vs = [.ref a, .ref c] ∧ H a = some (.tup [.int (x : Nat), .int (n : Nat)]) ∧ H c = some (.tup [.int (y : Nat), .int (m : Nat)]) ∧ (1 ≤ n ∧ n ≤ 5000) ∧ (1 ≤ m ∧ m ≤ 5000) ∧ (x ≤ 5000 ∧ y ≤ 5000) ∧ Q (.int (sdn x n y m : Nat)) H
def sp_sum_example (T : Txt K mg) : Sp := fun vs H Q E => ∃ one two d : Nat, vs = [.int one, .int two, .int d] ∧ (1 ≤ one ∧ one ≤ 5000) ∧ (1 ≤ two ∧ two ≤ 5000) ∧ (1 ≤ d ∧ d ≤ 5000) ∧
  (∀ y, exF one two d = some y → ∀ v H', Gr [] H H' → Dp K H' v (exD one two y) → Q v H') ∧
  (exF one two d = none → ∀ H1 dd, Gr [] H H1 → H1 dd = none → E (.ref T.C_Nothing) (some dd) (upd H1 dd (.xd [("value", .int (d : Nat))])))
def lowD (a u : Nat) : PyData := .tuple [.int ((lowN a u).1 : Nat), .int ((lowN a u).2 : Nat)]
def sp_added (T : Txt K mg) : Sp := fun vs H Q E => ∃ (a c : Addr) (x n y m : Nat), vs = [.ref a, .ref c] ∧ H a = some (.tup [.int (x : Nat), .int (n : Nat)]) ∧ H c = some (.tup [.int (y : Nat), .int (m : Nat)]) ∧ (1 ≤ n ∧ n ≤ 5000) ∧ (1 ≤ m ∧ m ≤ 5000) ∧ (x ≤ 5000 ∧ y ≤ 5000) ∧
  ((lowN (x * m + y * n) (n * m)).2 ≤ 5000 → ∀ v H', Gr [] H H' → Dp K H' v (lowD (x * m + y * n) (n * m)) → Q v H') ∧
  (5000 < (lowN (x * m + y * n) (n * m)).2 → ∀ H1 dd, Gr [] H H1 → H1 dd = none → E (.ref T.C_TooGreat) (some dd) (upd H1 dd (.xd [("most", .int 5000)])))
def FrP (x n : Nat) : Prop := x < n ∧ n ≤ 5000 ∧ Nat.gcd x n = 1
def sp_sum_of (T : Txt K mg) : Sp := fun vs H Q E => ∃ (a c : Addr) (x n y m : Nat), vs = [.ref a, .ref c] ∧ H a = some (.tup [.int (x : Nat), .int (n : Nat)]) ∧ H c = some (.tup [.int (y : Nat), .int (m : Nat)]) ∧ FrP x n ∧ FrP y m ∧
  ((lowN (x * m + y * n) (n * m)).2 ≤ 5000 → ∀ v H', Gr [] H H' → Dp K H' v (lowD (x * m + y * n) (n * m)) → Q v H') ∧
  (5000 < (lowN (x * m + y * n) (n * m)).2 → ∀ H1 dd, Gr [] H H1 → H1 dd = none → E (.ref T.C_TooGreat) (some dd) (upd H1 dd (.xd [("most", .int 5000)])))
theorem okX_sum_periods (T : Txt K mg) : FnOk P w K mg base (L2.CX P w) 6 T.d_sum_periods.f T.d_sum_periods.fd ["base", "one", "two"] (sp_sum_periods T) := by
  refine T.d_sum_periods.F.okX sc_sum_periods (fun vs H Q E h => ?_) (fun cdv A outer s H vs Q E hr h => ?_)
  · obtain ⟨b, one, two, rfl, _⟩ := h; rfl
  · have hu := hu_of hr
    refine ⟨_, (pss_cons (ps_expr (pe_call (ok_need_base T) (hr.mono (by decide)) (by rfl) T.d_need_base.m T.d_need_base.F.kp T.d_need_base.b .nil pass0 (pa_cons (pv 0) pa_nil)))
      (pss_one (ps_ret (pe_callTy (r := rTpO K) call_tpO (by rfl) T.b_tuple (by decide +kernel) (pa_cons (pe_callB (r := rSortedSetB w) (cr_sortedSetB rfl) (by rfl) T.b_sorted (by decide +kernel) (pa_cons (pe_callTy (r := rSetL K w) (call_setL rfl) (by rfl) T.b_set (by decide +kernel) (pa_cons (pe_lc (own := [("denominator", 3)]) (g := gName 3) (tt := tYes) rfl sc_sum_periods.nd (pi_tup (pe_call (okX_sum_denominators T) (hr.mono (by decide)) (by rfl) T.d_sum_denominators.m T.d_sum_denominators.F.kp T.d_sum_denominators.b .nil (passes_call (takes_of rfl rfl rfl rfl) (fun _ _ _ _ z => z)) (pa_cons (pv 1) (pa_cons (pv 2) pa_nil)))) (blkOk_by (own := [("denominator", 3)]) (N := ["base", "one", "two", "denominator"]) (sc := defScope s_sum_periods) (by decide +kernel)) (fun _ _ _ _ _ => (pg_name (i := 3) sc_sum_periods.nd rfl (by first | exact .inl rfl | exact .inr rfl))) (fun _ _ _ _ _ => pts_nil) (fun _ _ _ _ _ => (pe_call (ok_period T) (hr.mono (by decide)) (by rfl) T.d_period.m T.d_period.F.kp T.d_period.b .nil pass0 (pa_cons (pv 0) (pa_cons (pv 3) pa_nil))))) pa_nil)) pa_nil)) pa_nil))))), ?_⟩
    obtain ⟨b, one, two, rfl, hb, h1, h2, hok, q, e⟩ := h
    refine ⟨_, rfl, b, rfl, ⟨by omega, by omega⟩, ?_⟩
    refine ⟨_, rfl, _, rfl, one, two, rfl, h1, h2, hok, fun hall t H1 g1 ht => ?_, fun hgt H1 dd g1 nd => e hgt H1 dd g1 nd⟩
    have hlen : (sdL one two).length ≤ 1000 := by
      have := sumOk_at hok (Nat.le_refl _)
      rw [sumK_all] at this
      rw [sdL_len]
      exact this.1
    refine ⟨t, rfl, ⟨_, sq_tup ht⟩, fun D nD => ?_⟩
    refine lc_tup (K := K) (a := t) (xs := vn (sdL one two)) (fun i H' => Gr [] H1 H' ∧ H' D = some (.lst (vn (((sdL one two).take i).map (perF b))))) ⟨Gr.new nD, upd_same⟩ (fun i H' _ z => sq_tup (z.1 t _ (by simp) ht)) ?_ ?_
    · rintro i y H' hy ⟨G, hD⟩
      obtain ⟨hi, rfl⟩ := vn_get hy
      have tk := List.take_succ_eq_append_getElem hi
      have hm := sdL_mem.mp (List.getElem_mem hi)
      generalize (sdL one two)[i] = n at tk hm ⊢
      have hn1 := sum_pos hm
      have hn2 := hall n hm
      refine ⟨rfl, ?_⟩
      dsimp only [tYes]
      refine iteT ?_
      refine ⟨_, rfl, _, rfl, b, n, rfl, ⟨hb.1, hb.2, hn1, hn2⟩, fun p d hp hd => ?_⟩
      refine ⟨_, hD, Nat.lt_of_lt_of_le (show _ < 6000 by rw [vn_len, List.length_map, List.length_take]; omega) (by decide), fun c o _ ec => ?_, ?_⟩
      · rw [upd_ne (ne_of_none ec nD)]
        exact G c o (by simp) ec
      · rw [upd_same, vn_snoc, tk, List.map_append, List.map_singleton, perF_eq hp hd]
    rintro H2 ⟨g2, hD⟩
    rw [vn_len, List.take_of_length_le (Nat.le_refl _)] at hD
    refine ⟨D, ni ((sdL one two).map (perF b)), rfl, by rw [← vn_ni]; exact sq_lst hD, by unfold ni; rw [List.length_map, List.length_map]; omega, fun s1 ks ns1 nd hk => ?_⟩
    have kl := set_len nd hk
    rw [List.length_map] at kl
    refine ⟨s1, _, _, rfl, upd_same, by omega, fun zs E2 hs hz hzl nE => ?_⟩
    have ez := asc_set hs hz (setN_asc _) (fun z => setN_mem)
    subst ez
    have g3 := (Gr.new (W := []) (o := SetO w s1 (fun j => decide (j ∈ ni ((sdL one two).map (perF b)))) ks.length) ns1).trans (Gr.new (o := .lst ((ni (setN ((sdL one two).map (perF b)))).map V.int)) nE)
    refine ⟨E2, _, rfl, .inl ⟨sq_lst upd_same, fun t2 nt => ?_⟩⟩
    rw [← vn_ni] at nt g3 ⊢
    exact q hall t2 _ (((g1.trans g2).trans g3).trans (Gr.new nt)) upd_same
theorem ok_sum_denominator (T : Txt K mg) : FnOk P w K mg base CX0 1 T.d_sum_denominator.f T.d_sum_denominator.fd ["fraction", "other"] sp_sum_denominator := by
  refine T.d_sum_denominator.F.ok sc_sum_denominator (fun vs H Q E h => ?_) (fun cdv A outer s H vs Q E hr h => ?_)
  · obtain ⟨a, c, x, n, y, m, rfl, _⟩ := h; rfl
  · have hu := hu_of hr
    refine ⟨_, (pss_cons (ps_set (i := 2) sc_sum_denominator.nd rfl (by first | exact .inl rfl | exact .inr rfl) (pe_op op_add (pe_op op_mul (pe_ix (r := rIxT K) ix_tup (pv 0) pe_int (fun _ _ => rfl)) (pe_ix (r := rIxT K) ix_tup (pv 1) pe_int (fun _ _ => rfl))) (pe_op op_mul (pe_ix (r := rIxT K) ix_tup (pv 1) pe_int (fun _ _ => rfl)) (pe_ix (r := rIxT K) ix_tup (pv 0) pe_int (fun _ _ => rfl)))))
      (pss_cons (ps_set (i := 3) sc_sum_denominator.nd rfl (by first | exact .inl rfl | exact .inr rfl) (pe_op op_mul (pe_ix (r := rIxT K) ix_tup (pv 0) pe_int (fun _ _ => rfl)) (pe_ix (r := rIxT K) ix_tup (pv 1) pe_int (fun _ _ => rfl))))
      (pss_one (ps_ret (pe_op op_fdiv (pv 3) (pe_callBfun cr_gcd (by rfl) T.b_gcd (pa_cons (pv 2) (pa_cons (pv 3) pa_nil)))))))), ?_⟩
    obtain ⟨a, c, x, n, y, m, rfl, ha, hc, hn, hm, hxy, q⟩ := h
    have m1 : x * m ≤ 5000 * 5000 := Nat.mul_le_mul hxy.1 hm.2
    have m2 : y * n ≤ 5000 * 5000 := Nat.mul_le_mul hxy.2 hn.2
    have m3 : n * m ≤ 5000 * 5000 := Nat.mul_le_mul hn.2 hm.2
    have m4 : 1 ≤ n * m := Nat.mul_pos hn.1 hm.1
    refine ⟨_, rfl, _, _, 0, _, rfl, rfl, sq_tup ha, atI_nat (j := 0) rfl, _, rfl, _, _, 1, _, rfl, rfl, sq_tup hc, atI_nat (j := 1) rfl, _, _, rfl, rfl, .inl ⟨by omega, by omega⟩, ?_⟩
    refine ⟨_, rfl, _, _, 0, _, rfl, rfl, sq_tup hc, atI_nat (j := 0) rfl, _, rfl, _, _, 1, _, rfl, rfl, sq_tup ha, atI_nat (j := 1) rfl, _, _, rfl, rfl, .inl ⟨by omega, by omega⟩, _, _, rfl, rfl, ?_⟩
    refine ⟨_, rfl, _, _, 1, _, rfl, rfl, sq_tup ha, atI_nat (j := 1) rfl, _, rfl, _, _, 1, _, rfl, rfl, sq_tup hc, atI_nat (j := 1) rfl, _, _, rfl, rfl, .inl ⟨by omega, by omega⟩, ?_⟩
    have e1 : (x : Int) * (m : Int) + (y : Int) * (n : Int) = ((x * m + y * n : Nat) : Int) := by rw [Int.natCast_add, Int.natCast_mul, Int.natCast_mul]
    have e2 : (n : Int) * (m : Int) = ((n * m : Nat) : Int) := by rw [Int.natCast_mul]
    refine ⟨_, rfl, _, rfl, _, rfl, ((x * m + y * n : Nat) : Int), ((n * m : Nat) : Int), by show [V.int ((x : Int) * (m : Int) + (y : Int) * (n : Int)), V.int ((n : Int) * (m : Int))] = _; rw [e1, e2], ?_⟩
    rw [Int.natAbs_natCast, Int.natAbs_natCast]
    have hg1 : 1 ≤ Nat.gcd (x * m + y * n) (n * m) := Nat.gcd_pos_of_pos_right _ (by omega)
    have hg2 : Nat.gcd (x * m + y * n) (n * m) ≤ n * m := Nat.gcd_le_right _ (by omega)
    refine ⟨_, _, rfl, rfl, ⟨by omega, by omega⟩, ?_⟩
    show Q (V.int ((n : Int) * (m : Int) / _)) H
    rw [e2, ← Int.natCast_ediv]
    exact q
theorem okX_sum_example (T : Txt K mg) : FnOk P w K mg base (L2.CX P w) 4 T.d_sum_example.f T.d_sum_example.fd ["one", "two", "denominator"] (sp_sum_example T) := by
  refine T.d_sum_example.F.okX sc_sum_example (fun vs H Q E h => ?_) (fun cdv A outer s H vs Q E hr h => ?_)
  · obtain ⟨one, two, d, rfl, _⟩ := h; rfl
  · have hu := hu_of hr
    refine ⟨_, (pss_cons (ps_expr (pe_call (ok_need_denominator T) (hr.mono (by decide)) (by rfl) T.d_need_denominator.m T.d_need_denominator.F.kp T.d_need_denominator.b .nil pass0 (pa_cons (pv 0) pa_nil)))
      (pss_cons (ps_expr (pe_call (ok_need_denominator T) (hr.mono (by decide)) (by rfl) T.d_need_denominator.m T.d_need_denominator.F.kp T.d_need_denominator.b .nil pass0 (pa_cons (pv 1) pa_nil)))
      (pss_cons (ps_expr (pe_call (ok_need_denominator T) (hr.mono (by decide)) (by rfl) T.d_need_denominator.m T.d_need_denominator.F.kp T.d_need_denominator.b .nil pass0 (pa_cons (pv 2) pa_nil)))
      (pss_cons (ps_set (i := 3) sc_sum_example.nd rfl (by first | exact .inl rfl | exact .inr rfl) (pe_tup (pa_cons (pe_op op_mod pe_int (pv 0)) (pa_cons (pv 0) pa_nil))))
      (pss_cons (psNox (ps_for PassesOwn.never rfl (pi_range1 (by rfl) T.b_range (pa_cons (pv 1) pa_nil)) (pg_name (i := 4) sc_sum_example.nd rfl (by first | exact .inl rfl | exact .inr rfl)) (pss_cons (ps_set (i := 5) sc_sum_example.nd rfl (by first | exact .inl rfl | exact .inr rfl) (pe_tup (pa_cons (pv 4) (pa_cons (pv 1) pa_nil))))
      (pss_one (ps_if (PW.pt (pw_and (pt_cmpR op_eq (pe_callBfun cr_gcd (by rfl) T.b_gcd (pa_cons (pv 4) (pa_cons (pv 1) pa_nil))) pe_int (nomark _)) (pw_and1 (pt_cmpR op_eq (pe_call (ok_sum_denominator T) (hr.mono (by decide)) (by rfl) T.d_sum_denominator.m T.d_sum_denominator.F.kp T.d_sum_denominator.b .nil pass0 (pa_cons (pv 3) (pa_cons (pv 5) pa_nil))) (pv 2) (nomark _))))) (pss_one (ps_ret (pe_tup (pa_cons (pv 3) (pa_cons (pv 5) pa_nil))))) pss_nil)))))
      (pss_one (ps_raise rfl (takes_of rfl rfl rfl rfl) (pmkE T.T_Nothing (ok_init_Nothing T) (hr.mono (by decide)) T.b_Nothing pass0 (by rfl) T.g_Nothing (pa_cons (pv 2) pa_nil))))))))), ?_⟩
    obtain ⟨one, two, d, rfl, h1, h2, hd, q, e⟩ := h
    refine ⟨_, rfl, one, rfl, ⟨by omega, by omega⟩, ?_⟩
    refine ⟨_, rfl, two, rfl, ⟨by omega, by omega⟩, ?_⟩
    refine ⟨_, rfl, d, rfl, ⟨by omega, by omega⟩, ?_⟩
    refine ⟨_, rfl, _, _, rfl, rfl, (show (0 : Int) < (one : Int) by omega), _, rfl, by show 2 ≤ sizeLine; decide, fun f nf => ?_⟩
    have e1 : (1 : Int) % (one : Int) = ((1 % one : Nat) : Int) := by rw [Int.natCast_emod]; rfl
    have gf : Gr [] H (upd H f (.tup [.int ((1 : Int) % (one : Int)), .int (one : Nat)])) := Gr.new nf
    have hf : (upd H f (.tup [.int ((1 : Int) % (one : Int)), .int (one : Nat)])) f = some (.tup [.int (1 % one : Nat), .int (one : Nat)]) := by
      rw [upd_same, e1]
    dsimp only
    generalize upd H f (.tup [.int ((1 : Int) % (one : Int)), .int (one : Nat)]) = H1 at gf hf ⊢
    refine ⟨_, rfl, two, rfl, by omega, by omega, ?_⟩
    refine for_range (lo := 0) (n := ((two : Int)).toNat) (D := ⟨_, Q, fun _ _ => False, fun _ _ => False⟩) (fun i σ H' => Gr [] H1 H' ∧ (∀ j, j < i → ¬ (Nat.gcd j two = 1 ∧ sdn (1 % one) one j two = d)) ∧ ∃ v4 v5, σ = [some (.int one), some (.int two), some (.int d), some (.ref f), v4, v5]) ⟨Gr.refl _ _, fun j hj => absurd hj (by omega), none, none, rfl⟩ ?_ ?_
    · rintro i σ H' hi ⟨G, hno, v4, v5, rfl⟩
      have ei : (0 : Int) + (i : Int) = ((i : Nat) : Int) := by omega
      have hi2 : i < two := by omega
      rw [ei]
      have hf' := G f _ (by simp) hf
      refine ⟨_, rfl, _, rfl, by show 2 ≤ sizeLine; decide, fun o no => ?_⟩
      have go : Gr [] H' (upd H' o (.tup [.int ((i : Nat) : Int), .int (two : Nat)])) := Gr.new no
      have ho : (upd H' o (.tup [.int ((i : Nat) : Int), .int (two : Nat)])) o = some (.tup [.int (i : Nat), .int (two : Nat)]) := upd_same
      have hf2 := go f _ (by simp) hf'
      dsimp only
      generalize upd H' o (.tup [.int ((i : Nat) : Int), .int (two : Nat)]) = H2 at go ho hf2 ⊢
      refine ⟨_, rfl, _, rfl, ((i : Nat) : Int), (two : Int), rfl, rfl, _, rfl, ?_⟩
      rw [Int.natAbs_natCast, Int.natAbs_natCast]
      by_cases hg : Nat.gcd i two = 1
      case neg =>
        refine iteFb (decide_eq_false fun z => hg (by have := V.int.inj z; omega)) (iteF ?_)
        refine ⟨G.trans go, fun j hj => ?_, _, _, rfl⟩
        rcases Nat.lt_succ_iff_lt_or_eq.mp hj with hj | rfl
        · exact hno j hj
        · exact fun z => hg z.1
      refine iteTb (decide_eq_true (by rw [hg]; rfl)) ?_
      refine ⟨_, rfl, _, rfl, f, o, 1 % one, one, i, two, rfl, hf2, ho, h1, h2, ⟨by have := Nat.mod_lt 1 (show 0 < one by omega); omega, by omega⟩, ?_⟩
      refine ⟨_, rfl, rfl, _, rfl, ?_⟩
      by_cases hs : sdn (1 % one) one i two = d
      case neg =>
        refine iteFb (decide_eq_false fun z => hs (by have := V.int.inj z; omega)) ?_
        refine ⟨G.trans go, fun j hj => ?_, _, _, rfl⟩
        rcases Nat.lt_succ_iff_lt_or_eq.mp hj with hj | rfl
        · exact hno j hj
        · exact fun z => hs z.2
      refine iteTb (decide_eq_true (by rw [hs])) ?_
      refine ⟨_, rfl, _, rfl, by show 2 ≤ sizeLine; decide, fun r nr => ?_⟩
      have gr : Gr [] H2 (upd H2 r (.tup [.ref f, .ref o])) := Gr.new nr
      have hex : exF one two d = some i := by
        unfold exF
        rw [List.find?_range_eq_some]
        refine ⟨by rw [decide_eq_true hg, decide_eq_true hs]; rfl, List.mem_range.mpr hi2, fun j hj => ?_⟩
        have := hno j hj
        by_cases ga : Nat.gcd j two = 1
        · rw [decide_eq_true ga, decide_eq_false fun z => this ⟨ga, z⟩]
          rfl
        · rw [decide_eq_false ga]
          rfl
      exact q i hex _ _ (((gf.trans G).trans go).trans gr) (dp_tup upd_same (.cons (dp_tup (gr f _ (by simp) hf2) (.cons (.int _) (.cons (.int _) .nil))) (.cons (dp_tup (gr o _ (by simp) ho) (.cons (.int _) (.cons (.int _) .nil))) .nil)))
    rintro σ H' ⟨G, hno, v4, v5, rfl⟩
    have hex : exF one two d = none := by
      unfold exF
      rw [List.find?_eq_none]
      intro j hj
      have := hno j (by have := List.mem_range.mp hj; omega)
      simp only [Bool.and_eq_true, decide_eq_true_eq]
      exact this
    exact ⟨_, rfl, mk1_go fun dd nd => e hex H' dd (gf.trans G) nd⟩
theorem okX_added (T : Txt K mg) : FnOk P w K mg base (L2.CX P w) 4 T.d_added.f T.d_added.fd ["fraction", "other"] (sp_added T) := by
  refine T.d_added.F.okX sc_added (fun vs H Q E h => ?_) (fun cdv A outer s H vs Q E hr h => ?_)
  · obtain ⟨a, c, x, n, y, m, rfl, _⟩ := h; rfl
  · have hu := hu_of hr
    refine ⟨_, (pss_cons (ps_set (i := 2) sc_added.nd rfl (by first | exact .inl rfl | exact .inr rfl) (pe_op op_add (pe_op op_mul (pe_ix (r := rIxT K) ix_tup (pv 0) pe_int (fun _ _ => rfl)) (pe_ix (r := rIxT K) ix_tup (pv 1) pe_int (fun _ _ => rfl))) (pe_op op_mul (pe_ix (r := rIxT K) ix_tup (pv 1) pe_int (fun _ _ => rfl)) (pe_ix (r := rIxT K) ix_tup (pv 0) pe_int (fun _ _ => rfl)))))
      (pss_cons (ps_set (i := 3) sc_added.nd rfl (by first | exact .inl rfl | exact .inr rfl) (pe_op op_mul (pe_ix (r := rIxT K) ix_tup (pv 0) pe_int (fun _ _ => rfl)) (pe_ix (r := rIxT K) ix_tup (pv 1) pe_int (fun _ _ => rfl))))
      (pss_cons (ps_set (i := 4) sc_added.nd rfl (by first | exact .inl rfl | exact .inr rfl) (pe_op op_mod (pv 2) (pv 3)))
      (pss_cons (ps_set (i := 5) sc_added.nd rfl (by first | exact .inl rfl | exact .inr rfl) (pe_callBfun cr_gcd (by rfl) T.b_gcd (pa_cons (pv 4) (pa_cons (pv 3) pa_nil))))
      (pss_cons (ps_if (pt_cmpR op_gt (pe_op op_fdiv (pv 3) (pv 5)) (pe_glob (v := .int 5000) (by rfl) T.c_MOST_DENOMINATOR ⟨_, rfl⟩) (nomark _)) (pss_one (ps_raise rfl (takes_of rfl rfl rfl rfl) (pmkE T.T_TooGreat (ok_init_TooGreat T) (hr.mono (by decide)) T.b_TooGreat pass0 (by rfl) T.g_TooGreat (pa_cons (pe_glob (v := .int 5000) (by rfl) T.c_MOST_DENOMINATOR ⟨_, rfl⟩) pa_nil)))) pss_nil)
      (PSs.nox (pss_one (ps_ret (pe_tup (pa_cons (pe_op op_fdiv (pv 4) (pv 5)) (pa_cons (pe_op op_fdiv (pv 3) (pv 5)) pa_nil))))))))))), ?_⟩
    obtain ⟨a, c, x, n, y, m, rfl, ha, hc, hn, hm, hxy, q, e⟩ := h
    have m1 : x * m ≤ 5000 * 5000 := Nat.mul_le_mul hxy.1 hm.2
    have m2 : y * n ≤ 5000 * 5000 := Nat.mul_le_mul hxy.2 hn.2
    have m3 : n * m ≤ 5000 * 5000 := Nat.mul_le_mul hn.2 hm.2
    have m4 : 1 ≤ n * m := Nat.mul_pos hn.1 hm.1
    refine ⟨_, rfl, _, _, 0, _, rfl, rfl, sq_tup ha, atI_nat (j := 0) rfl, _, rfl, _, _, 1, _, rfl, rfl, sq_tup hc, atI_nat (j := 1) rfl, _, _, rfl, rfl, .inl ⟨by omega, by omega⟩, ?_⟩
    refine ⟨_, rfl, _, _, 0, _, rfl, rfl, sq_tup hc, atI_nat (j := 0) rfl, _, rfl, _, _, 1, _, rfl, rfl, sq_tup ha, atI_nat (j := 1) rfl, _, _, rfl, rfl, .inl ⟨by omega, by omega⟩, _, _, rfl, rfl, ?_⟩
    refine ⟨_, rfl, _, _, 1, _, rfl, rfl, sq_tup ha, atI_nat (j := 1) rfl, _, rfl, _, _, 1, _, rfl, rfl, sq_tup hc, atI_nat (j := 1) rfl, _, _, rfl, rfl, .inl ⟨by omega, by omega⟩, ?_⟩
    have e1 : (x : Int) * (m : Int) + (y : Int) * (n : Int) = ((x * m + y * n : Nat) : Int) := by rw [Int.natCast_add, Int.natCast_mul, Int.natCast_mul]
    have e2 : (n : Int) * (m : Int) = ((n * m : Nat) : Int) := by rw [Int.natCast_mul]
    dsimp only
    rw [e1, e2]
    generalize hA : x * m + y * n = A at q e ⊢
    generalize hU : n * m = U at q e m3 m4 ⊢
    refine ⟨_, rfl, _, rfl, _, _, rfl, rfl, (show (0 : Int) < (U : Int) by omega), ?_⟩
    dsimp only
    rw [← Int.natCast_emod]
    refine ⟨_, rfl, _, rfl, ((A % U : Nat) : Int), (U : Int), rfl, ?_⟩
    rw [Int.natAbs_natCast, Int.natAbs_natCast]
    have hg1 : 1 ≤ Nat.gcd (A % U) U := Nat.gcd_pos_of_pos_right _ (by omega)
    have hg2 : Nat.gcd (A % U) U ≤ U := Nat.gcd_le_right _ (by omega)
    refine ⟨_, rfl, _, rfl, _, _, rfl, rfl, ⟨by omega, by omega⟩, _, 5000, rfl, rfl, _, rfl, ?_⟩
    dsimp only
    rw [← Int.natCast_ediv]
    by_cases hgt : 5000 < U / Nat.gcd (A % U) U
    · refine iteTb (decide_eq_true (show (5000 : Int) < ((U / Nat.gcd (A % U) U : Nat) : Int) by omega)) ?_
      exact mk1_go fun dd nd => e hgt H dd (Gr.refl _ _) nd
    refine iteFb (decide_eq_false (show ¬ (5000 : Int) < ((U / Nat.gcd (A % U) U : Nat) : Int) by omega)) ?_
    refine ⟨_, rfl, _, rfl, _, _, rfl, rfl, ⟨by omega, by omega⟩, _, rfl, _, rfl, _, _, rfl, rfl, ⟨by omega, by omega⟩, by show 2 ≤ sizeLine; decide, fun t nt => ?_⟩
    refine q (by show U / Nat.gcd (A % U) U ≤ 5000; omega) _ _ (Gr.new nt) ?_
    refine dp_tup upd_same ?_
    dsimp only
    rw [← Int.natCast_ediv, ← Int.natCast_ediv]
    exact .cons (.int _) (.cons (.int _) .nil)
theorem okX_sum_of (T : Txt K mg) : FnOk P w K mg base (L2.CX P w) 5 T.d_sum_of.f T.d_sum_of.fd ["fraction", "other"] (sp_sum_of T) := by
  refine T.d_sum_of.F.okX sc_sum_of (fun vs H Q E h => ?_) (fun cdv A outer s H vs Q E hr h => ?_)
  · obtain ⟨a, c, x, n, y, m, rfl, _⟩ := h; rfl
  · have hu := hu_of hr
    refine ⟨_, (pss_one (ps_ret (pe_call (okX_added T) (hr.mono (by decide)) (by rfl) T.d_added.m T.d_added.F.kp T.d_added.b .nil (passes_call (takes_of rfl rfl rfl rfl) (fun _ _ _ _ z => z)) (pa_cons (pe_call (ok_need_fraction T) (hr.mono (by decide)) (by rfl) T.d_need_fraction.m T.d_need_fraction.F.kp T.d_need_fraction.b .nil pass0 (pa_cons (pv 0) pa_nil)) (pa_cons (pe_call (ok_need_fraction T) (hr.mono (by decide)) (by rfl) T.d_need_fraction.m T.d_need_fraction.F.kp T.d_need_fraction.b .nil pass0 (pa_cons (pv 1) pa_nil)) pa_nil))))), ?_⟩
    obtain ⟨a, c, x, n, y, m, rfl, ha, hc, hx, hy, q, e⟩ := h
    obtain ⟨hx1, hx2, hx3⟩ := id hx
    obtain ⟨hy1, hy2, hy3⟩ := id hy
    refine ⟨_, rfl, a, x, n, rfl, ha, hx, ?_⟩
    refine ⟨_, rfl, c, y, m, rfl, hc, hy, ?_⟩
    exact ⟨a, c, x, n, y, m, rfl, ha, hc, ⟨by omega, hx2⟩, ⟨by omega, hy2⟩, ⟨by omega, by omega⟩, q, e⟩

end
end Wn
/-! the sum denominators of all denominators up to 36, each looked at -/
namespace Wn
open PySem PySem.Spec PyProof.Rows L2
def cpL (n : Nat) : List Nat := (List.range n).filter fun k => decide (Nat.gcd k n = 1)
def ascB : List Nat → Bool
  | [] => true
  | [_] => true
  | x :: y :: r => Nat.blt x y && ascB (y :: r)
theorem ascB_is : ∀ {xs : List Nat}, ascB xs = true → xs.Pairwise (· < ·)
  | [], _ => List.Pairwise.nil
  | [x], _ => List.pairwise_singleton _ _
  | x :: y :: r, h => by
    unfold ascB at h
    rw [Bool.and_eq_true] at h
    have ih := ascB_is h.2
    have hxy : x < y := Nat.le_of_ble_eq_true h.1
    rw [List.pairwise_cons]
    refine ⟨fun z hz => ?_, ih⟩
    rcases List.mem_cons.mp hz with rfl | hz
    · exact hxy
    · rw [List.pairwise_cons] at ih
      exact Nat.lt_trans hxy (ih.1 z hz)
def sdTab : List (List (List (List Nat))) := [[[[1], [2], [3], [4], [5], [6]], [[2], [1], [6], [4], [10], [3]], [[3], [6], [1, 3], [12], [15], [2, 6]], [[4], [4], [12], [1, 2], [20], [12]], [[5], [10], [15], [20], [1, 5], [30]], [[6], [3], [2, 6], [12], [30], [1, 3]]],
  [[[1], [4], [3], [8], [5], [12]], [[4], [1, 2], [12], [8], [20], [3, 6]], [[3], [12], [1, 3], [24], [15], [4, 12]], [[8], [8], [24], [1, 2, 4], [40], [24]], [[5], [20], [15], [40], [1, 5], [60]], [[12], [3, 6], [4, 12], [24], [60], [1, 2, 3, 6]]],
  [[[1, 3], [2, 6], [9], [4, 12], [5, 15], [18]], [[2, 6], [1, 3], [18], [4, 12], [10, 30], [9]], [[9], [18], [1, 3, 9], [36], [45], [2, 6, 18]], [[4, 12], [4, 12], [36], [1, 2, 3, 6], [20, 60], [36]], [[5, 15], [10, 30], [45], [20, 60], [1, 3, 5, 15], [90]], [[18], [9], [2, 6, 18], [36], [90], [1, 3, 9]]],
  [[[1, 2], [8], [3, 6], [16], [5, 10], [24]], [[8], [1, 2, 4], [24], [16], [40], [3, 6, 12]], [[3, 6], [24], [1, 2, 3, 6], [48], [15, 30], [8, 24]], [[16], [16], [48], [1, 2, 4, 8], [80], [48]], [[5, 10], [40], [15, 30], [80], [1, 2, 5, 10], [120]], [[24], [3, 6, 12], [8, 24], [48], [120], [1, 2, 3, 4, 6, 12]]],
  [[[1, 5], [2, 10], [3, 15], [4, 20], [25], [6, 30]], [[2, 10], [1, 5], [6, 30], [4, 20], [50], [3, 15]], [[3, 15], [6, 30], [1, 3, 5, 15], [12, 60], [75], [2, 6, 10, 30]], [[4, 20], [4, 20], [12, 60], [1, 2, 5, 10], [100], [12, 60]], [[25], [50], [75], [100], [1, 5, 25], [150]], [[6, 30], [3, 15], [2, 6, 10, 30], [12, 60], [150], [1, 3, 5, 15]]],
  [[[1, 3], [4, 12], [9], [8, 24], [5, 15], [36]], [[4, 12], [1, 2, 3, 6], [36], [8, 24], [20, 60], [9, 18]], [[9], [36], [1, 3, 9], [72], [45], [4, 12, 36]], [[8, 24], [8, 24], [72], [1, 2, 3, 4, 6, 12], [40, 120], [72]], [[5, 15], [20, 60], [45], [40, 120], [1, 3, 5, 15], [180]], [[36], [9, 18], [4, 12, 36], [72], [180], [1, 2, 3, 6, 9, 18]]]]
/-- all that is asked of two denominators -/
def chkP (one two : Nat) (S : List Nat) (xs ys : List Nat) : Bool :=
  decide (sdL one two = S) && sumOk one two && (S.all fun z => decide (1 ≤ z) && decide (z ≤ 5000)) && decide (S.length < 64) && ascB S && (xs.all fun x => ys.all fun y => S.any fun z => Nat.beq z (sdn x one y two)) && (S.all fun z => ys.any fun y => Nat.beq z (sdn (1 % one) one y two))
def tabS (h a c : Nat) : List Nat := ((sdTab.getD h []).getD a []).getD c []
theorem chk_all : ((List.range 6).all fun h => (List.range 6).all fun a => (List.range 6).all fun c => chkP ((h + 1) * (a + 1)) ((h + 1) * (c + 1)) (tabS h a c) (cpL ((h + 1) * (a + 1))) (cpL ((h + 1) * (c + 1)))) = true := by decide +kernel
theorem tab_sym : ((List.range 6).all fun h => (List.range 6).all fun a => (List.range 6).all fun c => decide (tabS h a c = tabS h c a)) = true := by decide +kernel
/-- what holds of two denominators of a kind -/
structure SmP (one two : Nat) : Prop where
  ok : sumOk one two = true
  le : ∀ z ∈ sdL one two, 1 ≤ z ∧ z ≤ 5000
  len : (sdL one two).length < 64
  asc : (sdL one two).Pairwise (· < ·)
  all : ∀ x ∈ cpL one, ∀ y ∈ cpL two, sdn x one y two ∈ sdL one two
  ex : ∀ z ∈ sdL one two, ∃ y ∈ cpL two, sdn (1 % one) one y two = z
theorem smP {h a c : Nat} (hh : h < 6) (ha : a < 6) (hc : c < 6) : SmP ((h + 1) * (a + 1)) ((h + 1) * (c + 1)) ∧ sdL ((h + 1) * (a + 1)) ((h + 1) * (c + 1)) = sdL ((h + 1) * (c + 1)) ((h + 1) * (a + 1)) := by
  have h1 := List.all_eq_true.mp (List.all_eq_true.mp (List.all_eq_true.mp chk_all h (List.mem_range.mpr hh)) a (List.mem_range.mpr ha)) c (List.mem_range.mpr hc)
  have h2 := List.all_eq_true.mp (List.all_eq_true.mp (List.all_eq_true.mp chk_all h (List.mem_range.mpr hh)) c (List.mem_range.mpr hc)) a (List.mem_range.mpr ha)
  have h3 := of_decide_eq_true (List.all_eq_true.mp (List.all_eq_true.mp (List.all_eq_true.mp tab_sym h (List.mem_range.mpr hh)) a (List.mem_range.mpr ha)) c (List.mem_range.mpr hc))
  generalize (h + 1) * (a + 1) = one at h1 h2 ⊢
  generalize (h + 1) * (c + 1) = two at h1 h2 ⊢
  unfold chkP at h1 h2
  simp only [Bool.and_eq_true] at h1 h2
  obtain ⟨⟨⟨⟨⟨⟨a1, a2⟩, a3⟩, a4⟩, a5⟩, a6⟩, a7⟩ := h1
  have b1 := of_decide_eq_true h2.1.1.1.1.1.1
  have a1 := of_decide_eq_true a1
  rw [← a1] at a3 a4 a5 a6 a7
  refine ⟨⟨a2, fun z hz => ?_, of_decide_eq_true a4, ascB_is a5, fun x hx y hy => ?_, fun z hz => ?_⟩, ?_⟩
  · have := List.all_eq_true.mp a3 z hz
    simp only [Bool.and_eq_true, decide_eq_true_eq] at this
    exact this
  · obtain ⟨z, hz, e⟩ := List.any_eq_true.mp (List.all_eq_true.mp (List.all_eq_true.mp a6 x hx) y hy)
    have := Nat.eq_of_beq_eq_true e
    exact this ▸ hz
  · obtain ⟨y, hy, e⟩ := List.any_eq_true.mp (List.all_eq_true.mp a7 z hz)
    exact ⟨y, hy, (Nat.eq_of_beq_eq_true e).symm⟩
  · rw [a1, b1, h3]
end Wn
namespace Wn
open PySem PySem.Spec PyProof.Rows L2
open LamX (Tabs ExtN tLam)
local macro_rules | `(tactic| walk_at "vc") => `(tactic| simp only [cxK, cxK2, start1, start2, start3, tRet, tRetN, tSeq, tNext, tIfS, tAsg, gName, tDrop, tVar, tC, tOp, tUn, tTest, tB, tNot, tAnd, tOr, tAndV, tOrV, tNotV, tIf, tCons, tNil, tCB, tCall, tChain, tAug, ipI, rI, rI0, rU, rIs, rGcd, rEq, rNe, scal,
  List.getElem?_cons_zero, List.getElem?_cons_succ, List.set_cons_zero, List.set_cons_succ, Option.some.injEq, List.cons.injEq, V.int.injEq, V.bl.injEq, V.ref.injEq, V.str.injEq, and_true, true_and, exists_eq_left, exists_eq_left', exists_and_left, exists_and_right, List.append_nil, List.nil_append, List.cons_append, exists_eq_right, exists_eq_right', and_assoc, exists_const, V.ty.injEq, ↓reduceIte, Bool.false_eq_true, Bool.not_true, Bool.not_false, decide_eq_true_eq])

section
variable {P : Program} {w : World} {K : PySem.W.Frag} {mg : Str → Option Value} {base : Heap}

def kN (z : Nat) : Key := Sum.inl (z : Int)
theorem keys_put {kvs : List (Key × V)} {ks : List Nat} {z : Nat} {v : V} (h : kvs.map (·.1) = ks.map kN) : (putK kvs (kN z) v).map (·.1) = (if z ∈ ks then ks else ks ++ [z]).map kN := by
  have hmem : (kvs.any fun kv => decide (kv.1 = kN z)) = true ↔ z ∈ ks := by
    rw [List.any_eq_true]
    constructor
    · rintro ⟨kv, hk, e⟩
      have e := of_decide_eq_true e
      have : kv.1 ∈ kvs.map (·.1) := List.mem_map.mpr ⟨kv, hk, rfl⟩
      rw [h, e] at this
      obtain ⟨y, hy, e2⟩ := List.mem_map.mp this
      unfold kN at e2
      injection e2 with e2
      rwa [show z = y by omega]
    · intro hz
      have : kN z ∈ kvs.map (·.1) := by
        rw [h]
        exact List.mem_map.mpr ⟨z, hz, rfl⟩
      obtain ⟨kv, hk, e⟩ := List.mem_map.mp this
      exact ⟨kv, hk, decide_eq_true e⟩
  unfold putK
  by_cases hz : z ∈ ks
  · rw [if_pos (hmem.mpr hz), if_pos hz, ← h, List.map_map]
    refine List.map_congr_left fun kv _ => ?_
    show (if kv.1 = _ then (kv.1, v) else kv).1 = kv.1
    split <;> rfl
  · rw [if_neg (fun z' => hz (hmem.mp z')), if_neg hz, List.map_append, List.map_append, h]
    rfl
theorem srt_asc {xs : List Nat} (nd : xs.Nodup) : (srtN xs).Pairwise (· < ·) := by
  have h1 := srtN_srt xs
  have h2 : (srtN xs).Nodup := (srtN_perm xs).nodup_iff.mpr nd
  rw [List.nodup_iff_pairwise_ne] at h2
  exact (h1.and h2).imp fun {x y} h => by omega
theorem cp_cop (n : Nat) : cpL n = copL n := rfl
theorem copL_len (n : Nat) : (copL n).length ≤ n := by
  unfold copL
  exact Nat.le_trans (List.length_filter_le _ _) (by rw [List.length_range]; exact Nat.le_refl _)
theorem copL_mem {n x : Nat} (h : x ∈ copL n) : x < n ∧ Nat.gcd x n = 1 := by
  unfold copL at h
  obtain ⟨h1, h2⟩ := List.mem_filter.mp h
  exact ⟨List.mem_range.mp h1, of_decide_eq_true h2⟩
theorem mem_copL {n x : Nat} (h1 : x < n) (h2 : Nat.gcd x n = 1) : x ∈ copL n := List.mem_filter.mpr ⟨List.mem_range.mpr h1, decide_eq_true h2⟩
theorem one_cop {n : Nat} (hn : 1 ≤ n) : 1 % n ∈ copL n := by
  refine mem_copL (Nat.mod_lt _ hn) ?_
  rw [← Nat.gcd_rec, Nat.gcd_one_right]
def sp_law_lowest : Sp := fun vs H Q _ => ∃ a u : Nat, vs = [.int a, .int u] ∧ (1 ≤ u ∧ u ≤ 30000000) ∧ ∀ t H', Gr [] H H' → H' t = some (.tup [.int ((lowN a u).1 : Nat), .int ((lowN a u).2 : Nat)]) → Q (.ref t) H'
def sp_law_sum (K : PySem.W.Frag) : Sp := fun vs H Q _ => ∃ (a c : Addr) (x n y m : Nat), vs = [.ref a, .ref c] ∧ SqT K H a [.int (x : Nat), .int (n : Nat)] ∧ SqT K H c [.int (y : Nat), .int (m : Nat)] ∧ (1 ≤ n ∧ n ≤ 5000) ∧ (1 ≤ m ∧ m ≤ 5000) ∧ (x ≤ 5000 ∧ y ≤ 5000) ∧
  ∀ t H', Gr [] H H' → H' t = some (.tup [.int ((lowN (x * m + y * n) (n * m)).1 : Nat), .int (sdn x n y m : Nat)]) → Q (.ref t) H'
def sp_law_all : Sp := fun vs H Q _ => ∃ one two : Nat, vs = [.int one, .int two] ∧ (1 ≤ one ∧ one ≤ 5000) ∧ (1 ≤ two ∧ two ≤ 5000) ∧ SmP one two ∧ ∀ l H', Gr [] H H' → H' l = some (.lst (vn (sdL one two))) → Q (.ref l) H'
noncomputable def exO (one two n : Nat) : PyData := match exF one two n with
  | some y => exD one two y
  | none => .list [.int (n : Nat)]
def sp_law_example (K : PySem.W.Frag) : Sp := fun vs H Q _ => ∃ one two d : Nat, vs = [.int one, .int two, .int d] ∧ (1 ≤ one ∧ one ≤ 5000) ∧ (1 ≤ two ∧ two ≤ 5000) ∧ (1 ≤ d ∧ d ≤ 5000) ∧ ∀ v H', Gr [] H H' → Dp K H' v (exO one two d) → Q v H'
theorem ok_law_lowest (T : Txt K mg) : FnOk P w K mg base CX0 2 T.d_law_lowest.f T.d_law_lowest.fd ["above", "under"] sp_law_lowest := by
  refine T.d_law_lowest.F.ok sc_law_lowest (fun vs H Q E h => ?_) (fun cdv A outer s H vs Q E hr h => ?_)
  · obtain ⟨a, u, rfl, _⟩ := h; rfl
  · have hu := hu_of hr
    refine ⟨_, (pss_cons (ps_set (i := 2) sc_law_lowest.nd rfl (by first | exact .inl rfl | exact .inr rfl) (pe_op op_mod (pe_callTy call_int1 (by rfl) T.b_int (by decide +kernel) (pa_cons (pv 0) pa_nil)) (pv 1)))
      (pss_cons (ps_set (i := 3) sc_law_lowest.nd rfl (by first | exact .inl rfl | exact .inr rfl) (pe_call (ok_law_divisor T) (hr.mono (by decide)) (by rfl) T.d_law_divisor.m T.d_law_divisor.F.kp T.d_law_divisor.b .nil pass0 (pa_cons (pv 2) (pa_cons (pv 1) pa_nil))))
      (pss_one (ps_ret (pe_tup (pa_cons (pe_op op_fdiv (pv 2) (pv 3)) (pa_cons (pe_op op_fdiv (pv 1) (pv 3)) pa_nil))))))), ?_⟩
    obtain ⟨a, u, rfl, ⟨hu1, hu2⟩, q⟩ := h
    have hu0 : (0 : Int) < (u : Int) := by omega
    refine ⟨_, rfl, .inl ⟨_, rfl, _, rfl, _, _, rfl, rfl, hu0, ?_⟩⟩
    dsimp only
    rw [← Int.natCast_emod]
    have hg1 : 1 ≤ Nat.gcd (a % u) u := Nat.gcd_pos_of_pos_right _ (by omega)
    have hg2 : Nat.gcd (a % u) u ≤ u := Nat.gcd_le_right _ (by omega)
    refine ⟨_, rfl, _, rfl, a % u, u, rfl, ?_⟩
    refine ⟨_, rfl, _, rfl, _, _, rfl, rfl, ⟨by omega, by omega⟩, _, rfl, _, rfl, _, _, rfl, rfl, ⟨by omega, by omega⟩, by show 2 ≤ sizeLine; decide, fun t nt => ?_⟩
    refine q t _ (Gr.new nt) ?_
    rw [upd_same]
    dsimp only
    rw [← Int.natCast_ediv, ← Int.natCast_ediv]
    rfl
theorem ok_law_sum (T : Txt K mg) : FnOk P w K mg base CX0 3 T.d_law_sum.f T.d_law_sum.fd ["one", "two"] (sp_law_sum K) := by
  refine T.d_law_sum.F.ok sc_law_sum (fun vs H Q E h => ?_) (fun cdv A outer s H vs Q E hr h => ?_)
  · obtain ⟨a, c, x, n, y, m, rfl, _⟩ := h; rfl
  · have hu := hu_of hr
    refine ⟨_, (pss_one (ps_ret (pe_call (ok_law_lowest T) (hr.mono (by decide)) (by rfl) T.d_law_lowest.m T.d_law_lowest.F.kp T.d_law_lowest.b .nil pass0 (pa_cons (pe_op op_add (pe_op op_mul (pe_ix (r := rIxT K) ix_tup (pv 0) pe_int (fun _ _ => rfl)) (pe_ix (r := rIxT K) ix_tup (pv 1) pe_int (fun _ _ => rfl))) (pe_op op_mul (pe_ix (r := rIxT K) ix_tup (pv 1) pe_int (fun _ _ => rfl)) (pe_ix (r := rIxT K) ix_tup (pv 0) pe_int (fun _ _ => rfl)))) (pa_cons (pe_op op_mul (pe_ix (r := rIxT K) ix_tup (pv 0) pe_int (fun _ _ => rfl)) (pe_ix (r := rIxT K) ix_tup (pv 1) pe_int (fun _ _ => rfl))) pa_nil))))), ?_⟩
    obtain ⟨a, c, x, n, y, m, rfl, ha, hc, hn, hm, hxy, q⟩ := h
    have m1 : x * m ≤ 5000 * 5000 := Nat.mul_le_mul hxy.1 hm.2
    have m2 : y * n ≤ 5000 * 5000 := Nat.mul_le_mul hxy.2 hn.2
    have m3 : n * m ≤ 5000 * 5000 := Nat.mul_le_mul hn.2 hm.2
    have m4 : 1 ≤ n * m := Nat.mul_pos hn.1 hm.1
    refine ⟨_, rfl, _, _, 0, _, rfl, rfl, ha, atI_nat (j := 0) rfl, _, rfl, _, _, 1, _, rfl, rfl, hc, atI_nat (j := 1) rfl, _, _, rfl, rfl, .inl ⟨by omega, by omega⟩, ?_⟩
    refine ⟨_, rfl, _, _, 0, _, rfl, rfl, hc, atI_nat (j := 0) rfl, _, rfl, _, _, 1, _, rfl, rfl, ha, atI_nat (j := 1) rfl, _, _, rfl, rfl, .inl ⟨by omega, by omega⟩, _, _, rfl, rfl, ?_⟩
    refine ⟨_, rfl, _, _, 1, _, rfl, rfl, ha, atI_nat (j := 1) rfl, _, rfl, _, _, 1, _, rfl, rfl, hc, atI_nat (j := 1) rfl, _, _, rfl, rfl, .inl ⟨by omega, by omega⟩, ?_⟩
    have e1 : (x : Int) * (m : Int) + (y : Int) * (n : Int) = ((x * m + y * n : Nat) : Int) := by rw [Int.natCast_add, Int.natCast_mul, Int.natCast_mul]
    have e2 : (n : Int) * (m : Int) = ((n * m : Nat) : Int) := by rw [Int.natCast_mul]
    refine ⟨x * m + y * n, n * m, by show [V.int ((x : Int) * (m : Int) + (y : Int) * (n : Int)), V.int ((n : Int) * (m : Int))] = _; rw [e1, e2], ⟨m4, by omega⟩, fun t H' g ht => ?_⟩
    rw [low_two] at ht
    exact q t H' g ht
theorem ok_law_all (T : Txt K mg) : FnOk P w K mg base CX0 4 T.d_law_all.f T.d_law_all.fd ["one", "two"] sp_law_all := by
  refine T.d_law_all.F.ok sc_law_all (fun vs H Q E h => ?_) (fun cdv A outer s H vs Q E hr h => ?_)
  · obtain ⟨one, two, rfl, _⟩ := h; rfl
  · have hu := hu_of hr
    refine ⟨_, (pss_cons (ps_set (i := 2) sc_law_all.nd rfl (by first | exact .inl rfl | exact .inr rfl) pe_dnewK)
      (pss_cons (ps_for PassesOwn.never rfl (pi_list (pe_call (ok_law_units T) (hr.mono (by decide)) (by rfl) T.d_law_units.m T.d_law_units.F.kp T.d_law_units.b .nil pass0 (pa_cons (pv 0) pa_nil))) (pg_name (i := 3) sc_law_all.nd rfl (by first | exact .inl rfl | exact .inr rfl)) (pss_one (ps_for PassesOwn.never rfl (pi_list (pe_call (ok_law_units T) (hr.mono (by decide)) (by rfl) T.d_law_units.m T.d_law_units.F.kp T.d_law_units.b .nil pass0 (pa_cons (pv 1) pa_nil))) (pg_name (i := 4) sc_law_all.nd rfl (by first | exact .inl rfl | exact .inr rfl)) (pss_one (ps_dput hu (pv 2) (pe_ix (r := rIxT K) ix_tup (pe_call (ok_law_sum T) (hr.mono (by decide)) (by rfl) T.d_law_sum.m T.d_law_sum.F.kp T.d_law_sum.b .nil pass0 (pa_cons (pe_tup (pa_cons (pv 3) (pa_cons (pv 0) pa_nil))) (pa_cons (pe_tup (pa_cons (pv 4) (pa_cons (pv 1) pa_nil))) pa_nil))) pe_int (fun _ _ => rfl)) pe_bl rfl)))))
      (pss_one (ps_ret (pe_callB (call_sortedDI rfl) (by rfl) T.b_sorted (by decide +kernel) (pa_cons (pv 2) pa_nil)))))), ?_⟩
    obtain ⟨one, two, rfl, h1, h2, hS, q⟩ := h
    intro D nD
    have gD : Gr [] H (upd H D (.dK [])) := Gr.new nD
    have hD0 : (upd H D (.dK [])) D = some (.dK []) := upd_same
    have nDH := nD
    generalize upd H D (.dK []) = H1 at gD hD0 ⊢
    refine ⟨_, rfl, one, rfl, h1.2, fun l1 H2 g2 hl1 => ?_⟩
    refine ⟨l1, rfl, ⟨_, sq_lst hl1⟩, ?_⟩
    have nl1 : l1 ≠ D := ne_of hl1 (g2 D _ (by simp) hD0) (by intro z; cases z)
    refine for_list (K := K) (a := l1) (xs := vn (copL one)) (fun i σ H' => Gr [D] H2 H' ∧ (∃ kvs ks, H' D = some (.dK kvs) ∧ (kvs.map (·.1) = ks.map kN) ∧ ks.Nodup ∧ (∀ z ∈ ks, z ∈ sdL one two) ∧ ∀ x ∈ (copL one).take i, ∀ y ∈ copL two, sdn x one y two ∈ ks) ∧ ∃ v3 v4, σ = [some (.int one), some (.int two), some (.ref D), v3, v4]) ⟨Gr.refl _ _, ⟨[], [], g2 D _ (by simp) hD0, rfl, List.nodup_nil, fun z hz => absurd hz (by simp), fun x hx => absurd hx (by simp)⟩, none, none, rfl⟩ (fun i σ H' _ z => sq_lst (z.1 l1 _ (by simpa using nl1) hl1)) ?_ ?_
    · rintro i xx σ H' hx ⟨G, ⟨kvs, ks, hD, hk, nd, hsub, hin⟩, v3, v4, rfl⟩
      obtain ⟨hi, rfl⟩ := vn_get hx
      have tk := List.take_succ_eq_append_getElem hi
      have hxm := List.getElem_mem hi
      generalize (copL one)[i] = x at tk hxm ⊢
      have hxc := copL_mem hxm
      refine ⟨_, rfl, two, rfl, h2.2, fun l2 H3 g3 hl2 => ?_⟩
      refine ⟨l2, rfl, ⟨_, sq_lst hl2⟩, ?_⟩
      have hD3 := g3 D _ (by simp) hD
      have nl2 : l2 ≠ D := ne_of hl2 hD3 (by intro z; cases z)
      refine for_list (K := K) (a := l2) (xs := vn (copL two)) (fun j σ H'' => Gr [D] H3 H'' ∧ (∃ kvs ks, H'' D = some (.dK kvs) ∧ (kvs.map (·.1) = ks.map kN) ∧ ks.Nodup ∧ (∀ z ∈ ks, z ∈ sdL one two) ∧ (∀ x ∈ (copL one).take i, ∀ y ∈ copL two, sdn x one y two ∈ ks) ∧ ∀ y ∈ (copL two).take j, sdn x one y two ∈ ks) ∧ ∃ v4, σ = [some (.int one), some (.int two), some (.ref D), some (.int x), v4]) ⟨Gr.refl _ _, ⟨kvs, ks, hD3, hk, nd, hsub, hin, fun y hy => absurd hy (by simp)⟩, v4, rfl⟩ (fun i σ H' _ z => sq_lst (z.1 l2 _ (by simpa using nl2) hl2)) ?_ ?_
      · rintro j yy σ H4 hy ⟨G4, ⟨kvs, ks, hD, hk, nd, hsub, hin, hin2⟩, v4, rfl⟩
        obtain ⟨hj, rfl⟩ := vn_get hy
        have tkj := List.take_succ_eq_append_getElem hj
        have hym := List.getElem_mem hj
        generalize (copL two)[j] = y at tkj hym ⊢
        have hyc := copL_mem hym
        have hzS := hS.all x hxm y hym
        refine ⟨_, rfl, _, rfl, _, rfl, by show 2 ≤ sizeLine; decide, fun t1 nt1 => ?_⟩
        have gt1 := Gr.new (W := []) (o := .tup [.int (x : Nat), .int (one : Nat)]) nt1
        have ht1 : (upd H4 t1 (.tup [.int (x : Nat), .int (one : Nat)])) t1 = some (.tup [.int (x : Nat), .int (one : Nat)]) := upd_same
        have hD5 := gt1 D _ (by simp) hD
        generalize upd H4 t1 (.tup [.int (x : Nat), .int (one : Nat)]) = H5 at gt1 ht1 hD5 ⊢
        refine ⟨_, rfl, _, rfl, by show 2 ≤ sizeLine; decide, fun t2 nt2 => ?_⟩
        have gt2 := Gr.new (W := []) (o := .tup [.int (y : Nat), .int (two : Nat)]) nt2
        have ht2 : (upd H5 t2 (.tup [.int (y : Nat), .int (two : Nat)])) t2 = some (.tup [.int (y : Nat), .int (two : Nat)]) := upd_same
        have hD6 := gt2 D _ (by simp) hD5
        have ht1 := gt2 t1 _ (by simp) ht1
        generalize upd H5 t2 (.tup [.int (y : Nat), .int (two : Nat)]) = H6 at gt2 ht1 ht2 hD6 ⊢
        refine ⟨t1, t2, x, one, y, two, rfl, sq_tup ht1, sq_tup ht2, h1, h2, ⟨by omega, by omega⟩, fun t3 H7 g7 ht3 => ?_⟩
        have hD7 := g7 D _ (by simp) hD6
        refine ⟨t3, _, 1, _, rfl, rfl, sq_tup ht3, atI_nat (j := 1) rfl, ?_⟩
        have hkl : kvs.length < 100 := by
          have e := congrArg List.length hk
          rw [List.length_map, List.length_map] at e
          have := nodup_sub nd hsub
          have := hS.len
          omega
        refine ⟨D, _, rfl, DPut.k (k := kN (sdn x one y two)) hD7 (Nat.lt_of_lt_of_le hkl (by decide)), ?_⟩
        refine ⟨fun u o hu eo => ?_, ⟨_, if sdn x one y two ∈ ks then ks else ks ++ [sdn x one y two], upd_same, keys_put hk, ?_, ?_, ?_, ?_⟩, _, rfl⟩
        · have : u ≠ D := by simpa using hu
          rw [upd_ne this]
          exact g7 u o (by simp) (gt2 u o (by simp) (gt1 u o (by simp) (G4 u o hu eo)))
        · split
          · exact nd
          · rename_i hno
            rw [List.nodup_append]
            exact ⟨nd, (List.nodup_cons.mpr ⟨by simp, List.nodup_nil⟩), fun a ha b hb => by
              rw [List.mem_singleton] at hb
              subst hb
              exact fun z => hno (z ▸ ha)⟩
        · intro z hz
          split at hz
          · exact hsub z hz
          · rw [List.mem_append, List.mem_singleton] at hz
            rcases hz with hz | rfl
            · exact hsub z hz
            · exact hzS
        · intro x' hx' y' hy'
          have := hin x' hx' y' hy'
          split
          · exact this
          · exact List.mem_append_left _ this
        · intro y' hy'
          rw [tkj, List.mem_append, List.mem_singleton] at hy'
          rcases hy' with hy' | rfl
          · have := hin2 y' hy'
            split
            · exact this
            · exact List.mem_append_left _ this
          · split
            · assumption
            · exact List.mem_append_right _ (List.mem_singleton.mpr rfl)
      · rintro σ H4 ⟨G4, ⟨kvs, ks, hD, hk, nd, hsub, hin, hin2⟩, v4, rfl⟩
        rw [vn_len, List.take_of_length_le (Nat.le_refl _)] at hin2
        refine ⟨G.trans ((gr0 g3).trans G4), ⟨kvs, ks, hD, hk, nd, hsub, fun x' hx' y' hy' => ?_⟩, _, _, rfl⟩
        rw [tk, List.mem_append, List.mem_singleton] at hx'
        rcases hx' with hx' | rfl
        · exact hin x' hx' y' hy'
        · exact hin2 y' hy'
    rintro σ H3 ⟨G, ⟨kvs, ks, hD, hk, nd, hsub, hin⟩, v3, v4, rfl⟩
    rw [vn_len, List.take_of_length_le (Nat.le_refl _)] at hin
    have hkl : ks.length < 64 := Nat.lt_of_le_of_lt (nodup_sub nd hsub) hS.len
    refine ⟨_, rfl, D, kvs, ni ks, rfl, .inl hD, ?_, by unfold ni; rw [List.length_map]; exact hkl, fun ys p hp hs np => ?_⟩
    · rw [hk]
      unfold ni
      rw [List.map_map]
      rfl
    have es := srt_is hp hs
    have e2 : srtN ks = sdL one two := by
      refine asc_uniq (srt_asc nd) hS.asc fun z => ?_
      rw [(srtN_perm ks).mem_iff]
      refine ⟨hsub z, fun hz => ?_⟩
      obtain ⟨y, hy, e⟩ := hS.ex z hz
      rw [← e]
      exact hin _ (one_cop h1.1) y hy
    rw [es, e2, ← vn_ni] at *
    refine q p _ (fun u o _ eo => ?_) upd_same
    have hu : u ≠ D := ne_of_none eo nDH
    rw [upd_ne (ne_of_none (G u o (by simpa using hu) (g2 u o (by simp) (gD u o (by simp) eo))) np)]
    exact G u o (by simpa using hu) (g2 u o (by simp) (gD u o (by simp) eo))
theorem ok_law_example (T : Txt K mg) : FnOk P w K mg base CX0 6 T.d_law_example.f T.d_law_example.fd ["one", "two", "n"] (sp_law_example K) := by
  refine T.d_law_example.F.ok sc_law_example (fun vs H Q E h => ?_) (fun cdv A outer s H vs Q E hr h => ?_)
  · obtain ⟨one, two, d, rfl, _⟩ := h; rfl
  · have hu := hu_of hr
    refine ⟨_, (pss_one (ps_try_as (i := 3) (Wout := fun _ _ _ _ => False) rfl rfl sc_law_example.nd rfl rfl ⟨rfl, by decide, .inl T.g_Nothing⟩ takes0 (fun W pn xe tk _ => (pss_one (ps_ret (pe_callS (E := fun σ => WE W σ) (okX_sum_example T) (hr.mono (by decide)) (by rfl) T.d_sum_example.m T.d_sum_example.F.kp T.d_sum_example.b (fun σ => passAt tk σ) (pa_cons (pv 0) (pa_cons (pv 1) (pa_cons (pv 2) pa_nil))))))) (fun a oe cls d pn hz hf => (pss_one (ps_ret (pe_lst (pa_cons (pe_byE T.T_Nothing.xf T.T_Nothing.no hz hf (pv 3)) pa_nil))))))), ?_⟩
    obtain ⟨one, two, d, rfl, h1, h2, hd, q⟩ := h
    refine ⟨_, rfl, _, rfl, _, rfl, one, two, d, rfl, h1, h2, hd, fun y hy v H1 g1 dv => ?_, fun hn H1 dd g1 nd => ?_⟩
    · refine q v H1 g1 ?_
      unfold exO
      rw [hy]
      exact dv
    · refine ⟨true, T.ex1_Nothing, fun _ a0 ha0 => ?_, fun z => Bool.noConfusion z⟩
      refine ⟨_, rfl, rfl, rfl, dd, _, rfl, upd_same, by show 1 ≤ sizeLine; decide, fun l nl => ?_⟩
      refine q _ _ ((g1.trans (Gr.new nd)).trans (Gr.new nl)) ?_
      unfold exO
      rw [hn]
      exact dp_lst upd_same (.cons (.int _) .nil)

end
end Wn
namespace Wn
open PySem PySem.Spec PyProof.Rows L2
open LamX (Tabs ExtN tLam)
local macro_rules | `(tactic| walk_at "vc") => `(tactic| simp only [cxK, cxK2, start1, start2, start3, tRet, tRetN, tSeq, tNext, tIfS, tAsg, gName, tDrop, tVar, tC, tOp, tUn, tTest, tB, tNot, tAnd, tOr, tAndV, tOrV, tNotV, tIf, tCons, tNil, tCB, tCall, tChain, tAug, ipI, rI, rI0, rU, rIs, rGcd, rEq, rNe, scal,
  List.getElem?_cons_zero, List.getElem?_cons_succ, List.set_cons_zero, List.set_cons_succ, Option.some.injEq, List.cons.injEq, V.int.injEq, V.bl.injEq, V.ref.injEq, V.str.injEq, and_true, true_and, exists_eq_left, exists_eq_left', exists_and_left, exists_and_right, List.append_nil, List.nil_append, List.cons_append, exists_eq_right, exists_eq_right', and_assoc, exists_const, V.ty.injEq, ↓reduceIte, Bool.false_eq_true, Bool.not_true, Bool.not_false, decide_eq_true_eq])

section
variable {P : Program} {w : World} {K : PySem.W.Frag} {mg : Str → Option Value} {base : Heap}

theorem ne_self (z : Str) : (!decide (V.str z = V.str z)) = false := by rw [decide_eq_true rfl]; rfl
theorem vn_sm {xs : List Nat} {m : Nat} (h : ∀ k ∈ xs, k < 8192) (hm : xs.length ≤ m) : Sm (di xs) 13 1 (m * 14) := sm_ni h hm
theorem two_fits {d e : PyData} {D W : Nat} (h1 : Sm d 13 D W) (h2 : Sm e 13 D W) (hD : D ≤ 60) (hW : W ≤ 500000) : Fits (.list [d, e]) := (Sm.lst (D := D) (W := W) 2 (fun x hx => by
  simp only [List.mem_cons, List.not_mem_nil, or_false] at hx
  rcases hx with rfl | rfl
  · exact h1
  · exact h2) (Nat.le_refl _)).fits (by omega) (by omega)
theorem int_sm {k : Nat} (h : k ≤ 8000) : Sm (.int (k : Nat)) 13 0 13 := Sm.int (by decide) (by rw [Int.natAbs_natCast]; show k < 8192; omega) (by decide)
theorem pair_sm {a b : Nat} (h1 : a ≤ 8000) (h2 : b ≤ 8000) : Sm (.tuple [.int (a : Nat), .int (b : Nat)]) 13 1 28 := Sm.tup (D := 0) (W := 13) 2 (fun x hx => by
  simp only [List.mem_cons, List.not_mem_nil, or_false] at hx
  rcases hx with rfl | rfl
  · exact int_sm h1
  · exact int_sm h2) (Nat.le_refl _)
theorem ex_sm {one two y : Nat} (h1 : one ≤ 5000) (h2 : two ≤ 5000) (hy : y ≤ 5000) : Sm (exD one two y) 13 2 58 := Sm.tup (D := 1) (W := 28) 2 (fun x hx => by
  have := Nat.mod_le 1 one
  simp only [List.mem_cons, List.not_mem_nil, or_false] at hx
  rcases hx with rfl | rfl
  · exact pair_sm (by omega) (by omega)
  · exact pair_sm (by omega) (by omega)) (Nat.le_refl _)
theorem exO_sm {one two d : Nat} (h1 : one ≤ 5000) (h2 : two ≤ 5000) (hd : d ≤ 5000) : Sm (exO one two d) 13 2 58 := by
  unfold exO
  cases h : exF one two d with
  | some y => exact ex_sm h1 h2 (by have := (exF_some h).1; omega)
  | none => exact (Sm.lst (D := 0) (W := 13) 1 (fun x hx => by
      rw [List.mem_singleton] at hx
      subst hx
      exact int_sm (by omega)) (Nat.le_refl _)).mono (by decide) (by decide)
theorem perF_le {b n : Nat} (h : BN b n) : 1 ≤ perF b n ∧ perF b n ≤ 5000 := by
  obtain ⟨hb1, hb2, hn1, hn2⟩ := h
  obtain ⟨p, hp⟩ : ∃ p, IsPure b n p := by
    have := hn1
    exact pure_exists b n hn1
  obtain ⟨p1, p2⟩ : 1 ≤ p ∧ p ≤ n := by
    obtain ⟨_, qq, k, e, _⟩ := hp
    refine ⟨?_, Nat.le_of_dvd hn1 ⟨qq, e⟩⟩
    rcases Nat.eq_zero_or_pos p with z | z
    · rw [z, Nat.zero_mul] at e
      omega
    · exact z
  obtain ⟨L, hL, hP⟩ := per_exists p1 hp.1
  rw [perF_eq hp hP]
  exact ⟨hP.1, by omega⟩
def sp_law_pair_right : Sp := fun vs H Q _ => ∃ (d : Addr) (one two c : Nat), vs = [.ref d, .int one, .int two] ∧ (1 ≤ one ∧ one ≤ 36) ∧ (1 ≤ two ∧ two ≤ 36) ∧ (SmP one two ∧ SmP two one ∧ sdL one two = sdL two one) ∧ MOk H d c ∧ c ≤ 900000000 ∧ ∀ H', Gr [d] H H' → MOk H' d (c + 1) → Q (.bl true) H'
theorem okG_law_pair_right (T : Txt K mg) : FnG P w K mg base CX0 8 T.d_law_pair_right.f T.d_law_pair_right.fd ["m", "one", "two"] sp_law_pair_right := by
  refine fnG0 T.d_law_pair_right.F sc_law_pair_right (fun vs H Q E h => ?_) (fun cdv A outer s H vs Q E hgd hr h => ?_)
  · obtain ⟨d, one, two, c, rfl, _⟩ := h; rfl
  · have hu := hu_of hr
    refine ⟨_, (pss_cons (ps_asg (pe_tup (pa_cons (pe_callTy (r := rTpO K) call_tpO (by rfl) T.b_tuple (by decide +kernel) (pa_cons (pe_call (ok_law_all T) (hr.mono (by decide)) (by rfl) T.d_law_all.m T.d_law_all.F.kp T.d_law_all.b .nil pass0 (pa_cons (pv 1) (pa_cons (pv 2) pa_nil))) pa_nil)) (pa_cons (pe_op op_add pe_int (pe_call (ok_law_draw T) (hr.mono (by decide)) (by rfl) T.d_law_draw.m T.d_law_draw.F.kp T.d_law_draw.b .nil pass0 (pa_cons (pv 0) (pa_cons pe_int pa_nil)))) pa_nil))) (pg_tup (by rfl) (pgs_cons (pg_name (i := 3) sc_law_pair_right.nd rfl (by first | exact .inl rfl | exact .inr rfl)) (pgs_cons (pg_name (i := 4) sc_law_pair_right.nd rfl (by first | exact .inl rfl | exact .inr rfl)) pgs_nil))))
      (pss_cons (ps_if (pt_cmpR op_ne (pe_callB (r := rRepr K) (call_repr hgd (gu_of hr)) (by rfl) T.b_repr (by decide +kernel) (pa_cons (pe_lst (pa_cons (pe_call (okX_sum_denominators T) (hr.mono (by decide)) (by rfl) T.d_sum_denominators.m T.d_sum_denominators.F.kp T.d_sum_denominators.b .nil (passes_call takes0 (fun _ _ _ _ z => z)) (pa_cons (pv 1) (pa_cons (pv 2) pa_nil))) (pa_cons (pe_call (okX_sum_denominators T) (hr.mono (by decide)) (by rfl) T.d_sum_denominators.m T.d_sum_denominators.F.kp T.d_sum_denominators.b .nil (passes_call takes0 (fun _ _ _ _ z => z)) (pa_cons (pv 2) (pa_cons (pv 1) pa_nil))) pa_nil))) pa_nil)) (pe_callB (r := rRepr K) (call_repr hgd (gu_of hr)) (by rfl) T.b_repr (by decide +kernel) (pa_cons (pe_lst (pa_cons (pv 3) (pa_cons (pv 3) pa_nil))) pa_nil)) (nomark _)) (pss_one (ps_ret pe_bl)) pss_nil)
      (pss_cons (ps_set (i := 5) sc_law_pair_right.nd rfl (by first | exact .inl rfl | exact .inr rfl) (pe_callTy (r := rTpO K) call_tpO (by rfl) T.b_tuple (by decide +kernel) (pa_cons (pe_callB (r := rSortedSetB w) (cr_sortedSetB rfl) (by rfl) T.b_sorted (by decide +kernel) (pa_cons (pe_callTy (r := rSetL K w) (call_setL rfl) (by rfl) T.b_set (by decide +kernel) (pa_cons (pe_lc (own := [("n", 6)]) (g := gName 6) (tt := tYes) rfl sc_law_pair_right.nd (pi_tup (pv 3)) (blkOk_by (own := [("n", 6)]) (N := ["m", "one", "two", "due", "b", "lengths_so", "n", "told", "pair"]) (sc := defScope s_law_pair_right) (by decide +kernel)) (fun _ _ _ _ _ => (pg_name (i := 6) sc_law_pair_right.nd rfl (by first | exact .inl rfl | exact .inr rfl))) (fun _ _ _ _ _ => pts_nil) (fun _ _ _ _ _ => (pe_ix (r := rIxT K) ix_tup (pe_call (ok_law_period T) (hr.mono (by decide)) (by rfl) T.d_law_period.m T.d_law_period.F.kp T.d_law_period.b .nil pass0 (pa_cons (pv 4) (pa_cons (pv 6) pa_nil))) pe_int (fun _ _ => rfl)))) pa_nil)) pa_nil)) pa_nil)))
      (pss_cons (ps_if (pt_cmpR op_ne (pe_callB (r := rRepr K) (call_repr hgd (gu_of hr)) (by rfl) T.b_repr (by decide +kernel) (pa_cons (pe_lst (pa_cons (pe_call (okX_sum_periods T) (hr.mono (by decide)) (by rfl) T.d_sum_periods.m T.d_sum_periods.F.kp T.d_sum_periods.b .nil (passes_call takes0 (fun _ _ _ _ z => z)) (pa_cons (pv 4) (pa_cons (pv 1) (pa_cons (pv 2) pa_nil)))) (pa_cons (pe_call (okX_sum_periods T) (hr.mono (by decide)) (by rfl) T.d_sum_periods.m T.d_sum_periods.F.kp T.d_sum_periods.b .nil (passes_call takes0 (fun _ _ _ _ z => z)) (pa_cons (pv 4) (pa_cons (pv 2) (pa_cons (pv 1) pa_nil)))) pa_nil))) pa_nil)) (pe_callB (r := rRepr K) (call_repr hgd (gu_of hr)) (by rfl) T.b_repr (by decide +kernel) (pa_cons (pe_lst (pa_cons (pv 5) (pa_cons (pv 5) pa_nil))) pa_nil)) (nomark _)) (pss_one (ps_ret pe_bl)) pss_nil)
      (pss_cons (ps_for PassesOwn.never rfl (pi_list (pe_op op_cat (pe_callTy (r := rLsO K) call_lsO (by rfl) T.b_list (by decide +kernel) (pa_cons (pv 3) pa_nil)) (pe_lc (own := [("n", 6)]) (g := gName 6) (tt := _) rfl sc_law_pair_right.nd (pi_tup (pe_tup (pa_cons pe_int (pa_cons pe_int (pa_cons (pv 1) (pa_cons (pv 2) (pa_cons (pe_op op_mul (pv 1) (pv 2)) (pa_cons pe_int pa_nil)))))))) (blkOk_by (own := [("n", 6)]) (N := ["m", "one", "two", "due", "b", "lengths_so", "n", "told", "pair"]) (sc := defScope s_law_pair_right) (by decide +kernel)) (fun _ _ _ _ _ => (pg_name (i := 6) sc_law_pair_right.nd rfl (by first | exact .inl rfl | exact .inr rfl))) (fun _ _ _ _ _ => (pts_one (PW.pt (pw_and (pt_cmpR (r := rIn K true) op_notIn_seq (pv 6) (pv 3) rfl) (pw_and1 (pt_cmpR op_le (pv 6) pe_int (nomark _))))))) (fun _ _ _ _ _ => (pv 6))))) (pg_name (i := 6) sc_law_pair_right.nd rfl (by first | exact .inl rfl | exact .inr rfl)) (pss_cons (ps_set (i := 7) sc_law_pair_right.nd rfl (by first | exact .inl rfl | exact .inr rfl) (pe_call (ok_law_example T) (hr.mono (by decide)) (by rfl) T.d_law_example.m T.d_law_example.F.kp T.d_law_example.b .nil pass0 (pa_cons (pv 1) (pa_cons (pv 2) (pa_cons (pv 6) pa_nil)))))
      (pss_cons (ps_if (PW.pt (pw_or (pt_cmpR op_ne (pe_callB (r := rRepr K) (call_repr hgd (gu_of hr)) (by rfl) T.b_repr (by decide +kernel) (pa_cons (pv 7) pa_nil)) (pe_callB (r := rRepr K) (call_repr hgd (gu_of hr)) (by rfl) T.b_repr (by decide +kernel) (pa_cons (pe_call (ok_law_example T) (hr.mono (by decide)) (by rfl) T.d_law_example.m T.d_law_example.F.kp T.d_law_example.b .nil pass0 (pa_cons (pv 1) (pa_cons (pv 2) (pa_cons (pv 6) pa_nil)))) pa_nil)) (nomark _)) (pw_or1 (PW.pt (pw_and (pt_cmpR (r := rIn K true) op_notIn_seq (pv 6) (pv 3) rfl) (pw_and1 (pt_cmpR (r := rNeD K) (op_neD hr.units) (pv 7) (pe_lst (pa_cons (pv 6) pa_nil)) (nomark _)))))))) (pss_one (ps_ret pe_bl)) pss_nil)
      (pss_one (ps_if (pt_cmpR (r := rIn K false) op_in_seq (pv 6) (pv 3) rfl) (pss_cons (ps_if (PW.pt (pw_or (pt_not (pt_val (pe_callB (r := rIs K) call_is (by rfl) T.b_isinstance (by decide +kernel) (pa_cons (pv 7) (pa_cons (pe_bltn (v := .ty "tuple") (by rfl) T.b_tuple (by decide +kernel) rfl) pa_nil))))) (pw_or (pt_cmpR op_ne (pe_callB (r := rLn K) call_ln (by rfl) T.b_len PySem.boot_len (pa_cons (pv 7) pa_nil)) pe_int (nomark _)) (pw_or1 (pt_cmpR (r := rNeD K) (op_neD hr.units) (pe_lst (pa_cons (pe_ix (r := rIxT K) ix_tup (pe_ix (r := rIxT K) ix_tup (pv 7) pe_int (fun _ _ => rfl)) pe_int (fun _ _ => rfl)) (pa_cons (pe_ix (r := rIxT K) ix_tup (pe_ix (r := rIxT K) ix_tup (pv 7) pe_int (fun _ _ => rfl)) pe_int (fun _ _ => rfl)) pa_nil))) (pe_lst (pa_cons (pv 1) (pa_cons (pv 2) pa_nil))) (nomark _)))))) (pss_one (ps_ret pe_bl)) pss_nil)
      (pss_cons (ps_if (pt_cmpR (r := rNeD K) (op_neD hr.units) (pe_lc (own := [("pair", 8)]) (g := gName 8) (tt := _) rfl sc_law_pair_right.nd (pi_tup (pv 7)) (blkOk_by (own := [("pair", 8)]) (N := ["m", "one", "two", "due", "b", "lengths_so", "n", "told", "pair"]) (sc := defScope s_law_pair_right) (by decide +kernel)) (fun _ _ _ _ _ => (pg_name (i := 8) sc_law_pair_right.nd rfl (by first | exact .inl rfl | exact .inr rfl))) (fun _ _ _ _ _ => (pts_one (pt_cmpR (r := rNeD K) (op_neD hr.units) (pv 8) (pe_call (ok_law_lowest T) (hr.mono (by decide)) (by rfl) T.d_law_lowest.m T.d_law_lowest.F.kp T.d_law_lowest.b .nil pass0 (pa_cons (pe_ix (r := rIxT K) ix_tup (pv 8) pe_int (fun _ _ => rfl)) (pa_cons (pe_ix (r := rIxT K) ix_tup (pv 8) pe_int (fun _ _ => rfl)) pa_nil))) (nomark _)))) (fun _ _ _ _ _ => (pv 8))) (pe_lst pa_nil) (nomark _)) (pss_one (ps_ret pe_bl)) pss_nil)
      (pss_one (ps_if (pt_cmpR op_ne (pe_ix (r := rIxT K) ix_tup (pe_call (ok_law_sum T) (hr.mono (by decide)) (by rfl) T.d_law_sum.m T.d_law_sum.F.kp T.d_law_sum.b .nil pass0 (pa_cons (pe_ix (r := rIxT K) ix_tup (pv 7) pe_int (fun _ _ => rfl)) (pa_cons (pe_ix (r := rIxT K) ix_tup (pv 7) pe_int (fun _ _ => rfl)) pa_nil))) pe_int (fun _ _ => rfl)) (pv 6) (nomark _)) (pss_one (ps_ret pe_bl)) pss_nil)))) pss_nil)))))
      (pss_one (ps_ret pe_bl))))))), ?_⟩
    obtain ⟨d, one, two, c, rfl, h1, h2, ⟨hS, hS2, hsym⟩, M, hc, q⟩ := h
    have h1' : 1 ≤ one ∧ one ≤ 5000 := ⟨h1.1, by omega⟩
    have h2' : 1 ≤ two ∧ two ≤ 5000 := ⟨h2.1, by omega⟩
    refine ⟨_, rfl, _, rfl, one, two, rfl, h1', h2', hS, fun l H1 g1 hl => ?_⟩
    refine ⟨l, _, rfl, .inl ⟨sq_lst hl, fun t nt => ?_⟩⟩
    have gt := Gr.new (W := []) (o := .tup (vn (sdL one two))) nt
    have ht : (upd H1 t (.tup (vn (sdL one two)))) t = some (.tup (vn (sdL one two))) := upd_same
    have G1 := g1.trans gt
    generalize upd H1 t (.tup (vn (sdL one two))) = H2 at gt ht G1 ⊢
    refine ⟨_, rfl, d, 30, c, rfl, M.gr G1, ⟨by decide, lim_le (by decide), by omega⟩, fun r H3 hr g3 M3 => ?_⟩
    refine ⟨_, _, rfl, rfl, by show 2 ≤ sizeLine; decide, fun pp np => ⟨pp, _, rfl, sq_tup upd_same, rfl, _, _, rfl, _, _, rfl, rfl, ?_⟩⟩
    have gp := Gr.new (W := []) (o := .tup [V.ref t, V.int ((2 : Int) + (r : Int))]) np
    have ht := gp t _ (by simp) (g3 t _ (M.gr G1 |>.ne ht (by intro k z; cases z)) ht)
    have M4 := M3.gr gp
    have G4 : Gr [d] H (upd H3 pp (.tup [V.ref t, V.int ((2 : Int) + (r : Int))])) := ((gr0 G1).trans g3).trans (gr0 gp)
    dsimp only
    rw [show (2 : Int) + (r : Int) = ((2 + r : Nat) : Int) by omega] at *
    generalize upd H3 pp (.tup [V.ref t, V.int ((2 + r : Nat) : Int)]) = H4 at gp ht M4 G4 ⊢
    clear g1 gt G1 g3 gp np M3 hl nt
    have hb : 2 ≤ 2 + r ∧ 2 + r ≤ 1000 := by omega
    generalize 2 + r = b at hb ⊢
    have hle := hS.le
    have hall : ∀ z ∈ sumL one two, z ≤ 5000 := fun z hz => (hle z (sdL_mem.mpr hz)).2
    have hall2 : ∀ z ∈ sumL two one, z ≤ 5000 := fun z hz => (hS2.le z (sdL_mem.mpr hz)).2
    have sS : Sm (di (sdL one two)) 13 1 896 := vn_sm (m := 64) (fun k hk => by have := hle k hk; omega) (by have := hS.len; omega)
    have fS := two_fits sS sS (by decide) (by decide)
    refine ⟨_, rfl, _, rfl, one, two, rfl, h1', h2', hS.ok, fun _ t1 H5 g5 ht1 => ?_, fun ⟨z, hz, hgt⟩ => absurd (hall z hz) (by omega)⟩
    refine ⟨_, rfl, _, rfl, two, one, rfl, h2', h1', hS2.ok, fun _ t2 H6 g6 ht2 => ?_, fun ⟨z, hz, hgt⟩ => absurd (hall2 z hz) (by omega)⟩
    rw [← hsym] at ht2
    refine ⟨by show 2 ≤ sizeLine; decide, fun p6 n6 => ?_⟩
    have g7 : Gr [] H6 (upd H6 p6 (.lst [.ref t1, .ref t2])) := Gr.new n6
    refine ⟨_, .list [di (sdL one two), di (sdL one two)], rfl, dp_lst upd_same (.cons (dp_vnT (g7 t1 _ (by simp) (g6 t1 _ (by simp) ht1))) (.cons (dp_vnT (g7 t2 _ (by simp) ht2)) .nil)), fS, ?_⟩
    refine ⟨_, rfl, _, rfl, by show 2 ≤ sizeLine; decide, fun p7 n7 => ?_⟩
    have g8 : Gr [] (upd H6 p6 (.lst [.ref t1, .ref t2])) (upd (upd H6 p6 (.lst [.ref t1, .ref t2])) p7 (.lst [.ref t, .ref t])) := Gr.new n7
    have G8 := ((g5.trans g6).trans g7).trans g8
    have ht8 := G8 t _ (by simp) ht
    refine ⟨_, .list [di (sdL one two), di (sdL one two)], rfl, dp_lst upd_same (.cons (dp_vnT ht8) (.cons (dp_vnT ht8) .nil)), fS, ?_⟩
    generalize PyData.shown (.list [di (sdL one two), di (sdL one two)]) = zz
    refine ⟨rfl, _, rfl, iteFb (ne_self _) ?_⟩
    generalize upd (upd H6 p6 (.lst [.ref t1, .ref t2])) p7 (.lst [.ref t, .ref t]) = H8 at G8 ht8 ⊢
    clear g5 g6 g7 g8 ht1 ht2 n6 n7 ht
    refine ⟨_, rfl, t, rfl, ⟨_, sq_tup ht8⟩, fun D nD => ?_⟩
    refine lc_tup (K := K) (a := t) (xs := vn (sdL one two)) (fun i H' => Gr [] H8 H' ∧ H' D = some (.lst (vn (((sdL one two).take i).map (perF b))))) ⟨Gr.new nD, upd_same⟩ (fun i H' _ z => sq_tup (z.1 t _ (by simp) ht8)) ?_ ?_
    · rintro i y H' hy ⟨G, hD⟩
      obtain ⟨hi, rfl⟩ := vn_get hy
      have tk := List.take_succ_eq_append_getElem hi
      have hn := hle _ (List.getElem_mem hi)
      have hlen := hS.len
      generalize (sdL one two)[i] = n at tk hn ⊢
      refine ⟨rfl, ?_⟩
      dsimp only [tYes]
      refine iteT ?_
      refine ⟨_, rfl, _, rfl, b, n, rfl, ⟨by omega, hn.1, hn.2⟩, fun t2 HA p' q0 h0 L P gA ht2 => ?_⟩
      have hD2 := gA D _ (by simp) hD
      refine ⟨t2, _, 0, _, rfl, rfl, sq_tup ht2, atI_nat (j := 0) rfl, ?_⟩
      refine ⟨_, hD2, Nat.lt_of_lt_of_le (show _ < 6000 by rw [vn_len, List.length_map, List.length_take]; omega) (by decide), fun c o _ ec => ?_, ?_⟩
      · rw [upd_ne (ne_of_none ec nD)]
        exact gA c o (by simp) (G c o (by simp) ec)
      · rw [upd_same, vn_snoc, tk, List.map_append, List.map_singleton, perF_eq P.hp P.hL]
    rintro H9 ⟨g9, hD⟩
    rw [vn_len, List.take_of_length_le (Nat.le_refl _)] at hD
    have hlen := hS.len
    refine ⟨D, ni ((sdL one two).map (perF b)), rfl, by rw [← vn_ni]; exact sq_lst hD, by unfold ni; rw [List.length_map, List.length_map]; omega, fun s1 ks ns1 nd hk => ?_⟩
    have kl := set_len nd hk
    rw [List.length_map] at kl
    refine ⟨s1, _, _, rfl, upd_same, by omega, fun zs E2 hs hz hzl nE => ?_⟩
    have ez := asc_set hs hz (setN_asc _) (fun z => setN_mem)
    subst ez
    have gE := (Gr.new (W := []) (o := SetO w s1 (fun j => decide (j ∈ ni ((sdL one two).map (perF b)))) ks.length) ns1).trans (Gr.new (o := .lst ((ni (setN ((sdL one two).map (perF b)))).map V.int)) nE)
    refine ⟨E2, _, rfl, .inl ⟨sq_lst upd_same, fun t3 nt3 => ?_⟩⟩
    have gt3 := gE.trans (Gr.new (o := .tup ((ni (setN ((sdL one two).map (perF b)))).map V.int)) nt3)
    rw [← vn_ni] at gt3 nt3 ⊢
    have ht3 : (upd (upd (upd H9 s1 (SetO w s1 (fun j => decide (j ∈ ni ((sdL one two).map (perF b)))) ks.length)) E2 (.lst (vn (setN ((sdL one two).map (perF b)))))) t3 (.tup (vn (setN ((sdL one two).map (perF b)))))) t3 = some (.tup (vn (spL b one two))) := upd_same
    have G10 := G8.trans (g9.trans gt3)
    have ht10 := gt3 t _ (by simp) (g9 t _ (by simp) ht8)
    generalize upd (upd (upd H9 s1 (SetO w s1 (fun j => decide (j ∈ ni ((sdL one two).map (perF b)))) ks.length)) E2 (.lst (vn (setN ((sdL one two).map (perF b)))))) t3 (.tup (vn (setN ((sdL one two).map (perF b))))) = H10 at ht3 G10 ht10 ⊢
    clear gE gt3 nt3 nE ns1 nd hk kl hz hs hzl hD nD g9 G8 ht8
    have hspm : ∀ k ∈ spL b one two, k < 8192 := fun k hk => by
      obtain ⟨n, hn, rfl⟩ := List.mem_map.mp (setN_mem.mp hk)
      have := hle n hn
      have := perF_le (b := b) (n := n) ⟨by omega, by omega, this.1, this.2⟩
      omega
    have hspl : (spL b one two).length ≤ 64 := by
      have h : (spL b one two).Nodup := (setN_asc _).imp fun h => by omega
      have := nodup_sub h (ys := (sdL one two).map (perF b)) fun z hz => setN_mem.mp hz
      rw [List.length_map] at this
      omega
    have sP : Sm (di (spL b one two)) 13 1 896 := vn_sm (m := 64) hspm hspl
    have fP := two_fits sP sP (by decide) (by decide)
    have hsp2 : spL b two one = spL b one two := by
      unfold spL
      rw [hsym]
    refine ⟨_, rfl, _, rfl, _, rfl, b, one, two, rfl, hb, h1', h2', hS.ok, fun _ t1 H5 g5 ht1 => ?_, fun ⟨z, hz, hgt⟩ => absurd (hall z hz) (by omega)⟩
    refine ⟨_, rfl, _, rfl, _, rfl, b, two, one, rfl, hb, h2', h1', hS2.ok, fun _ t2 H6 g6 ht2 => ?_, fun ⟨z, hz, hgt⟩ => absurd (hall2 z hz) (by omega)⟩
    rw [hsp2] at ht2
    refine ⟨by show 2 ≤ sizeLine; decide, fun p6 n6 => ?_⟩
    have g7 : Gr [] H6 (upd H6 p6 (.lst [.ref t1, .ref t2])) := Gr.new n6
    refine ⟨_, .list [di (spL b one two), di (spL b one two)], rfl, dp_lst upd_same (.cons (dp_vnT (g7 t1 _ (by simp) (g6 t1 _ (by simp) ht1))) (.cons (dp_vnT (g7 t2 _ (by simp) ht2)) .nil)), fP, ?_⟩
    refine ⟨_, rfl, _, rfl, by show 2 ≤ sizeLine; decide, fun p7 n7 => ?_⟩
    have g8 : Gr [] (upd H6 p6 (.lst [.ref t1, .ref t2])) (upd (upd H6 p6 (.lst [.ref t1, .ref t2])) p7 (.lst [.ref t3, .ref t3])) := Gr.new n7
    have G8 := ((g5.trans g6).trans g7).trans g8
    have ht38 := G8 t3 _ (by simp) ht3
    refine ⟨_, .list [di (spL b one two), di (spL b one two)], rfl, dp_lst upd_same (.cons (dp_vnT ht38) (.cons (dp_vnT ht38) .nil)), fP, ?_⟩
    generalize PyData.shown (.list [di (spL b one two), di (spL b one two)]) = zz
    refine ⟨rfl, _, rfl, iteFb (ne_self _) ?_⟩
    have ht8 := G8 t _ (by simp) ht10
    have G11 := G10.trans G8
    generalize upd (upd H6 p6 (.lst [.ref t1, .ref t2])) p7 (.lst [.ref t3, .ref t3]) = H8 at ht8 G11 ⊢
    clear g5 g6 g7 g8 ht1 ht2 n6 n7 ht38 ht3 ht10 G10 G8 sP fP hspm hspl
    
    have hdue : ∀ y ∈ vn (sdL one two), ∃ n : Nat, y = V.int (n : Nat) ∧ 1 ≤ n ∧ n ≤ 5000 := fun y hy => by
      obtain ⟨n, hn, rfl⟩ := List.mem_map.mp hy
      exact ⟨n, rfl, (hle n hn).1, (hle n hn).2⟩
    refine ⟨_, rfl, t, _, rfl, .inr (sq_tup ht8), fun l1 nl1 => ?_⟩
    have gl1 := Gr.new (W := []) (o := .lst (vn (sdL one two))) nl1
    have hl1 : (upd H8 l1 (.lst (vn (sdL one two)))) l1 = some (.lst (vn (sdL one two))) := upd_same
    have ht9 := gl1 t _ (by simp) ht8
    generalize upd H8 l1 (.lst (vn (sdL one two))) = H9 at gl1 hl1 ht9 ⊢
    refine ⟨_, rfl, _, rfl, _, rfl, _, rfl, _, _, rfl, rfl, .inl ⟨by omega, by omega⟩, by show 6 ≤ sizeLine; decide, fun tt ntt => ?_⟩
    have gtt := Gr.new (W := []) (o := .tup [.int 1, .int 2, .int (one : Nat), .int (two : Nat), .int ((one : Int) * (two : Int)), .int 7]) ntt
    have e12 : (one : Int) * (two : Int) = ((one * two : Nat) : Int) := by rw [Int.natCast_mul]
    have htt : (upd H9 tt (.tup [.int 1, .int 2, .int (one : Nat), .int (two : Nat), .int ((one : Int) * (two : Int)), .int 7])) tt = some (.tup (vn [1, 2, one, two, one * two, 7])) := by
      rw [upd_same, e12]
      rfl
    dsimp only
    generalize upd H9 tt (.tup [.int 1, .int 2, .int (one : Nat), .int (two : Nat), .int ((one : Int) * (two : Int)), .int 7]) = H10 at gtt htt ⊢
    have hp1 : 1 ≤ one * two := Nat.mul_pos h1.1 h2.1
    refine ⟨tt, rfl, ⟨_, sq_tup htt⟩, fun E nE => ?_⟩
    refine lc_tup (K := K) (a := tt) (xs := vn [1, 2, one, two, one * two, 7]) (fun i H' => Gr [] H10 H' ∧ ∃ us, H' E = some (.lst us) ∧ us.length ≤ i ∧ ∀ y ∈ us, ∃ n : Nat, y = V.int (n : Nat) ∧ 1 ≤ n ∧ n ≤ 5000) ⟨Gr.new nE, [], upd_same, Nat.le_refl _, fun y hy => absurd hy (by simp)⟩ (fun i H' _ z => sq_tup (z.1 tt _ (by simp) htt)) ?_ ?_
    · rintro i y H' hy ⟨G, us, hE, hul, hus⟩
      obtain ⟨hi, rfl⟩ := vn_get hy
      have hm := List.getElem_mem hi
      have hi6 : i < 6 := hi
      generalize ([1, 2, one, two, one * two, 7] : List Nat)[i] = n at hm ⊢
      have hn1 : 1 ≤ n := by
        simp only [List.mem_cons, List.not_mem_nil, or_false] at hm
        rcases hm with rfl | rfl | rfl | rfl | rfl | rfl <;> omega
      refine ⟨rfl, ?_⟩
      have ht' := G t _ (by simp) (gtt t _ (by simp) ht9)
      refine ⟨_, rfl, _, rfl, t, _, rfl, .inr (sq_tup ht'), rfl, flat_vnT _, _, rfl, ?_⟩
      cases hin : inV (.int (n : Nat)) (vn (sdL one two)) with
      | true => exact iteF (iteF ⟨G, us, hE, by omega, hus⟩)
      | false =>
      refine iteT ?_
      refine ⟨_, rfl, _, _, rfl, rfl, _, rfl, ?_⟩
      by_cases h5 : n ≤ 5000
      · refine iteTb (decide_eq_true (show (n : Int) ≤ 5000 by omega)) ?_
        refine ⟨_, rfl, _, hE, Nat.lt_of_lt_of_le (show us.length < 100 by omega) (by decide), fun c o _ ec => ?_, us ++ [.int (n : Nat)], upd_same, by rw [List.length_append]; show us.length + 1 ≤ i + 1; omega, fun y hy => ?_⟩
        · rw [upd_ne (ne_of_none ec nE)]
          exact G c o (by simp) ec
        · rw [List.mem_append, List.mem_singleton] at hy
          rcases hy with hy | rfl
          · exact hus y hy
          · exact ⟨n, rfl, hn1, h5⟩
      · exact iteFb (decide_eq_false (show ¬ (n : Int) ≤ 5000 by omega)) ⟨G, us, hE, by omega, hus⟩
    rintro H11 ⟨g11, us, hE, hul, hus⟩
    have hul : us.length ≤ 6 := hul
    refine ⟨l1, E, _, _, rfl, rfl, (gtt.trans g11) l1 _ (by simp) hl1, hE, Nat.le_trans (show _ ≤ 100 by rw [vn_len]; omega) (by decide), fun x nx => ?_⟩
    have gx := Gr.new (W := []) (o := .lst (vn (sdL one two) ++ us)) nx
    have hx : (upd H11 x (.lst (vn (sdL one two) ++ us))) x = some (.lst (vn (sdL one two) ++ us)) := upd_same
    have hxs : ∀ y ∈ vn (sdL one two) ++ us, ∃ n : Nat, y = V.int (n : Nat) ∧ 1 ≤ n ∧ n ≤ 5000 := fun y hy => by
      rw [List.mem_append] at hy
      rcases hy with hy | hy
      · exact hdue y hy
      · exact hus y hy
    have G12 := G11.trans (gl1.trans (gtt.trans (g11.trans gx)))
    have ht12 := (gtt.trans (g11.trans gx)) t _ (by simp) ht9
    generalize vn (sdL one two) ++ us = xs at hx hxs gx G12 ht12 ⊢
    generalize upd H11 x (.lst xs) = H12 at hx G12 ht12 ⊢
    have M12 := M4.gr G12
    have GH : Gr [d] H H12 := G4.trans (gr0 G12)
    clear gl1 gtt g11 gx G12 G11 M4 M G4 hE hul hus nE nx ntt nl1 hl1 htt ht8 ht9 hdue
    refine ⟨x, rfl, ⟨_, sq_lst hx⟩, ?_⟩
    refine for_list (K := K) (a := x) (xs := xs) (D := ⟨_, Q, fun _ _ => False, fun _ _ => False⟩) (fun i σ H' => Gr [] H12 H' ∧ ∃ v6 v7, σ = [some (.ref d), some (.int one), some (.int two), some (.ref t), some (.int b), some (.ref t3), v6, v7, none]) ⟨Gr.refl _ _, _, _, rfl⟩ (fun i σ H' _ z => sq_lst (z.1 x _ (by simp) hx)) ?_ ?_
    · rintro i y σ H' hy ⟨G, v6, v7, rfl⟩
      obtain ⟨n, rfl, hn⟩ := hxs y (List.mem_of_getElem? hy)
      have ht' := G t _ (by simp) ht12
      refine ⟨_, rfl, _, rfl, _, rfl, one, two, n, rfl, h1', h2', hn, fun v HA gA dA => ?_⟩
      have fO := (exO_sm (one := one) (two := two) (d := n) (by omega) (by omega) hn.2).fits
      have sO := (exO_sm (one := one) (two := two) (d := n) (by omega) (by omega) hn.2)
      refine ⟨_, rfl, v, _, rfl, dA, fO, ?_⟩
      refine ⟨_, rfl, _, rfl, _, rfl, one, two, n, rfl, h1', h2', hn, fun v2 HB gB dB => ?_⟩
      refine ⟨v2, _, rfl, dB, fO, ?_⟩
      generalize PyData.shown (exO one two n) = zz
      refine ⟨rfl, _, rfl, iteFb (ne_self _) ?_⟩
      have htB := (gA.trans gB) t _ (by simp) ht'
      have dB1 := Dp.kp (Kp.of gB) dA
      have GB := (G.trans gA).trans gB
      refine ⟨_, rfl, _, rfl, t, _, rfl, .inr (sq_tup htB), rfl, flat_vnT _, _, rfl, ?_⟩
      have hinV : inV (.int (n : Nat)) (vn (sdL one two)) = decide (n ∈ sdL one two) := by
        unfold vn
        rw [Bool.eq_iff_iff, decide_eq_true_iff]
        unfold inV
        rw [List.any_eq_true]
        constructor
        · rintro ⟨z, hz, e⟩
          obtain ⟨k, hk, rfl⟩ := List.mem_map.mp hz
          have e : (((k : Nat) : Int) == ((n : Nat) : Int)) = true := e
          have := eq_of_beq e
          rwa [show n = k by omega]
        · intro hk
          refine ⟨_, List.mem_map.mpr ⟨n, hk, rfl⟩, ?_⟩
          show (((n : Nat) : Int) == ((n : Nat) : Int)) = true
          exact beq_self_eq_true _
      rw [hinV]
      by_cases hnS : n ∈ sdL one two
      case neg =>
        rw [decide_eq_false hnS]
        have hex : exF one two n = none := by
          cases h : exF one two n with
          | none => rfl
          | some y =>
            obtain ⟨a1, a2, a3⟩ := exF_some h
            have := hS.all (1 % one) (one_cop h1.1) y (mem_copL a1 a2)
            rw [a3] at this
            exact absurd this hnS
        have eO : exO one two n = .list [.int (n : Nat)] := by
          unfold exO
          rw [hex]
        rw [eO] at dB1 sO
        refine iteT ?_
        refine ⟨_, rfl, _, rfl, by show 1 ≤ sizeLine; decide, fun p np => ?_⟩
        have gp := Gr.new (W := []) (o := .lst [.int (n : Nat)]) np
        refine ⟨.list [.int (n : Nat)], .list [.int (n : Nat)], Dp.kp (Kp.of gp) dB1, dp_lst upd_same (.cons (.int _) .nil), sO.shaped, sO.shaped, _, rfl, ?_⟩
        rw [sO.eqv]
        refine iteF ?_
        refine ⟨_, rfl, _, rfl, t, _, rfl, .inr (sq_tup (gp t _ (by simp) htB)), rfl, flat_vnT _, _, rfl, ?_⟩
        rw [hinV, decide_eq_false hnS]
        exact iteF ⟨GB.trans gp, _, _, rfl⟩
      rw [decide_eq_true hnS]
      obtain ⟨y, hex⟩ : ∃ y, exF one two n = some y := by
        cases h : exF one two n with
        | some y => exact ⟨y, rfl⟩
        | none =>
          obtain ⟨y, hy, e⟩ := hS.ex n hnS
          obtain ⟨y1, y2⟩ := copL_mem hy
          exact absurd e (exF_none h y y1 y2)
      obtain ⟨y1, y2, y3⟩ := exF_some hex
      have eO : exO one two n = exD one two y := by
        unfold exO
        rw [hex]
      rw [eO] at dB1 sO
      refine iteF (iteF ?_)
      refine ⟨_, rfl, _, rfl, t, _, rfl, .inr (sq_tup htB), rfl, flat_vnT _, _, rfl, ?_⟩
      rw [hinV, decide_eq_true hnS]
      refine iteT ?_
      refine ⟨_, rfl, v, "tuple", rfl, "tuple", ⟨(dp_ty dB1).1, (dp_ty dB1).2, by decide⟩, _, rfl, iteF ?_⟩
      have dB2 := dB1
      cases dB2 with
      | @tup ao xo _ so ao1 =>
      have hxo := dpAll_len ao1
      refine ⟨_, rfl, ao, xo, rfl, .inr so, rfl, _, rfl, iteFb (by rw [hxo]; rfl) ?_⟩
      cases ao1 with
      | cons d1 ao1 =>
      cases ao1 with
      | cons d2 ao1 =>
      cases ao1
      obtain ⟨a1, rfl, s1⟩ := dp_two d1
      obtain ⟨a2, rfl, s2⟩ := dp_two d2
      have hm1 := Nat.mod_lt 1 (show 0 < one by omega)
      have hg1 := (copL_mem (one_cop h1.1)).2
      refine ⟨_, rfl, ao, _, 0, _, rfl, rfl, so, atI_nat (j := 0) rfl, a1, _, 1, _, rfl, rfl, s1, atI_nat (j := 1) rfl, _, rfl, ao, _, 1, _, rfl, rfl, so, atI_nat (j := 1) rfl, a2, _, 1, _, rfl, rfl, s2, atI_nat (j := 1) rfl, by show 2 ≤ sizeLine; decide, fun p np => ?_⟩
      refine ⟨_, rfl, _, rfl, by show 2 ≤ sizeLine; decide, fun p2 np2 => ?_⟩
      have gp1 := Gr.new (W := []) (o := .lst [V.int (one : Nat), V.int (two : Nat)]) np
      have gp2 := Gr.new (W := []) (o := .lst [V.int (one : Nat), V.int (two : Nat)]) np2
      have sL : Sm (.list [.int (one : Nat), .int (two : Nat)]) 13 1 28 := Sm.lst (D := 0) (W := 13) 2 (fun x hx => by
        simp only [List.mem_cons, List.not_mem_nil, or_false] at hx
        rcases hx with rfl | rfl
        · exact int_sm (by omega)
        · exact int_sm (by omega)) (Nat.le_refl _)
      refine ⟨.list [.int (one : Nat), .int (two : Nat)], .list [.int (one : Nat), .int (two : Nat)], dp_lst (gp2 p _ (by simp) upd_same) (.cons (.int _) (.cons (.int _) .nil)), dp_lst upd_same (.cons (.int _) (.cons (.int _) .nil)), sL.shaped, sL.shaped, _, rfl, ?_⟩
      rw [sL.eqv]
      refine iteF ?_
      have gp := gp1.trans gp2
      have so := (Kp.of gp).sqT so
      have s1 := (Kp.of gp).sqT s1
      have s2 := (Kp.of gp).sqT s2
      have GB := GB.trans gp
      generalize upd (upd HB p (.lst [V.int (one : Nat), V.int (two : Nat)])) p2 (.lst [V.int (one : Nat), V.int (two : Nat)]) = HC at so s1 s2 GB ⊢
      clear gp gp1 gp2 np np2 d1 d2 dB1
      have low : ∀ (a : Addr) (X N : Nat) (H' : Hp) (D : Addr), X < N → N ≤ 5000 → Nat.gcd X N = 1 → SqT K H' a [.int (X : Nat), .int (N : Nat)] → ∀ (t2 : Addr) (H2 : Hp), Gr [] H' H2 → H2 t2 = some (.tup [.int ((lowN X N).1 : Nat), .int ((lowN X N).2 : Nat)]) →
          ∃ d e, Dp K H2 (.ref a) d ∧ Dp K H2 (.ref t2) e ∧ SeqAt.shaped d = true ∧ SeqAt.shaped e = true ∧ PyData.eqv d e = true := fun a X N H' D hX hN hg s t2 H2 g2 ht2 => by
        rw [low_self hX hg] at ht2
        have sP := pair_sm (a := X) (b := N) (by omega) (by omega)
        exact ⟨_, _, two_dp ((Kp.of g2).sqT s), two_dp (sq_tup ht2), sP.shaped, sP.shaped, sP.eqv⟩
      refine ⟨_, rfl, ao, rfl, ⟨_, so⟩, fun D nD => ?_⟩
      refine lc_tup (K := K) (a := ao) (xs := [.ref a1, .ref a2]) (fun i H' => Gr [] HC H' ∧ H' D = some (.lst [])) ⟨Gr.new nD, upd_same⟩ (fun i H' _ z => (Kp.of z.1).sqT so) ?_ ?_
      · rintro i x H' hx ⟨G, hD⟩
        have hxx : ∃ (a : Addr) (X N : Nat), x = .ref a ∧ X < N ∧ N ≤ 5000 ∧ Nat.gcd X N = 1 ∧ SqT K H' a [.int (X : Nat), .int (N : Nat)] := by
          have hm := List.mem_of_getElem? hx
          simp only [List.mem_cons, List.not_mem_nil, or_false] at hm
          rcases hm with rfl | rfl
          · exact ⟨a1, 1 % one, one, rfl, hm1, by omega, hg1, (Kp.of G).sqT s1⟩
          · exact ⟨a2, y, two, rfl, y1, by omega, y2, (Kp.of G).sqT s2⟩
        obtain ⟨a, X, N, rfl, hX, hN, hg, s⟩ := hxx
        refine ⟨rfl, ?_⟩
        refine ⟨_, rfl, _, rfl, a, _, 0, _, rfl, rfl, s, atI_nat (j := 0) rfl, _, rfl, a, _, 1, _, rfl, rfl, s, atI_nat (j := 1) rfl, X, N, rfl, ⟨by omega, by omega⟩, fun t2 H2 g2 ht2 => ?_⟩
        obtain ⟨d, e, q1, q2, q3, q4, q5⟩ := low a X N H' D hX hN hg s t2 H2 g2 ht2
        refine ⟨d, e, q1, q2, q3, q4, _, rfl, ?_⟩
        rw [q5]
        exact iteF ⟨G.trans g2, g2 D _ (by simp) hD⟩
      rintro HD ⟨gD, hD⟩
      refine ⟨by show 0 ≤ sizeLine; decide, fun p np => ?_⟩
      have gp := Gr.new (W := []) (o := .lst []) np
      refine ⟨.list [], .list [], dp_lst (gp D _ (by simp) hD) .nil, dp_lst upd_same .nil, rfl, rfl, _, rfl, iteF ?_⟩
      have gE := gD.trans gp
      have so := (Kp.of gE).sqT so
      have s1 := (Kp.of gE).sqT s1
      have s2 := (Kp.of gE).sqT s2
      refine ⟨_, rfl, ao, _, 0, _, rfl, rfl, so, atI_nat (j := 0) rfl, _, rfl, ao, _, 1, _, rfl, rfl, so, atI_nat (j := 1) rfl, a1, a2, 1 % one, one, y, two, rfl, s1, s2, h1', h2', ⟨by omega, by omega⟩, fun t2 HF gF ht2 => ⟨t2, _, 1, _, rfl, rfl, sq_tup ht2, atI_nat (j := 1) rfl, ?_⟩⟩
      refine ⟨_, rfl, rfl, _, rfl, iteFb (by rw [y3, decide_eq_true rfl]; rfl) ?_⟩
      exact ⟨(GB.trans gE).trans gF, _, _, rfl⟩
    rintro σ H' ⟨G, v6, v7, rfl⟩
    exact q H' (GH.trans (gr0 G)) (M12.gr G)

end
end Wn
namespace Wn
open PySem PySem.Spec PyProof.Rows L2
open LamX (Tabs ExtN tLam)
local macro_rules | `(tactic| walk_at "vc") => `(tactic| simp only [cxK, cxK2, start1, start2, start3, tRet, tRetN, tSeq, tNext, tIfS, tAsg, gName, tDrop, tVar, tC, tOp, tUn, tTest, tB, tNot, tAnd, tOr, tAndV, tOrV, tNotV, tIf, tCons, tNil, tCB, tCall, tChain, tAug, ipI, rI, rI0, rU, rIs, rGcd, rEq, rNe, scal,
  List.getElem?_cons_zero, List.getElem?_cons_succ, List.set_cons_zero, List.set_cons_succ, Option.some.injEq, List.cons.injEq, V.int.injEq, V.bl.injEq, V.ref.injEq, V.str.injEq, and_true, true_and, exists_eq_left, exists_eq_left', exists_and_left, exists_and_right, List.append_nil, List.nil_append, List.cons_append, exists_eq_right, exists_eq_right', and_assoc, exists_const, V.ty.injEq, ↓reduceIte, Bool.false_eq_true, Bool.not_true, Bool.not_false, decide_eq_true_eq])

section
variable {P : Program} {w : World} {K : PySem.W.Frag} {mg : Str → Option Value} {base : Heap}

def sp_law_sums_right : Sp := fun vs H Q _ => ∃ (d : Addr) (c : Nat), vs = [.ref d] ∧ MOk H d c ∧ c ≤ 900000000 ∧ ∀ H', Gr [d] H H' → MOk H' d (c + 16) → Q (.bl true) H'
theorem lowD_sm {a u : Nat} (hu : 1 ≤ u ∧ u ≤ 8000) : Sm (lowD a u) 13 1 28 := by
  have := low_ok (a := a) hu.1
  exact pair_sm (by omega) (by omega)
theorem three_fits {a b c : PyData} (h1 : Sm a 13 1 28) (h2 : Sm b 13 1 28) (h3 : Sm c 13 1 28) : Fits (.list [a, b, c]) := (Sm.lst (D := 1) (W := 28) 3 (fun x hx => by
  simp only [List.mem_cons, List.not_mem_nil, or_false] at hx
  rcases hx with rfl | rfl | rfl
  · exact h1
  · exact h2
  · exact h3) (Nat.le_refl _)).fits
theorem okG_law_sums_right (T : Txt K mg) : FnG P w K mg base CX0 7 T.d_law_sums_right.f T.d_law_sums_right.fd ["m"] sp_law_sums_right := by
  refine fnG0 T.d_law_sums_right.F sc_law_sums_right (fun vs H Q E h => ?_) (fun cdv A outer s H vs Q E hgd hr h => ?_)
  · obtain ⟨d, c, rfl, _⟩ := h; rfl
  · have hu := hu_of hr
    refine ⟨_, (pss_cons (ps_for PassesOwn.never rfl (pi_range1 (by rfl) T.b_range (pa_cons pe_int pa_nil)) (pg_name (i := 1) sc_law_sums_right.nd rfl (by first | exact .inl rfl | exact .inr rfl)) (pss_cons (ps_set (i := 2) sc_law_sums_right.nd rfl (by first | exact .inl rfl | exact .inr rfl) (pe_call (ok_law_lowest T) (hr.mono (by decide)) (by rfl) T.d_law_lowest.m T.d_law_lowest.F.kp T.d_law_lowest.b .nil pass0 (pa_cons (pe_call (ok_law_draw T) (hr.mono (by decide)) (by rfl) T.d_law_draw.m T.d_law_draw.F.kp T.d_law_draw.b .nil pass0 (pa_cons (pv 0) (pa_cons pe_int pa_nil))) (pa_cons (pe_op op_add pe_int (pe_call (ok_law_draw T) (hr.mono (by decide)) (by rfl) T.d_law_draw.m T.d_law_draw.F.kp T.d_law_draw.b .nil pass0 (pa_cons (pv 0) (pa_cons pe_int pa_nil)))) pa_nil))))
      (pss_cons (ps_set (i := 3) sc_law_sums_right.nd rfl (by first | exact .inl rfl | exact .inr rfl) (pe_call (ok_law_lowest T) (hr.mono (by decide)) (by rfl) T.d_law_lowest.m T.d_law_lowest.F.kp T.d_law_lowest.b .nil pass0 (pa_cons (pe_call (ok_law_draw T) (hr.mono (by decide)) (by rfl) T.d_law_draw.m T.d_law_draw.F.kp T.d_law_draw.b .nil pass0 (pa_cons (pv 0) (pa_cons pe_int pa_nil))) (pa_cons (pe_op op_add pe_int (pe_call (ok_law_draw T) (hr.mono (by decide)) (by rfl) T.d_law_draw.m T.d_law_draw.F.kp T.d_law_draw.b .nil pass0 (pa_cons (pv 0) (pa_cons pe_int pa_nil)))) pa_nil))))
      (pss_cons (ps_set (i := 4) sc_law_sums_right.nd rfl (by first | exact .inl rfl | exact .inr rfl) (pe_call (ok_law_sum T) (hr.mono (by decide)) (by rfl) T.d_law_sum.m T.d_law_sum.F.kp T.d_law_sum.b .nil pass0 (pa_cons (pv 2) (pa_cons (pv 3) pa_nil))))
      (pss_one (ps_if (pt_cmpR op_ne (pe_callB (r := rRepr K) (call_repr hgd (gu_of hr)) (by rfl) T.b_repr (by decide +kernel) (pa_cons (pe_lst (pa_cons (pe_call (okX_sum_of T) (hr.mono (by decide)) (by rfl) T.d_sum_of.m T.d_sum_of.F.kp T.d_sum_of.b .nil (passes_call takes0 (fun _ _ _ _ z => z)) (pa_cons (pv 2) (pa_cons (pv 3) pa_nil))) (pa_cons (pe_call (okX_sum_of T) (hr.mono (by decide)) (by rfl) T.d_sum_of.m T.d_sum_of.F.kp T.d_sum_of.b .nil (passes_call takes0 (fun _ _ _ _ z => z)) (pa_cons (pv 3) (pa_cons (pv 2) pa_nil))) (pa_cons (pe_call (okX_sum_of T) (hr.mono (by decide)) (by rfl) T.d_sum_of.m T.d_sum_of.F.kp T.d_sum_of.b .nil (passes_call takes0 (fun _ _ _ _ z => z)) (pa_cons (pv 2) (pa_cons (pe_tup (pa_cons pe_int (pa_cons pe_int pa_nil))) pa_nil))) pa_nil)))) pa_nil)) (pe_callB (r := rRepr K) (call_repr hgd (gu_of hr)) (by rfl) T.b_repr (by decide +kernel) (pa_cons (pe_lst (pa_cons (pv 4) (pa_cons (pv 4) (pa_cons (pv 2) pa_nil)))) pa_nil)) (nomark _)) (pss_one (ps_ret pe_bl)) pss_nil))))))
      (pss_one (ps_ret pe_bl))), ?_⟩
    obtain ⟨d, c, rfl, M, hc, q⟩ := h
    refine ⟨(4 : Int), rfl, by decide, by decide, ?_⟩
    refine for_range (lo := 0) (n := 4) (fun i σ H' => Gr [d] H H' ∧ MOk H' d (c + 4 * i) ∧ ∃ v1 v2 v3 v4, σ = [some (.ref d), v1, v2, v3, v4]) ⟨Gr.refl _ _, M, none, none, none, none, rfl⟩ ?_ ?_
    · rintro i σ H0 hi ⟨G, M, v1, v2, v3, v4, rfl⟩
      have hi4 : i < 4 := hi
      refine ⟨_, rfl, d, 60, c + 4 * i, rfl, M, ⟨by decide, lim_le (by decide), by omega⟩, fun r1 H1 hr1 g1 M1 => ?_⟩
      refine ⟨_, rfl, d, 60, c + 4 * i + 1, rfl, M1, ⟨by decide, lim_le (by decide), by omega⟩, fun r2 H2 hr2 g2 M2 => ?_⟩
      refine ⟨_, _, rfl, rfl, r1, 1 + r2, by rw [Int.natCast_add]; rfl, ⟨by omega, by omega⟩, fun t1 H3 g3 ht1 => ?_⟩
      obtain ⟨x1, x2, x3⟩ := low_ok (a := r1) (u := 1 + r2) (by omega)
      generalize (lowN r1 (1 + r2)).1 = x at ht1 x1 x2
      generalize (lowN r1 (1 + r2)).2 = n at ht1 x1 x2 x3
      have M3 := M2.gr g3
      refine ⟨_, rfl, d, 80, c + 4 * i + 2, rfl, M3, ⟨by decide, lim_le (by decide), by omega⟩, fun r3 H4 hr3 g4 M4 => ?_⟩
      refine ⟨_, rfl, d, 80, c + 4 * i + 3, rfl, M4, ⟨by decide, lim_le (by decide), by omega⟩, fun r4 H5 hr4 g5 M5 => ?_⟩
      refine ⟨_, _, rfl, rfl, r3, 1 + r4, by rw [Int.natCast_add]; rfl, ⟨by omega, by omega⟩, fun t2 H6 g6 ht2 => ?_⟩
      obtain ⟨y1, y2, y3⟩ := low_ok (a := r3) (u := 1 + r4) (by omega)
      generalize (lowN r3 (1 + r4)).1 = y at ht2 y1 y2
      generalize (lowN r3 (1 + r4)).2 = m at ht2 y1 y2 y3
      have M6 := M5.gr g6
      have ht1 : H6 t1 = some (.tup [.int (x : Nat), .int (n : Nat)]) := g6 t1 _ (by simp) (g5 t1 _ (M4.ne (g4 t1 _ (M3.ne ht1 (by intro k z; cases z)) ht1) (by intro k z; cases z)) (g4 t1 _ (M3.ne ht1 (by intro k z; cases z)) ht1))
      have G6 : Gr [d] H H6 := ((G.trans (g1.trans g2)).trans ((gr0 g3).trans g4)).trans (g5.trans (gr0 g6))
      clear g1 g2 g3 g4 g5 g6 M1 M2 M3 M4 M5 M
      have hnm : 1 ≤ n * m ∧ n * m ≤ 4941 := ⟨Nat.mul_pos (by omega) (by omega), Nat.mul_le_mul (show n ≤ 61 by omega) (show m ≤ 81 by omega)⟩
      refine ⟨_, rfl, _, rfl, t1, t2, x, n, y, m, rfl, sq_tup ht1, sq_tup ht2, ⟨by omega, by omega⟩, ⟨by omega, by omega⟩, ⟨by omega, by omega⟩, fun t3 H7 g7 ht3 => ?_⟩
      rw [← low_two] at ht3
      have d3 : Dp K H7 (.ref t3) (lowD (x * m + y * n) (n * m)) := two_dp (sq_tup ht3)
      have hle := (low_ok (a := x * m + y * n) hnm.1).2.2
      have sm3 := lowD_sm (a := x * m + y * n) (u := n * m) ⟨hnm.1, by omega⟩
      have ht17 := g7 t1 _ (by simp) ht1
      have ht27 := g7 t2 _ (by simp) ht2
      refine ⟨_, rfl, _, rfl, t1, t2, x, n, y, m, rfl, ht17, ht27, ⟨x1, by omega, x2⟩, ⟨y1, by omega, y2⟩, fun _ va H8 g8 da => ?_, fun hgt => absurd hgt (by omega)⟩
      have ecomm : lowD (y * n + x * m) (m * n) = lowD (x * m + y * n) (n * m) := by rw [Nat.add_comm, Nat.mul_comm m n]
      have hle2 := (low_ok (a := y * n + x * m) (u := m * n) (by rw [Nat.mul_comm]; exact hnm.1)).2.2
      rw [Nat.mul_comm m n] at hle2
      refine ⟨_, rfl, _, rfl, t2, t1, y, m, x, n, rfl, g8 t2 _ (by simp) ht27, g8 t1 _ (by simp) ht17, ⟨y1, by omega, y2⟩, ⟨x1, by omega, x2⟩, fun _ vb H9 g9 db => ?_, fun hgt => absurd hgt (by rw [Nat.mul_comm m n]; omega)⟩
      rw [ecomm] at db
      refine ⟨_, rfl, by show 2 ≤ sizeLine; decide, fun t0 nt0 => ?_⟩
      have g0 := Gr.new (W := []) (o := .tup [.int 0, .int 1]) nt0
      have elow : lowN (x * 1 + 0 * n) (n * 1) = (x, n) := by
        rw [Nat.mul_one, Nat.zero_mul, Nat.add_zero, Nat.mul_one]
        exact low_self x1 x2
      have ele : lowD (x * 1 + 0 * n) (n * 1) = .tuple [.int (x : Nat), .int (n : Nat)] := by
        unfold lowD
        rw [elow]
      refine ⟨t1, t0, x, n, 0, 1, rfl, g0 t1 _ (by simp) (g9 t1 _ (by simp) (g8 t1 _ (by simp) ht17)), upd_same, ⟨x1, by omega, x2⟩, ⟨by decide, by decide, by decide⟩, fun _ vc H10 g10 dc => ?_, fun hgt => absurd hgt (by rw [elow]; show ¬ 5000 < n; omega)⟩
      rw [ele] at dc
      refine ⟨by show 3 ≤ sizeLine; decide, fun p6 n6 => ?_⟩
      have g6 := Gr.new (W := []) (o := .lst [va, vb, vc]) n6
      have sx := pair_sm (a := x) (b := n) (by omega) (by omega)
      have fT := three_fits sm3 sm3 sx
      have gA := ((g9.trans g0).trans g10).trans g6
      refine ⟨_, .list [lowD (x * m + y * n) (n * m), lowD (x * m + y * n) (n * m), .tuple [.int (x : Nat), .int (n : Nat)]], rfl, dp_lst upd_same (.cons (Dp.kp (Kp.of gA) da) (.cons (Dp.kp (Kp.of ((g0.trans g10).trans g6)) db) (.cons (Dp.kp (Kp.of g6) dc) .nil))), fT, ?_⟩
      refine ⟨_, rfl, _, rfl, _, rfl, by show 3 ≤ sizeLine; decide, fun p7 n7 => ?_⟩
      have g77 := Gr.new (W := []) (o := .lst [.ref t3, .ref t3, .ref t1]) n7
      have gB := (g8.trans gA).trans g77
      have d37 := Dp.kp (Kp.of gB) d3
      refine ⟨_, .list [lowD (x * m + y * n) (n * m), lowD (x * m + y * n) (n * m), .tuple [.int (x : Nat), .int (n : Nat)]], rfl, dp_lst upd_same (.cons d37 (.cons d37 (.cons (two_dp (sq_tup (gB t1 _ (by simp) ht17))) .nil))), fT, ?_⟩
      generalize PyData.shown (.list [lowD (x * m + y * n) (n * m), lowD (x * m + y * n) (n * m), .tuple [.int (x : Nat), .int (n : Nat)]]) = zz
      refine ⟨rfl, _, rfl, iteFb (ne_self _) ?_⟩
      exact ⟨G6.trans (gr0 (g7.trans gB)), (M6.gr (g7.trans gB)).mono (by omega), _, _, _, _, rfl⟩
    rintro σ H' ⟨G, M, v1, v2, v3, v4, rfl⟩
    exact q H' G M

end
end Wn
/-! what comes of a lambda that is called in a try: its value itself, or an error's word and field -/
namespace Wn
open PySem PySem.Spec PyProof.Rows L2 LamX
def TTh (es : List (Addr × Str × (V → HO))) : (XK → Hp → VK → Prop) → Hp → VK → Prop := fun tl H Q =>
  ∀ (H2 : Hp) (Qn : VK) (E : XK), Gr [] H H2 → (∀ v H3, Q v H3 → Qn v H3) →
    (∀ (C d : Addr) (f : Str) (mk : V → HO) (v : V) (H3 : Hp), (C, f, mk) ∈ es → H3 d = some (.xd [(f, v)]) → (∀ t H4, Gr [] H3 H4 → H4 t = some (mk v) → Q (.ref t) H4) → E (.ref C) (some d) H3) → tl E H2 Qn
section
variable {K : PySem.W.Frag} {T : List (Addr × Str)} {σ : L2.St} {H : Hp} {es : List (Addr × Str × (V → HO))} {t : XK → TE} {d : PyData}
theorem et_hV (h : ∀ (E : XK) (H1 : Hp), ExtN H H1 → ∀ Q : VK, (∀ v H2, Gr [] H1 H2 → Dp K H2 v d → Q v H2) → t E σ H1 Q) : EvT K T (tLam T (TTh es) t) σ H d := fun H1 g0 t1 Q q =>
  ⟨t1, fun H2 g2 t2 H3 Qn E g3 kn _ => h E H3 ((g0.trans g2).trans (extOf g3)) Qn fun v H4 g4 a => kn v H4 (q v H4 (g2.trans (extOf (g3.trans g4))) (tabsGr t2 (g3.trans g4)) a)⟩
theorem et_hX {C : Addr} {f w : Str} {mk : V → HO} (hm : (C, f, mk) ∈ es) (hk : ∀ v, mk v = .tup [.str w, v])
    (h : ∀ (E : XK) (H1 : Hp), ExtN H H1 → ∀ (Q : VK), (∀ (dd : Addr) (v : V) H2, Gr [] H1 H2 → H2 dd = some (.xd [(f, v)]) → Dp K H2 v d → E (.ref C) (some dd) H2) → t E σ H1 Q) : EvT K T (tLam T (TTh es) t) σ H (.tuple [.str w, d]) := fun H1 g0 t1 Q q =>
  ⟨t1, fun H2 g2 t2 H3 Qn E g3 kn ke => h E H3 ((g0.trans g2).trans (extOf g3)) Qn fun dd v H4 g4 hd a => ke C dd f mk v H4 hm hd fun t' H5 g5 h5 =>
    q _ _ (g2.trans (extOf ((g3.trans g4).trans g5))) (tabsGr t2 ((g3.trans g4).trans g5)) (dp_tup (by rw [h5, hk]) (.cons (.str _) (.cons (Dp.kp (Kp.of g5) a) .nil)))⟩
theorem et_hXl {C : Addr} {f w : Str} {mk : V → HO} (hm : (C, f, mk) ∈ es) (hk : ∀ v, mk v = .lst [.str w, v])
    (h : ∀ (E : XK) (H1 : Hp), ExtN H H1 → ∀ (Q : VK), (∀ (dd : Addr) (v : V) H2, Gr [] H1 H2 → H2 dd = some (.xd [(f, v)]) → Dp K H2 v d → E (.ref C) (some dd) H2) → t E σ H1 Q) : EvT K T (tLam T (TTh es) t) σ H (.list [.str w, d]) := fun H1 g0 t1 Q q =>
  ⟨t1, fun H2 g2 t2 H3 Qn E g3 kn ke => h E H3 ((g0.trans g2).trans (extOf g3)) Qn fun dd v H4 g4 hd a => ke C dd f mk v H4 hm hd fun t' H5 g5 h5 =>
    q _ _ (g2.trans (extOf ((g3.trans g4).trans g5))) (tabsGr t2 ((g3.trans g4).trans g5)) (dp_lst (by rw [h5, hk]) (.cons (.str _) (.cons (Dp.kp (Kp.of g5) a) .nil)))⟩
/-- data beside no lambda -/
theorem et_ew {te : TE} (h : ∀ H, EvW K [] te σ H d) : EvT K T te σ H d := et_of fun H => (h H).evd
theorem et_ewV {te : TE} (h : ∀ H', ExtN H H' → EvW K [] te σ H' d) : EvT K T te σ H d := fun H1 g t1 Q q => h H1 g H1 (Gr.refl _ _) (fun a m => by simp at m) Q fun v H2 g2 e => q v H2 (extOf g2) (tabsGr t1 g2) (Dp.kp hid_out e)
theorem dpA_rep {H : Hp} {vs : List V} {ds : List PyData} (a : DpAll K H vs ds) : ∀ k : Nat, DpAll K H (List.replicate k vs).flatten (List.replicate k ds).flatten
  | 0 => .nil
  | k + 1 => by
    rw [List.replicate_succ, List.replicate_succ, List.flatten_cons, List.flatten_cons]
    exact dpAll_append a (dpA_rep a k)
theorem etl_rep {te ti : TE} {ds : List PyData} {k : Nat} (h : EvTL K T te σ H ds) (hi : EvT K T ti σ H (.int (k : Nat))) (hk : k ≤ 1000 := by exact Nat.le_of_ble_eq_true rfl) (hz : ds.length ≤ 1000 := by exact Nat.le_of_ble_eq_true rfl) : EvTL K T (tOp rRep te ti) σ H (List.replicate k ds).flatten := fun H1 g t1 Q q =>
  h H1 g t1 _ fun p xs H2 g2 t2 e2 a2 => hi H2 (g.trans g2) t2 _ fun v H3 g3 t3 e3 => by
    obtain rfl := dp_int e3
    have hl := dpAll_len a2
    have hm : xs.length * k ≤ 1000 * 1000 := Nat.mul_le_mul (by omega) hk
    refine ⟨p, (k : Int), xs, rfl, rfl, ExtN.lst g3 e2, by omega, by omega, ?_, fun r nr => ?_⟩
    · rw [Int.toNat_natCast]
      exact Nat.le_trans hm (by decide)
    · rw [Int.toNat_natCast]
      have gr := Gr.new (W := []) (o := .lst (List.replicate k xs).flatten) nr
      exact q r _ _ ((g2.trans g3).trans (extOf gr)) (tabsGr t3 gr) upd_same (dpA_rep (DpAll.kp (kpExt (g3.trans (extOf gr))) a2) k)
end
end Wn
namespace Wn
open PySem PySem.Spec PyProof.Rows L2
open LamX (Tabs ExtN tLam)
local macro_rules | `(tactic| walk_at "vc") => `(tactic| simp only [cxK, cxK2, start1, start2, start3, tRet, tRetN, tSeq, tNext, tIfS, tAsg, gName, tDrop, tVar, tC, tOp, tUn, tTest, tB, tNot, tAnd, tOr, tAndV, tOrV, tNotV, tIf, tCons, tNil, tCB, tCall, tChain, tAug, ipI, rI, rI0, rU, rIs, rGcd, rEq, rNe, scal,
  List.getElem?_cons_zero, List.getElem?_cons_succ, List.set_cons_zero, List.set_cons_succ, Option.some.injEq, List.cons.injEq, V.int.injEq, V.bl.injEq, V.ref.injEq, V.str.injEq, and_true, true_and, exists_eq_left, exists_eq_left', exists_and_left, exists_and_right, List.append_nil, List.nil_append, List.cons_append, exists_eq_right, exists_eq_right', and_assoc, exists_const, V.ty.injEq, ↓reduceIte, Bool.false_eq_true, Bool.not_true, Bool.not_false, decide_eq_true_eq])

section
variable {P : Program} {w : World} {K : PySem.W.Frag} {mg : Str → Option Value} {base : Heap}

/-- the errors that are told: class, field, what is told -/
def hes (T : Txt K mg) : List (Addr × Str × (V → HO)) := [(T.C_TooGreat, "most", fun v => .tup [.str "great", v])]
def tl (T : Txt K mg) : List (Addr × Str) := [(T.p_law_hand_right, ("_law_hand_right" : Str) ++ ".<locals>." ++ "<lambda>")]
theorem hm_law_hand_right (T : Txt K mg) : (T.p_law_hand_right, ("_law_hand_right" : Str) ++ ".<locals>." ++ "<lambda>") ∈ tl T := by
  unfold tl
  simp
theorem hu_law_hand_right (T : Txt K mg) : ∀ p ∈ tl T, p.1 = T.p_law_hand_right → p.2 = ("_law_hand_right" : Str) ++ ".<locals>." ++ "<lambda>" := by
  intro p hp e
  unfold tl at hp
  simp only [List.mem_cons, List.not_mem_nil, or_false] at hp
  rcases hp with rfl
  · rfl

structure Tbs (T : Txt K mg) (base : Heap) : Prop where
  tb_law_hand_right : LamX.TabB base mg T.k_law_hand_right T.p_law_hand_right

abbrev TTout (T : Txt K mg) : (XK → Hp → VK → Prop) → Hp → VK → Prop := TTh (hes T)
theorem gives_out {X : Cx} (T : Txt K mg) (hK : X.K = K) (hm : X.mg = mg) {q : Str} : Gives X ["call", "error"] "_law_heard" (defScope s_law_heard) T.d_law_heard.f T.d_law_heard.fd.code (defBody s_law_heard) "call" q (TTout T) := by
  subst hK hm
  intro f c' s H Q tl hr act hc h
  have hu := hu_of hr
  refine ⟨_, (pss_one (ps_try_as (i := 1) (Wout := fun _ _ _ _ => False) rfl rfl sc_law_heard.nd rfl rfl ⟨rfl, by decide, .inl T.g_TooGreat⟩ takes0 (fun W pn xe tk _ => (pss_one (ps_ret (act W pn xe _ _ tk)))) (fun a oe cls d pn hz hf => (pss_one (ps_ret (pe_tup (pa_cons pe_str (pa_cons (pe_byE T.T_TooGreat.xf T.T_TooGreat.no hz hf (pv 1)) pa_nil)))))))), ?_⟩
  refine ⟨rfl, hc, fun cls d H3 => ∃ (dd : Addr) (v : V), cls = .ref T.C_TooGreat ∧ d = some dd ∧ H3 dd = some (.xd [("most", v)]) ∧ ∀ t H4, Gr [] H3 H4 → H4 t = some (.tup [.str "great", v]) → Q (.ref t) H4, ?_, ?_⟩
  · rintro cls d H3 ⟨dd, v, rfl, rfl, hx, k⟩
    refine ⟨true, T.ex1_TooGreat, fun _ a na => ?_, fun z => Bool.noConfusion z⟩
    exact ⟨_, rfl, rfl, rfl, dd, v, rfl, hx, by show 2 ≤ sizeLine; decide, fun t nt => k t _ (Gr.new nt) upd_same⟩
  · refine h H _ _ (Gr.refl _ _) (fun v H3 z => z) (fun C d f mk v H3 he hx k => ?_)
    unfold hes at he
    simp only [List.mem_cons, List.not_mem_nil, or_false, Prod.mk.injEq] at he
    obtain ⟨rfl, rfl, rfl⟩ := he
    exact ⟨d, v, rfl, rfl, hx, k⟩

end
end Wn
namespace Wn
open PySem PySem.Spec PyProof.Rows L2
open LamX (Tabs ExtN tLam)
local macro_rules | `(tactic| walk_at "vc") => `(tactic| simp only [cxK, cxK2, start1, start2, start3, tRet, tRetN, tSeq, tNext, tIfS, tAsg, gName, tDrop, tVar, tC, tOp, tUn, tTest, tB, tNot, tAnd, tOr, tAndV, tOrV, tNotV, tIf, tCons, tNil, tCB, tCall, tChain, tAug, ipI, rI, rI0, rU, rIs, rGcd, rEq, rNe, scal,
  List.getElem?_cons_zero, List.getElem?_cons_succ, List.set_cons_zero, List.set_cons_succ, Option.some.injEq, List.cons.injEq, V.int.injEq, V.bl.injEq, V.ref.injEq, V.str.injEq, and_true, true_and, exists_eq_left, exists_eq_left', exists_and_left, exists_and_right, List.append_nil, List.nil_append, List.cons_append, exists_eq_right, exists_eq_right', and_assoc, exists_const, V.ty.injEq, ↓reduceIte, Bool.false_eq_true, Bool.not_true, Bool.not_false, decide_eq_true_eq])

section
variable {P : Program} {w : World} {K : PySem.W.Frag} {mg : Str → Option Value} {base : Heap}

def sp_law_hand (T : Txt K mg) : Sp := fun vs H Q _ => vs = [] ∧ Tabs (tl T) H ∧ ∀ H', Q (.bl true) H'
abbrev EF : XK := fun _ _ _ => False
def bndB (one two : Nat) : Bool := decide (1 ≤ one ∧ one ≤ 5000) && decide (1 ≤ two ∧ two ≤ 5000) && sumOk one two
theorem bnd_of {one two : Nat} (h : bndB one two = true) : (1 ≤ one ∧ one ≤ 5000) ∧ (1 ≤ two ∧ two ≤ 5000) ∧ sumOk one two = true := by
  unfold bndB at h
  rw [Bool.and_eq_true, Bool.and_eq_true] at h
  exact ⟨of_decide_eq_true h.1.1, of_decide_eq_true h.1.2, h.2⟩
theorem leS {one two : Nat} {S : List Nat} (hS : sdL one two = S) (hl : (S.all fun z => decide (z ≤ 5000)) = true) : ∀ z ∈ sumL one two, z ≤ 5000 := fun z hz => by
  have := sdL_mem.mpr hz
  rw [hS] at this
  exact of_decide_eq_true (List.all_eq_true.mp hl z this)
theorem spd_sd {T : Txt K mg} {E : XK} {one two : Nat} {S : List Nat} (h : bndB one two = true) (hS : sdL one two = S) (hl : (S.all fun z => decide (z ≤ 5000)) = true) : SpD K (sp_sum_denominators T) E [.int (one : Nat), .int (two : Nat)] (di S) := fun vs H1 Q a q => by
  obtain rfl := dpA_ints (zs := [(one : Int), (two : Int)]) a
  obtain ⟨h1, h2, h3⟩ := bnd_of h
  have hle := leS hS hl
  refine ⟨one, two, rfl, h1, h2, h3, fun _ t H' g ht => q _ _ g (dp_vnT (by rw [ht, hS])), fun ⟨z, hz, hgt⟩ => absurd (hle z hz) (by omega)⟩
theorem spd_sp {T : Txt K mg} {E : XK} {b one two : Nat} {S P : List Nat} (hb : 2 ≤ b ∧ b ≤ 1000) (h : bndB one two = true) (hS : sdL one two = S) (hl : (S.all fun z => decide (z ≤ 5000)) = true) (hP : setN (S.map (perF b)) = P) : SpD K (sp_sum_periods T) E [.int (b : Nat), .int (one : Nat), .int (two : Nat)] (di P) := fun vs H1 Q a q => by
  obtain rfl := dpA_ints (zs := [(b : Int), (one : Int), (two : Int)]) a
  obtain ⟨h1, h2, h3⟩ := bnd_of h
  have hle := leS hS hl
  have e : spL b one two = P := by
    unfold spL
    rw [hS, hP]
  refine ⟨b, one, two, rfl, hb, h1, h2, h3, fun _ t H' g ht => q _ _ g (dp_vnT (by rw [ht, e])), fun ⟨z, hz, hgt⟩ => absurd (hle z hz) (by omega)⟩
theorem gtS {one two : Nat} (h : ((sumL one two).any fun z => decide (5000 < z)) = true) : ∃ z ∈ sumL one two, 5000 < z := by
  obtain ⟨z, hz, e⟩ := List.any_eq_true.mp h
  exact ⟨z, hz, of_decide_eq_true e⟩
theorem no_le {one two : Nat} (h : ((sumL one two).any fun z => decide (5000 < z)) = true) : ¬ ∀ z ∈ sumL one two, z ≤ 5000 := fun hh => by
  obtain ⟨z, hz, e⟩ := gtS h
  have := hh z hz
  omega
theorem spx_sd {T : Txt K mg} {E : XK} {one two : Nat} {H1 : Hp} {Q : VK} (h : bndB one two = true) (hg : ((sumL one two).any fun z => decide (5000 < z)) = true)
    (ke : ∀ (dd : Addr) (v : V) H2, Gr [] H1 H2 → H2 dd = some (.xd [("most", v)]) → Dp K H2 v (.int 5000) → E (.ref T.C_TooGreat) (some dd) H2) : sp_sum_denominators T [.int (one : Nat), .int (two : Nat)] H1 Q E := by
  obtain ⟨h1, h2, h3⟩ := bnd_of h
  exact ⟨one, two, rfl, h1, h2, h3, fun hh => absurd hh (no_le hg), fun _ H2 dd g nd => ke dd _ _ (g.trans (Gr.new nd)) upd_same (.int _)⟩
theorem spx_sp {T : Txt K mg} {E : XK} {b one two : Nat} {H1 : Hp} {Q : VK} (hb : 2 ≤ b ∧ b ≤ 1000) (h : bndB one two = true) (hg : ((sumL one two).any fun z => decide (5000 < z)) = true)
    (ke : ∀ (dd : Addr) (v : V) H2, Gr [] H1 H2 → H2 dd = some (.xd [("most", v)]) → Dp K H2 v (.int 5000) → E (.ref T.C_TooGreat) (some dd) H2) : sp_sum_periods T [.int (b : Nat), .int (one : Nat), .int (two : Nat)] H1 Q E := by
  obtain ⟨h1, h2, h3⟩ := bnd_of h
  exact ⟨b, one, two, rfl, hb, h1, h2, h3, fun hh => absurd hh (no_le hg), fun _ H2 dd g nd => ke dd _ _ (g.trans (Gr.new nd)) upd_same (.int _)⟩
def frB (x n : Nat) : Bool := decide (x < n) && decide (n ≤ 5000) && Nat.gcd x n == 1
theorem fr_of {x n : Nat} (h : frB x n = true) : FrP x n := by
  unfold frB at h
  simp only [Bool.and_eq_true, decide_eq_true_eq, beq_iff_eq] at h
  exact ⟨h.1.1, h.1.2, h.2⟩
/-- the sum of two written fractions -/
theorem ev_so {T : Txt K mg} {σ : L2.St} {H : Hp} {x n y m u z : Nat} (h : (frB x n && frB y m && decide (lowN (x * m + y * n) (n * m) = (u, z)) && decide (z ≤ 5000)) = true) :
    EvW K [] (tCall (sp_sum_of T) [] EF (tCons (tTup (tCons (tC (.int (x : Nat))) (tCons (tC (.int (n : Nat))) tNil))) (tCons (tTup (tCons (tC (.int (y : Nat))) (tCons (tC (.int (m : Nat))) tNil))) tNil))) σ H (.tuple [.int (u : Nat), .int (z : Nat)]) := fun H1 g s Q q => by
  simp only [Bool.and_eq_true, decide_eq_true_eq] at h
  obtain ⟨⟨⟨h1, h2⟩, h3⟩, h4⟩ := h
  refine ⟨by show 2 ≤ sizeLine; decide, fun a na => ⟨by show 2 ≤ sizeLine; decide, fun c nc => ?_⟩⟩
  have ga := Gr.new (W := []) (o := .tup [.int (x : Nat), .int (n : Nat)]) na
  have gc := Gr.new (W := []) (o := .tup [.int (y : Nat), .int (m : Nat)]) nc
  refine ⟨a, c, x, n, y, m, rfl, gc a _ (by simp) upd_same, upd_same, fr_of h1, fr_of h2, fun _ v H' g' d' => q v H' ((ga.trans gc).trans g') (Dp.kp hid_in0 ?_), fun hgt => absurd hgt (by rw [h3]; show ¬ 5000 < z; omega)⟩
  unfold lowD at d'
  rw [h3] at d'
  exact d'
theorem sox {T : Txt K mg} {σ : L2.St} {E : XK} {H1 : Hp} {Q : VK} {x n y m : Nat} (h : (frB x n && frB y m && decide (5000 < (lowN (x * m + y * n) (n * m)).2)) = true)
    (ke : ∀ (dd : Addr) (v : V) H2, Gr [] H1 H2 → H2 dd = some (.xd [("most", v)]) → Dp K H2 v (.int 5000) → E (.ref T.C_TooGreat) (some dd) H2) :
    tCall (sp_sum_of T) [] E (tCons (tTup (tCons (tC (.int (x : Nat))) (tCons (tC (.int (n : Nat))) tNil))) (tCons (tTup (tCons (tC (.int (y : Nat))) (tCons (tC (.int (m : Nat))) tNil))) tNil)) σ H1 Q := by
  simp only [Bool.and_eq_true, decide_eq_true_eq] at h
  obtain ⟨⟨h1, h2⟩, h3⟩ := h
  refine ⟨by show 2 ≤ sizeLine; decide, fun a na => ⟨by show 2 ≤ sizeLine; decide, fun c nc => ?_⟩⟩
  have ga := Gr.new (W := []) (o := .tup [.int (x : Nat), .int (n : Nat)]) na
  have gc := Gr.new (W := []) (o := .tup [.int (y : Nat), .int (m : Nat)]) nc
  exact ⟨a, c, x, n, y, m, rfl, gc a _ (by simp) upd_same, upd_same, fr_of h1, fr_of h2, fun hle => absurd hle (by omega), fun _ H2 dd g nd => ke dd _ _ (((ga.trans gc).trans g).trans (Gr.new nd)) upd_same (.int _)⟩
theorem spd_ex {one two d : Nat} {r : PyData} (h : (1 ≤ one ∧ one ≤ 5000) ∧ (1 ≤ two ∧ two ≤ 5000) ∧ (1 ≤ d ∧ d ≤ 5000)) (hr : exO one two d = r) : SpD K (sp_law_example K) E0 [.int (one : Nat), .int (two : Nat), .int (d : Nat)] r := fun vs H1 Q a q => by
  obtain rfl := dpA_ints (zs := [(one : Int), (two : Int), (d : Int)]) a
  subst hr
  exact ⟨one, two, d, rfl, h.1, h.2.1, h.2.2, q⟩
theorem exO_some {one two d y : Nat} (h : exF one two d = some y) : exO one two d = exD one two y := by
  unfold exO
  rw [h]
theorem exO_none {one two d : Nat} (h : exF one two d = none) : exO one two d = .list [.int (d : Nat)] := by
  unfold exO
  rw [h]
theorem spd_ls {x n y m u z : Nat} (h : (decide (1 ≤ n ∧ n ≤ 5000) && decide (1 ≤ m ∧ m ≤ 5000) && decide (x ≤ 5000 ∧ y ≤ 5000) && decide ((lowN (x * m + y * n) (n * m)).1 = u) && decide (sdn x n y m = z)) = true) : SpD K (sp_law_sum K) E0 [.tuple [.int (x : Nat), .int (n : Nat)], .tuple [.int (y : Nat), .int (m : Nat)]] (.tuple [.int (u : Nat), .int (z : Nat)]) := fun vs H1 Q a q => by
  simp only [Bool.and_eq_true, decide_eq_true_eq] at h
  obtain ⟨⟨⟨⟨h1, h2⟩, h3⟩, h4⟩, h5⟩ := h
  cases a with
  | cons d1 a =>
    cases a with
    | cons d2 a =>
      cases a
      obtain ⟨a1, rfl, s1⟩ := dp_two d1
      obtain ⟨a2, rfl, s2⟩ := dp_two d2
      refine ⟨a1, a2, x, n, y, m, rfl, s1, s2, h1, h2, h3, fun t H' g ht => q _ _ g (two_dp (sq_tup ?_))⟩
      rw [ht, h4, h5]
def parB (b n p q L : Nat) : Bool := decide (n = p * q) && Nat.gcd b p == 1 && b ^ 20 % q == 0 && decide (1 ≤ L) && b ^ L % p == 1 % p && ((List.range L).all fun j => j == 0 || b ^ j % p != 1 % p)
theorem par_of {b n p q L : Nat} (z : parB b n p q L = true) : IsPure b n p ∧ IsPer b p L := by
  unfold parB at z
  simp only [Bool.and_eq_true, decide_eq_true_eq, beq_iff_eq] at z
  obtain ⟨⟨⟨⟨⟨h1, h2⟩, h3⟩, h6⟩, h7⟩, h8⟩ := z
  refine ⟨⟨h2, q, 20, h1, Nat.dvd_of_mod_eq_zero h3⟩, ⟨h6, h7, fun j hj1 hj2 => ?_⟩⟩
  have := List.all_eq_true.mp h8 j (List.mem_range.mpr hj2)
  simp only [Bool.or_eq_true, beq_iff_eq, bne_iff_ne] at this
  exact this.resolve_left (by omega)
theorem per_of {b n p q L : Nat} (z : parB b n p q L = true) : perF b n = L := perF_eq (par_of z).1 (par_of z).2
theorem sdv4_4 : sdL 4 4 = [1, 2] := by decide +kernel
theorem sdv9_9 : sdL 9 9 = [1, 3, 9] := by decide +kernel
theorem sdv2_2 : sdL 2 2 = [1] := by decide +kernel
theorem sdv8_4 : sdL 8 4 = [8] := by decide +kernel
theorem sdv1_1 : sdL 1 1 = [1] := by decide +kernel
theorem sdv10_15 : sdL 10 15 = [6, 30] := by decide +kernel
theorem sdv6_6 : sdL 6 6 = [1, 3] := by decide +kernel
theorem sdv4999_4999 : sdL 4999 4999 = [1, 4999] := by decide +kernel
theorem sdv5000_1 : sdL 5000 1 = [5000] := by decide +kernel
theorem sdv7_7 : sdL 7 7 = [1, 7] := by decide +kernel
theorem sdv21_33 : sdL 21 33 = [77, 231] := by decide +kernel
theorem sdv142_122 : sdL 142 122 = [4331] := by decide +kernel
theorem sdv50_100 : sdL 50 100 = [4, 20, 100] := by decide +kernel
theorem perv10_1 : perF 10 1 = 1 := per_of (p := 1) (q := 1) (by decide +kernel)
theorem perv10_7 : perF 10 7 = 6 := per_of (p := 7) (q := 1) (by decide +kernel)
theorem perv10_77 : perF 10 77 = 6 := per_of (p := 77) (q := 1) (by decide +kernel)
theorem perv10_231 : perF 10 231 = 6 := per_of (p := 231) (q := 1) (by decide +kernel)
theorem perv10_4331 : perF 10 4331 = 420 := per_of (p := 4331) (q := 1) (by decide +kernel)
theorem spv7_7 : setN (([1, 7] : List Nat).map (perF 10)) = [1, 6] := by
  simp only [List.map_cons, List.map_nil, perv10_1, perv10_7]
  decide +kernel
theorem spv21_33 : setN (([77, 231] : List Nat).map (perF 10)) = [6] := by
  simp only [List.map_cons, List.map_nil, perv10_77, perv10_231]
  decide +kernel
theorem spv142_122 : setN (([4331] : List Nat).map (perF 10)) = [420] := by
  simp only [List.map_cons, List.map_nil, perv10_4331]
  decide +kernel
theorem exv123_129_1763 : exO 123 129 1763 = .tuple [.tuple [.int 1, .int 123], .tuple [.int 1, .int 129]] := exO_some (by decide +kernel : exF 123 129 1763 = some 1)
theorem exv4999_4998_7 : exO 4999 4998 7 = .list [.int 7] := exO_none (by decide +kernel)
theorem exv2_2_2 : exO 2 2 2 = .list [.int 2] := exO_none (by decide +kernel)

end
end Wn
namespace Wn
open PySem PySem.Spec PyProof.Rows L2
open LamX (Tabs ExtN tLam)
local macro_rules | `(tactic| walk_at "vc") => `(tactic| simp only [cxK, cxK2, start1, start2, start3, tRet, tRetN, tSeq, tNext, tIfS, tAsg, gName, tDrop, tVar, tC, tOp, tUn, tTest, tB, tNot, tAnd, tOr, tAndV, tOrV, tNotV, tIf, tCons, tNil, tCB, tCall, tChain, tAug, ipI, rI, rI0, rU, rIs, rGcd, rEq, rNe, scal,
  List.getElem?_cons_zero, List.getElem?_cons_succ, List.set_cons_zero, List.set_cons_succ, Option.some.injEq, List.cons.injEq, V.int.injEq, V.bl.injEq, V.ref.injEq, V.str.injEq, and_true, true_and, exists_eq_left, exists_eq_left', exists_and_left, exists_and_right, List.append_nil, List.nil_append, List.cons_append, exists_eq_right, exists_eq_right', and_assoc, exists_const, V.ty.injEq, ↓reduceIte, Bool.false_eq_true, Bool.not_true, Bool.not_false, decide_eq_true_eq])

section
variable {P : Program} {w : World} {K : PySem.W.Frag} {mg : Str → Option Value} {base : Heap}

theorem noL_ints : ∀ zs : List Int, noLAll (zs.map PyData.int) = true
  | [] => rfl
  | z :: zs => noL_ints zs
theorem noL_di (xs : List Nat) : noL (di xs) = true := noL_ints _
theorem okG_law_hand_right (T : Txt K mg) (B : Tbs T base) : FnG P w K mg base CX0 14 T.d_law_hand_right.f T.d_law_hand_right.fd [] (sp_law_hand T) := by
  refine fnGc0 T.d_law_hand_right.F sc_law_hand_right (fun vs H Q E h => ?_) (fun cdv A outer s H vs Q E hcc hgd hr h => ?_)
  · obtain ⟨rfl, _⟩ := h; rfl
  · have hu := hu_of hr
    have hcode : cdv = .ref T.k_law_hand_right := hcc.symm.trans T.e_law_hand_right
    refine ⟨_, (pss_cons (ps_setLc (i := 0) (own := [("one", 1), ("two", 2)]) (g := gTup K 2 (gCons (gName 1) (gCons (gName 2) gNil))) (tt := tYes) rfl sc_law_hand_right.nd rfl rfl (sw_true rfl rfl rfl (by decide +kernel)) (pi_tup (pe_tup (pa_cons (pe_tup (pa_cons pe_int (pa_cons pe_int pa_nil))) (pa_cons (pe_tup (pa_cons pe_int (pa_cons pe_int pa_nil))) (pa_cons (pe_tup (pa_cons pe_int (pa_cons pe_int pa_nil))) (pa_cons (pe_tup (pa_cons pe_int (pa_cons pe_int pa_nil))) (pa_cons (pe_tup (pa_cons pe_int (pa_cons pe_int pa_nil))) (pa_cons (pe_tup (pa_cons pe_int (pa_cons pe_int pa_nil))) pa_nil)))))))) (blkOk_by (own := [("one", 1), ("two", 2)]) (N := ["told", "one", "two", "pair"]) (sc := defScope s_law_hand_right) (by decide +kernel)) (fun _ _ _ _ _ => (pg_tup (by rfl) (pgs_cons (pg_name (i := 1) sc_law_hand_right.nd rfl (by first | exact .inl rfl | exact .inr rfl)) (pgs_cons (pg_name (i := 2) sc_law_hand_right.nd rfl (by first | exact .inl rfl | exact .inr rfl)) pgs_nil)))) (fun _ _ _ _ _ => pts_nil) (fun _ _ _ _ _ => (pe_call (okX_sum_denominators T) (hr.mono (by decide)) (by rfl) T.d_sum_denominators.m T.d_sum_denominators.F.kp T.d_sum_denominators.b .nil (passes_call takes0 (fun _ _ _ _ z => z)) (pa_cons (pv 1) (pa_cons (pv 2) pa_nil)))))
      (pss_cons (ps_if (pt_cmpR (r := rNeD K) (op_neD hr.units) (pv 0) (pe_lst (pa_cons (pe_tup (pa_cons pe_int (pa_cons pe_int pa_nil))) (pa_cons (pe_tup (pa_cons pe_int (pa_cons pe_int (pa_cons pe_int pa_nil)))) (pa_cons (pe_tup (pa_cons pe_int pa_nil)) (pa_cons (pe_tup (pa_cons pe_int pa_nil)) (pa_cons (pe_tup (pa_cons pe_int pa_nil)) (pa_cons (pe_tup (pa_cons pe_int (pa_cons pe_int pa_nil))) pa_nil))))))) (nomark _)) (pss_one (ps_ret pe_bl)) pss_nil)
      (pss_cons (ps_set (i := 0) sc_law_hand_right.nd rfl (by first | exact .inl rfl | exact .inr rfl) (pe_lst (pa_cons (pe_call (okX_sum_denominators T) (hr.mono (by decide)) (by rfl) T.d_sum_denominators.m T.d_sum_denominators.F.kp T.d_sum_denominators.b .nil (passes_call takes0 (fun _ _ _ _ z => z)) (pa_cons pe_int (pa_cons pe_int pa_nil))) (pa_cons (pe_call (okX_sum_denominators T) (hr.mono (by decide)) (by rfl) T.d_sum_denominators.m T.d_sum_denominators.F.kp T.d_sum_denominators.b .nil (passes_call takes0 (fun _ _ _ _ z => z)) (pa_cons pe_int (pa_cons pe_int pa_nil))) (pa_cons (pe_call (okX_sum_denominators T) (hr.mono (by decide)) (by rfl) T.d_sum_denominators.m T.d_sum_denominators.F.kp T.d_sum_denominators.b .nil (passes_call takes0 (fun _ _ _ _ z => z)) (pa_cons pe_int (pa_cons pe_int pa_nil))) (pa_cons (pe_call (okX_sum_periods T) (hr.mono (by decide)) (by rfl) T.d_sum_periods.m T.d_sum_periods.F.kp T.d_sum_periods.b .nil (passes_call takes0 (fun _ _ _ _ z => z)) (pa_cons pe_int (pa_cons pe_int (pa_cons pe_int pa_nil)))) pa_nil))))))
      (pss_cons (ps_if (PW.pt (pw_or (pt_cmpR (r := rNeD K) (op_neD hr.units) (pv 0) (pe_lst (pa_cons (pe_tup (pa_cons pe_int (pa_cons pe_int pa_nil))) (pa_cons (pe_tup (pa_cons pe_int (pa_cons pe_int pa_nil))) (pa_cons (pe_tup (pa_cons pe_int pa_nil)) (pa_cons (pe_tup (pa_cons pe_int (pa_cons pe_int pa_nil))) pa_nil))))) (nomark _)) (pw_or1 (pt_cmpR (r := rNeD K) (op_neD hr.units) (pe_call (okX_sum_periods T) (hr.mono (by decide)) (by rfl) T.d_sum_periods.m T.d_sum_periods.F.kp T.d_sum_periods.b .nil (passes_call takes0 (fun _ _ _ _ z => z)) (pa_cons pe_int (pa_cons pe_int (pa_cons pe_int pa_nil)))) (pe_tup (pa_cons pe_int pa_nil)) (nomark _))))) (pss_one (ps_ret pe_bl)) pss_nil)
      (pss_cons (ps_set (i := 0) sc_law_hand_right.nd rfl (by first | exact .inl rfl | exact .inr rfl) (pe_lst (pa_cons (pe_call (okX_sum_of T) (hr.mono (by decide)) (by rfl) T.d_sum_of.m T.d_sum_of.F.kp T.d_sum_of.b .nil (passes_call takes0 (fun _ _ _ _ z => z)) (pa_cons (pe_tup (pa_cons pe_int (pa_cons pe_int pa_nil))) (pa_cons (pe_tup (pa_cons pe_int (pa_cons pe_int pa_nil))) pa_nil))) (pa_cons (pe_call (okX_sum_of T) (hr.mono (by decide)) (by rfl) T.d_sum_of.m T.d_sum_of.F.kp T.d_sum_of.b .nil (passes_call takes0 (fun _ _ _ _ z => z)) (pa_cons (pe_tup (pa_cons pe_int (pa_cons pe_int pa_nil))) (pa_cons (pe_tup (pa_cons pe_int (pa_cons pe_int pa_nil))) pa_nil))) (pa_cons (pe_call (okX_sum_of T) (hr.mono (by decide)) (by rfl) T.d_sum_of.m T.d_sum_of.F.kp T.d_sum_of.b .nil (passes_call takes0 (fun _ _ _ _ z => z)) (pa_cons (pe_tup (pa_cons pe_int (pa_cons pe_int pa_nil))) (pa_cons (pe_tup (pa_cons pe_int (pa_cons pe_int pa_nil))) pa_nil))) (pa_cons (pe_call (okX_sum_of T) (hr.mono (by decide)) (by rfl) T.d_sum_of.m T.d_sum_of.F.kp T.d_sum_of.b .nil (passes_call takes0 (fun _ _ _ _ z => z)) (pa_cons (pe_tup (pa_cons pe_int (pa_cons pe_int pa_nil))) (pa_cons (pe_tup (pa_cons pe_int (pa_cons pe_int pa_nil))) pa_nil))) pa_nil))))))
      (pss_cons (ps_if (PW.pt (pw_or (pt_cmpR (r := rNeD K) (op_neD hr.units) (pv 0) (pe_lst (pa_cons (pe_tup (pa_cons pe_int (pa_cons pe_int pa_nil))) (pa_cons (pe_tup (pa_cons pe_int (pa_cons pe_int pa_nil))) (pa_cons (pe_tup (pa_cons pe_int (pa_cons pe_int pa_nil))) (pa_cons (pe_tup (pa_cons pe_int (pa_cons pe_int pa_nil))) pa_nil))))) (nomark _)) (pw_or1 (pt_cmpR (r := rNeD K) (op_neD hr.units) (pe_call (okX_sum_of T) (hr.mono (by decide)) (by rfl) T.d_sum_of.m T.d_sum_of.F.kp T.d_sum_of.b .nil (passes_call takes0 (fun _ _ _ _ z => z)) (pa_cons (pe_tup (pa_cons pe_int (pa_cons pe_int pa_nil))) (pa_cons (pe_tup (pa_cons pe_int (pa_cons pe_int pa_nil))) pa_nil))) (pe_tup (pa_cons pe_int (pa_cons pe_int pa_nil))) (nomark _))))) (pss_one (ps_ret pe_bl)) pss_nil)
      (pss_cons (ps_if (PW.pt (pw_or (pt_cmpR (r := rNeD K) (op_neD hr.units) (pe_call (okX_sum_denominators T) (hr.mono (by decide)) (by rfl) T.d_sum_denominators.m T.d_sum_denominators.F.kp T.d_sum_denominators.b .nil (passes_call takes0 (fun _ _ _ _ z => z)) (pa_cons pe_int (pa_cons pe_int pa_nil))) (pe_tup (pa_cons pe_int pa_nil)) (nomark _)) (pw_or1 (pt_cmpR (r := rNeD K) (op_neD hr.units) (pe_call (okX_sum_periods T) (hr.mono (by decide)) (by rfl) T.d_sum_periods.m T.d_sum_periods.F.kp T.d_sum_periods.b .nil (passes_call takes0 (fun _ _ _ _ z => z)) (pa_cons pe_int (pa_cons pe_int (pa_cons pe_int pa_nil)))) (pe_tup (pa_cons pe_int pa_nil)) (nomark _))))) (pss_one (ps_ret pe_bl)) pss_nil)
      (pss_cons (ps_set (i := 3) sc_law_hand_right.nd rfl (by first | exact .inl rfl | exact .inr rfl) (pe_call (ok_law_example T) (hr.mono (by decide)) (by rfl) T.d_law_example.m T.d_law_example.F.kp T.d_law_example.b .nil pass0 (pa_cons pe_int (pa_cons pe_int (pa_cons pe_int pa_nil)))))
      (pss_cons (ps_if (PW.pt (pw_or (pt_cmpR (r := rNeD K) (op_neD hr.units) (pe_lst (pa_cons (pe_ix (r := rIxT K) ix_tup (pe_ix (r := rIxT K) ix_tup (pv 3) pe_int (fun _ _ => rfl)) pe_int (fun _ _ => rfl)) (pa_cons (pe_ix (r := rIxT K) ix_tup (pe_ix (r := rIxT K) ix_tup (pv 3) pe_int (fun _ _ => rfl)) pe_int (fun _ _ => rfl)) pa_nil))) (pe_lst (pa_cons pe_int (pa_cons pe_int pa_nil))) (nomark _)) (pw_or1 (pt_cmpR op_ne (pe_ix (r := rIxT K) ix_tup (pe_call (ok_law_sum T) (hr.mono (by decide)) (by rfl) T.d_law_sum.m T.d_law_sum.F.kp T.d_law_sum.b .nil pass0 (pa_cons (pe_ix (r := rIxT K) ix_tup (pv 3) pe_int (fun _ _ => rfl)) (pa_cons (pe_ix (r := rIxT K) ix_tup (pv 3) pe_int (fun _ _ => rfl)) pa_nil))) pe_int (fun _ _ => rfl)) pe_int (nomark _))))) (pss_one (ps_ret pe_bl)) pss_nil)
      (pss_cons (ps_if (PW.pt (pw_or (pt_cmpR (r := rNeD K) (op_neD hr.units) (pe_call (okX_sum_of T) (hr.mono (by decide)) (by rfl) T.d_sum_of.m T.d_sum_of.F.kp T.d_sum_of.b .nil (passes_call takes0 (fun _ _ _ _ z => z)) (pa_cons (pe_tup (pa_cons pe_int (pa_cons pe_int pa_nil))) (pa_cons (pe_tup (pa_cons pe_int (pa_cons pe_int pa_nil))) pa_nil))) (pe_tup (pa_cons pe_int (pa_cons pe_int pa_nil))) (nomark _)) (pw_or1 (pt_cmpR (r := rNeD K) (op_neD hr.units) (pe_call (ok_law_example T) (hr.mono (by decide)) (by rfl) T.d_law_example.m T.d_law_example.F.kp T.d_law_example.b .nil pass0 (pa_cons pe_int (pa_cons pe_int (pa_cons pe_int pa_nil)))) (pe_lst (pa_cons pe_int pa_nil)) (nomark _))))) (pss_one (ps_ret pe_bl)) pss_nil)
      (pss_cons (ps_set (i := 0) sc_law_hand_right.nd rfl (by first | exact .inl rfl | exact .inr rfl) (pe_lst (pa_cons (pe_outc (T := tl T) (TT := TTout T) (k := 8) (by rfl) T.d_law_heard.m T.d_law_heard.F.kp T.d_law_heard.F rfl T.d_law_heard.b sc_law_heard rfl (by first | exact .inl rfl | exact .inr (.inl rfl)) (gives_out T rfl rfl) (fun pins σ H s Q I hT h => lam_plain I (B.tb_law_hand_right) hcode (hm_law_hand_right T) (hu_law_hand_right T) hT rfl (LamD.has (lamD_by (N := ["told", "one", "two", "pair"]) (sc := defScope s_law_hand_right) (by decide +kernel)) I.ok) (fun _ _ _ _ _ _ => rfl) h) (hr.mono (by decide)) (lamD_by (N := ["told", "one", "two", "pair"]) (sc := defScope s_law_hand_right) (by decide +kernel)) (fun _ _ _ _ _ _ _ hr => (pe_call (okX_sum_denominators T) (hr.mono (by decide)) (by rfl) T.d_sum_denominators.m T.d_sum_denominators.F.kp T.d_sum_denominators.b .nil (passes_call (takes_of rfl rfl rfl rfl) (fun _ _ _ _ z => z)) (pa_cons pe_int (pa_cons pe_int pa_nil))))) (pa_cons (pe_outc (T := tl T) (TT := TTout T) (k := 8) (by rfl) T.d_law_heard.m T.d_law_heard.F.kp T.d_law_heard.F rfl T.d_law_heard.b sc_law_heard rfl (by first | exact .inl rfl | exact .inr (.inl rfl)) (gives_out T rfl rfl) (fun pins σ H s Q I hT h => lam_dflt I (B.tb_law_hand_right) hcode (hm_law_hand_right T) (hu_law_hand_right T) hT rfl rfl (LamD.has (lamD_by (N := ["told", "one", "two", "pair"]) (sc := defScope s_law_hand_right) (by decide +kernel)) I.ok) (fun _ _ _ _ _ _ _ _ => ⟨_, rfl, rfl⟩) rfl (fun _ _ z => z) h) (hr.mono (by decide)) (lamD_by (N := ["told", "one", "two", "pair"]) (sc := defScope s_law_hand_right) (by decide +kernel)) (fun _ _ _ _ _ _ _ hr => (pe_call (okX_sum_periods T) (hr.mono (by decide)) (by rfl) T.d_sum_periods.m T.d_sum_periods.F.kp T.d_sum_periods.b .nil (passes_call (takes_of rfl rfl rfl rfl) (fun _ _ _ _ z => z)) (pa_cons pe_int (pa_cons pe_int (pa_cons pe_int pa_nil)))))) pa_nil))))
      (pss_cons (ps_if (pt_cmpR (r := rNeD K) (op_neD hr.units) (pv 0) (pe_op op_rep (pe_lst (pa_cons (pe_tup (pa_cons pe_str (pa_cons pe_int pa_nil))) pa_nil)) pe_int) (nomark _)) (pss_one (ps_ret pe_bl)) pss_nil)
      (pss_cons (ps_set (i := 0) sc_law_hand_right.nd rfl (by first | exact .inl rfl | exact .inr rfl) (pe_lst (pa_cons (pe_outc (T := tl T) (TT := TTout T) (k := 8) (by rfl) T.d_law_heard.m T.d_law_heard.F.kp T.d_law_heard.F rfl T.d_law_heard.b sc_law_heard rfl (by first | exact .inl rfl | exact .inr (.inl rfl)) (gives_out T rfl rfl) (fun pins σ H s Q I hT h => lam_plain I (B.tb_law_hand_right) hcode (hm_law_hand_right T) (hu_law_hand_right T) hT rfl (LamD.has (lamD_by (N := ["told", "one", "two", "pair"]) (sc := defScope s_law_hand_right) (by decide +kernel)) I.ok) (fun _ _ _ _ _ _ => rfl) h) (hr.mono (by decide)) (lamD_by (N := ["told", "one", "two", "pair"]) (sc := defScope s_law_hand_right) (by decide +kernel)) (fun _ _ _ _ _ _ _ hr => (pe_call (okX_sum_of T) (hr.mono (by decide)) (by rfl) T.d_sum_of.m T.d_sum_of.F.kp T.d_sum_of.b .nil (passes_call (takes_of rfl rfl rfl rfl) (fun _ _ _ _ z => z)) (pa_cons (pe_tup (pa_cons pe_int (pa_cons pe_int pa_nil))) (pa_cons (pe_tup (pa_cons pe_int (pa_cons pe_int pa_nil))) pa_nil))))) (pa_cons (pe_outc (T := tl T) (TT := TTout T) (k := 8) (by rfl) T.d_law_heard.m T.d_law_heard.F.kp T.d_law_heard.F rfl T.d_law_heard.b sc_law_heard rfl (by first | exact .inl rfl | exact .inr (.inl rfl)) (gives_out T rfl rfl) (fun pins σ H s Q I hT h => lam_dflt I (B.tb_law_hand_right) hcode (hm_law_hand_right T) (hu_law_hand_right T) hT rfl rfl (LamD.has (lamD_by (N := ["told", "one", "two", "pair"]) (sc := defScope s_law_hand_right) (by decide +kernel)) I.ok) (fun _ _ _ _ _ _ _ _ => ⟨_, rfl, rfl⟩) rfl (fun _ _ z => z) h) (hr.mono (by decide)) (lamD_by (N := ["told", "one", "two", "pair"]) (sc := defScope s_law_hand_right) (by decide +kernel)) (fun _ _ _ _ _ _ _ hr => (pe_call (okX_sum_denominators T) (hr.mono (by decide)) (by rfl) T.d_sum_denominators.m T.d_sum_denominators.F.kp T.d_sum_denominators.b .nil (passes_call (takes_of rfl rfl rfl rfl) (fun _ _ _ _ z => z)) (pa_cons pe_int (pa_cons pe_int pa_nil))))) pa_nil))))
      (pss_cons (ps_set (i := 0) sc_law_hand_right.nd rfl (by first | exact .inl rfl | exact .inr rfl) (pe_op op_cat (pv 0) (pe_lst (pa_cons (pe_outc (T := tl T) (TT := TTout T) (k := 8) (by rfl) T.d_law_heard.m T.d_law_heard.F.kp T.d_law_heard.F rfl T.d_law_heard.b sc_law_heard rfl (by first | exact .inl rfl | exact .inr (.inl rfl)) (gives_out T rfl rfl) (fun pins σ H s Q I hT h => lam_plain I (B.tb_law_hand_right) hcode (hm_law_hand_right T) (hu_law_hand_right T) hT rfl (LamD.has (lamD_by (N := ["told", "one", "two", "pair"]) (sc := defScope s_law_hand_right) (by decide +kernel)) I.ok) (fun _ _ _ _ _ _ => rfl) h) (hr.mono (by decide)) (lamD_by (N := ["told", "one", "two", "pair"]) (sc := defScope s_law_hand_right) (by decide +kernel)) (fun _ _ _ _ _ _ _ hr => (pe_call (okX_sum_periods T) (hr.mono (by decide)) (by rfl) T.d_sum_periods.m T.d_sum_periods.F.kp T.d_sum_periods.b .nil (passes_call (takes_of rfl rfl rfl rfl) (fun _ _ _ _ z => z)) (pa_cons pe_int (pa_cons pe_int (pa_cons pe_int pa_nil)))))) (pa_cons (pe_outc (T := tl T) (TT := TTout T) (k := 8) (by rfl) T.d_law_heard.m T.d_law_heard.F.kp T.d_law_heard.F rfl T.d_law_heard.b sc_law_heard rfl (by first | exact .inl rfl | exact .inr (.inl rfl)) (gives_out T rfl rfl) (fun pins σ H s Q I hT h => lam_dflt I (B.tb_law_hand_right) hcode (hm_law_hand_right T) (hu_law_hand_right T) hT rfl rfl (LamD.has (lamD_by (N := ["told", "one", "two", "pair"]) (sc := defScope s_law_hand_right) (by decide +kernel)) I.ok) (fun _ _ _ _ _ _ _ _ => ⟨_, rfl, rfl⟩) rfl (fun _ _ z => z) h) (hr.mono (by decide)) (lamD_by (N := ["told", "one", "two", "pair"]) (sc := defScope s_law_hand_right) (by decide +kernel)) (fun _ _ _ _ _ _ _ hr => (pe_call (okX_sum_denominators T) (hr.mono (by decide)) (by rfl) T.d_sum_denominators.m T.d_sum_denominators.F.kp T.d_sum_denominators.b .nil (passes_call (takes_of rfl rfl rfl rfl) (fun _ _ _ _ z => z)) (pa_cons pe_int (pa_cons pe_int pa_nil))))) pa_nil)))))
      (pss_one (ps_ret (pe_and (pe_cmpR (r := rEqD K) (op_eqD hr.units) (pv 0) (pe_op op_cat (pe_op op_rep (pe_lst (pa_cons (pe_tup (pa_cons pe_str (pa_cons pe_int pa_nil))) pa_nil)) pe_int) (pe_lst (pa_cons (pe_tup (pa_cons pe_int (pa_cons pe_int (pa_cons pe_int pa_nil)))) pa_nil))) (nomark _)) (pe_one (pe_cmpR (r := rEqD K) (op_eqD hr.units) (pe_call (ok_law_example T) (hr.mono (by decide)) (by rfl) T.d_law_example.m T.d_law_example.F.kp T.d_law_example.b .nil pass0 (pa_cons pe_int (pa_cons pe_int (pa_cons pe_int pa_nil)))) (pe_lst (pa_cons pe_int pa_nil)) (nomark _)))))))))))))))))))), ?_⟩
    obtain ⟨rfl, t0, q⟩ := h
    refine stt_asgL (K := K) (ds := [.tuple [.int 1, .int 2], .tuple [.int 1, .int 3, .int 9], .tuple [.int 1], .tuple [.int 8], .tuple [.int 1], .tuple [.int 6, .int 30]]) t0 (el_of fun H9 => el_to (el_lcT (K := K) (ds := [.tuple [.int 4, .int 4], .tuple [.int 9, .int 9], .tuple [.int 2, .int 2], .tuple [.int 8, .int 4], .tuple [.int 1, .int 1], .tuple [.int 10, .int 15]]) (fun x => match x with | .tuple [.int a, .int c] => some (di (sdL a.toNat c.toNat)) | _ => none) (ew_tup (esw_cons (ew_tup (esw_cons ew_int (esw_cons ew_int esw_nil))) (esw_cons (ew_tup (esw_cons ew_int (esw_cons ew_int esw_nil))) (esw_cons (ew_tup (esw_cons ew_int (esw_cons ew_int esw_nil))) (esw_cons (ew_tup (esw_cons ew_int (esw_cons ew_int esw_nil))) (esw_cons (ew_tup (esw_cons ew_int (esw_cons ew_int esw_nil))) (esw_cons (ew_tup (esw_cons ew_int (esw_cons ew_int esw_nil))) esw_nil))))))) (Nat.le_of_ble_eq_true rfl) (fun x v H1 hx _ dx => ?_) (fun x hx d hd => ?_)) ?_) fun l1 xs1 H1 g1 t1 e1 a1 => ?_
    · simp only [List.mem_cons, List.not_mem_nil, or_false] at hx
      rcases hx with rfl | rfl | rfl | rfl | rfl | rfl
      · exact lcT_two dx (fun _ _ => rfl) fun a b da db => ew_to (ew_call (esw_cons (ew_var rfl (Dp.kp hid_in0 da)) (esw_cons (ew_var rfl (Dp.kp hid_in0 db)) esw_nil)) (spd_sd (T := T) (E := EF) (one := 4) (two := 4) (by decide +kernel) rfl (by decide +kernel))) rfl
      · exact lcT_two dx (fun _ _ => rfl) fun a b da db => ew_to (ew_call (esw_cons (ew_var rfl (Dp.kp hid_in0 da)) (esw_cons (ew_var rfl (Dp.kp hid_in0 db)) esw_nil)) (spd_sd (T := T) (E := EF) (one := 9) (two := 9) (by decide +kernel) rfl (by decide +kernel))) rfl
      · exact lcT_two dx (fun _ _ => rfl) fun a b da db => ew_to (ew_call (esw_cons (ew_var rfl (Dp.kp hid_in0 da)) (esw_cons (ew_var rfl (Dp.kp hid_in0 db)) esw_nil)) (spd_sd (T := T) (E := EF) (one := 2) (two := 2) (by decide +kernel) rfl (by decide +kernel))) rfl
      · exact lcT_two dx (fun _ _ => rfl) fun a b da db => ew_to (ew_call (esw_cons (ew_var rfl (Dp.kp hid_in0 da)) (esw_cons (ew_var rfl (Dp.kp hid_in0 db)) esw_nil)) (spd_sd (T := T) (E := EF) (one := 8) (two := 4) (by decide +kernel) rfl (by decide +kernel))) rfl
      · exact lcT_two dx (fun _ _ => rfl) fun a b da db => ew_to (ew_call (esw_cons (ew_var rfl (Dp.kp hid_in0 da)) (esw_cons (ew_var rfl (Dp.kp hid_in0 db)) esw_nil)) (spd_sd (T := T) (E := EF) (one := 1) (two := 1) (by decide +kernel) rfl (by decide +kernel))) rfl
      · exact lcT_two dx (fun _ _ => rfl) fun a b da db => ew_to (ew_call (esw_cons (ew_var rfl (Dp.kp hid_in0 da)) (esw_cons (ew_var rfl (Dp.kp hid_in0 db)) esw_nil)) (spd_sd (T := T) (E := EF) (one := 10) (two := 15) (by decide +kernel) rfl (by decide +kernel))) rfl
    · simp only [List.mem_cons, List.not_mem_nil, or_false] at hx
      rcases hx with rfl | rfl | rfl | rfl | rfl | rfl <;> (simp only [Option.some.injEq] at hd; subst hd; exact noL_di _)
    · show [di (sdL 4 4), di (sdL 9 9), di (sdL 2 2), di (sdL 8 4), di (sdL 1 1), di (sdL 10 15)] = [.tuple [.int 1, .int 2], .tuple [.int 1, .int 3, .int 9], .tuple [.int 1], .tuple [.int 8], .tuple [.int 1], .tuple [.int 6, .int 30]]
      simp only [sdv4_4, sdv9_9, sdv2_2, sdv8_4, sdv1_1, sdv10_15]
      rfl
    refine ttt_of (K := K) t1 (et_ne (et_var rfl (dp_lst e1 a1)) (et_ew fun _ => (ew_lst (esw_cons (ew_tup (esw_cons ew_int (esw_cons ew_int esw_nil))) (esw_cons (ew_tup (esw_cons ew_int (esw_cons ew_int (esw_cons ew_int esw_nil)))) (esw_cons (ew_tup (esw_cons ew_int esw_nil)) (esw_cons (ew_tup (esw_cons ew_int esw_nil)) (esw_cons (ew_tup (esw_cons ew_int esw_nil)) (esw_cons (ew_tup (esw_cons ew_int (esw_cons ew_int esw_nil))) esw_nil)))))))) (by decide +kernel) (by decide +kernel)) (ExtN.refl _) fun H2 g2 t2 => ?_
    refine iteFb (by decide +kernel) ?_
    refine stt_asgL (K := K) t2 (el_of fun _ => el_lstW (esw_cons (ew_call (esw_cons ew_int (esw_cons ew_int esw_nil)) (spd_sd (T := T) (E := EF) (one := 6) (two := 6) (by decide +kernel) sdv6_6 (by decide))) (esw_cons (ew_call (esw_cons ew_int (esw_cons ew_int esw_nil)) (spd_sd (T := T) (E := EF) (one := 4999) (two := 4999) (by decide +kernel) sdv4999_4999 (by decide))) (esw_cons (ew_call (esw_cons ew_int (esw_cons ew_int esw_nil)) (spd_sd (T := T) (E := EF) (one := 5000) (two := 1) (by decide +kernel) sdv5000_1 (by decide))) (esw_cons (ew_call (esw_cons ew_int (esw_cons ew_int (esw_cons ew_int esw_nil))) (spd_sp (T := T) (E := EF) (b := 10) (one := 7) (two := 7) (by decide) (by decide +kernel) sdv7_7 (by decide) spv7_7)) esw_nil))))) fun l3 xs3 H3 g3 t3 e3 a3 => ?_
    refine ttt_of (K := K) t3 (et_ne (et_var rfl (dp_lst e3 a3)) (et_ew fun _ => (ew_lst (esw_cons (ew_tup (esw_cons ew_int (esw_cons ew_int esw_nil))) (esw_cons (ew_tup (esw_cons ew_int (esw_cons ew_int esw_nil))) (esw_cons (ew_tup (esw_cons ew_int esw_nil)) (esw_cons (ew_tup (esw_cons ew_int (esw_cons ew_int esw_nil))) esw_nil)))))) (by decide +kernel) (by decide +kernel)) (ExtN.refl _) fun H4 g4 t4 => ?_
    refine iteFb (by decide +kernel) ?_
    refine ttt_of (K := K) t4 (et_ew fun _ => (ew_neD (ew_call (esw_cons ew_int (esw_cons ew_int (esw_cons ew_int esw_nil))) (spd_sp (T := T) (E := EF) (b := 10) (one := 21) (two := 33) (by decide) (by decide +kernel) sdv21_33 (by decide) spv21_33)) (ew_tup (esw_cons ew_int esw_nil)) (by decide +kernel) (by decide +kernel))) (ExtN.refl _) fun H5 g5 t5 => ?_
    refine iteFb (by decide +kernel) ?_
    refine stt_asgL (K := K) t5 (el_of fun _ => el_lstW (esw_cons (ev_so (T := T) (x := 1) (n := 2) (y := 1) (m := 2) (u := 0) (z := 1) (by decide +kernel)) (esw_cons (ev_so (T := T) (x := 1) (n := 4) (y := 1) (m := 4) (u := 1) (z := 2) (by decide +kernel)) (esw_cons (ev_so (T := T) (x := 5) (n := 7) (y := 4) (m := 7) (u := 2) (z := 7) (by decide +kernel)) (esw_cons (ev_so (T := T) (x := 1) (n := 4999) (y := 4998) (m := 4999) (u := 0) (z := 1) (by decide +kernel)) esw_nil))))) fun l6 xs6 H6 g6 t6 e6 a6 => ?_
    refine ttt_of (K := K) t6 (et_ne (et_var rfl (dp_lst e6 a6)) (et_ew fun _ => (ew_lst (esw_cons (ew_tup (esw_cons ew_int (esw_cons ew_int esw_nil))) (esw_cons (ew_tup (esw_cons ew_int (esw_cons ew_int esw_nil))) (esw_cons (ew_tup (esw_cons ew_int (esw_cons ew_int esw_nil))) (esw_cons (ew_tup (esw_cons ew_int (esw_cons ew_int esw_nil))) esw_nil)))))) (by decide +kernel) (by decide +kernel)) (ExtN.refl _) fun H7 g7 t7 => ?_
    refine iteFb (by decide +kernel) ?_
    refine ttt_of (K := K) t7 (et_ew fun _ => (ew_neD (ev_so (T := T) (x := 1) (n := 8) (y := 1) (m := 625) (u := 633) (z := 5000) (by decide +kernel)) (ew_tup (esw_cons ew_int (esw_cons ew_int esw_nil))) (by decide +kernel) (by decide +kernel))) (ExtN.refl _) fun H8 g8 t8 => ?_
    refine iteFb (by decide +kernel) ?_
    refine ttt_of (K := K) t8 (et_ew fun _ => (ew_neD (ew_call (esw_cons ew_int (esw_cons ew_int esw_nil)) (spd_sd (T := T) (E := EF) (one := 142) (two := 122) (by decide +kernel) sdv142_122 (by decide))) (ew_tup (esw_cons ew_int esw_nil)) (by decide +kernel) (by decide +kernel))) (ExtN.refl _) fun H9 g9 t9 => ?_
    refine iteFb (by decide +kernel) ?_
    refine ttt_of (K := K) t9 (et_ew fun _ => (ew_neD (ew_call (esw_cons ew_int (esw_cons ew_int (esw_cons ew_int esw_nil))) (spd_sp (T := T) (E := EF) (b := 10) (one := 142) (two := 122) (by decide) (by decide +kernel) sdv142_122 (by decide) spv142_122)) (ew_tup (esw_cons ew_int esw_nil)) (by decide +kernel) (by decide +kernel))) (ExtN.refl _) fun H10 g10 t10 => ?_
    refine iteFb (by decide +kernel) ?_
    refine stt_set (K := K) t10 (et_ew fun _ => (ew_call (esw_cons ew_int (esw_cons ew_int (esw_cons ew_int esw_nil))) (spd_ex (one := 123) (two := 129) (d := 1763) (by decide) exv123_129_1763))) fun v11 H11 g11 t11 dp => ?_
    refine ttt_of (K := K) t11 (et_ewV fun _ gx => (ew_neD (ew_lst (esw_cons (ew_ixT (j := 1) (d := .int 123) (ew_ixT (j := 0) (d := .tuple [.int 1, .int 123]) (ew_var rfl (Dp.kp ((kpExt gx).trans hid_in0) dp)) ew_int rfl) ew_int rfl) (esw_cons (ew_ixT (j := 1) (d := .int 129) (ew_ixT (j := 1) (d := .tuple [.int 1, .int 129]) (ew_var rfl (Dp.kp ((kpExt gx).trans hid_in0) dp)) ew_int rfl) ew_int rfl) esw_nil))) (ew_lst (esw_cons ew_int (esw_cons ew_int esw_nil))) (by decide +kernel) (by decide +kernel))) (ExtN.refl _) fun H12 g12 t12 => ?_
    refine iteFb (by decide +kernel) ?_
    have dp := Dp.kp (kpExt g12) dp
    refine ttt_of (K := K) t12 (et_ewV fun _ gx => (ew_neI (ew_ixT (j := 1) (d := .int 1763) (ew_call (esw_cons (ew_ixT (j := 0) (d := .tuple [.int 1, .int 123]) (ew_var rfl (Dp.kp ((kpExt gx).trans hid_in0) dp)) ew_int rfl) (esw_cons (ew_ixT (j := 1) (d := .tuple [.int 1, .int 129]) (ew_var rfl (Dp.kp ((kpExt gx).trans hid_in0) dp)) ew_int rfl) esw_nil)) (spd_ls (x := 1) (n := 123) (y := 1) (m := 129) (u := 28) (z := 1763) (by decide +kernel))) ew_int rfl) ew_int)) (ExtN.refl _) fun H13 g13 t13 => ?_
    refine iteFb (by decide +kernel) ?_
    refine ttt_of (K := K) t13 (et_ew fun _ => (ew_neD (ev_so (T := T) (x := 1) (n := 142) (y := 1) (m := 122) (u := 66) (z := 4331) (by decide +kernel)) (ew_tup (esw_cons ew_int (esw_cons ew_int esw_nil))) (by decide +kernel) (by decide +kernel))) (ExtN.refl _) fun H14 g14 t14 => ?_
    refine iteFb (by decide +kernel) ?_
    refine ttt_of (K := K) t14 (et_ew fun _ => (ew_neD (ew_call (esw_cons ew_int (esw_cons ew_int (esw_cons ew_int esw_nil))) (spd_ex (one := 4999) (two := 4998) (d := 7) (by decide) exv4999_4998_7)) (ew_lst (esw_cons ew_int esw_nil)) (by decide +kernel) (by decide +kernel))) (ExtN.refl _) fun H15 g15 t15 => ?_
    refine iteFb (by decide +kernel) ?_
    refine stt_asgL (K := K) t15 (etl_lst (ets_cons (et_hX (C := T.C_TooGreat) (f := "most") (w := "great") (mk := fun v => .tup [.str "great", v]) (d := .int 5000) (by unfold hes; simp) (fun _ => rfl) fun E H1 _ Q ke => spx_sd (one := 123) (two := 129) (by decide +kernel) (by decide +kernel) ke) (ets_cons (et_hX (C := T.C_TooGreat) (f := "most") (w := "great") (mk := fun v => .tup [.str "great", v]) (d := .int 5000) (by unfold hes; simp) (fun _ => rfl) fun E H1 _ Q ke => spx_sp (b := 10) (one := 123) (two := 129) (by decide) (by decide +kernel) (by decide +kernel) ke) ets_nil))) fun l16 xs16 H16 g16 t16 e16 a16 => ?_
    refine ttt_of (K := K) t16 (et_ne (et_var rfl (dp_lst e16 a16)) (EvTL.d (etl_rep (k := 2) (el_of fun _ => el_lstW (esw_cons (ew_tup (esw_cons ew_str (esw_cons ew_int esw_nil))) esw_nil)) (et_ew fun _ => ew_int))) (by decide +kernel) (by decide +kernel)) (ExtN.refl _) fun H17 g17 t17 => ?_
    refine iteFb (by decide +kernel) ?_
    refine stt_asgL (K := K) t17 (etl_lst (ets_cons (et_hX (C := T.C_TooGreat) (f := "most") (w := "great") (mk := fun v => .tup [.str "great", v]) (d := .int 5000) (by unfold hes; simp) (fun _ => rfl) fun E H1 _ Q ke => sox (x := 1) (n := 71) (y := 1) (m := 73) (by decide +kernel) ke) (ets_cons (et_hX (C := T.C_TooGreat) (f := "most") (w := "great") (mk := fun v => .tup [.str "great", v]) (d := .int 5000) (by unfold hes; simp) (fun _ => rfl) fun E H1 _ Q ke => spx_sd (one := 71) (two := 73) (by decide +kernel) (by decide +kernel) ke) ets_nil))) fun l18 xs18 H18 g18 t18 e18 a18 => ?_
    refine stt_asgL (K := K) t18 (etl_cat (etl_var rfl e18 a18) (etl_lst (ets_cons (et_hX (C := T.C_TooGreat) (f := "most") (w := "great") (mk := fun v => .tup [.str "great", v]) (d := .int 5000) (by unfold hes; simp) (fun _ => rfl) fun E H1 _ Q ke => spx_sp (b := 10) (one := 4999) (two := 2) (by decide) (by decide +kernel) (by decide +kernel) ke) (ets_cons (et_hV fun E H1 _ Q q => spd_sd (T := T) (E := E) (one := 50) (two := 100) (by decide +kernel) sdv50_100 (by decide) _ H1 Q (.cons (.int _) (.cons (.int _) .nil)) q) ets_nil)))) fun l19 xs19 H19 g19 t19 e19 a19 => ?_
    refine stt_retB (K := K) t19 (et_andV (et_eq (et_var rfl (dp_lst e19 a19)) (EvTL.d (etl_cat (etl_rep (k := 3) (el_of fun _ => el_lstW (esw_cons (ew_tup (esw_cons ew_str (esw_cons ew_int esw_nil))) esw_nil)) (et_ew fun _ => ew_int)) (el_of fun _ => el_lstW (esw_cons (ew_tup (esw_cons ew_int (esw_cons ew_int (esw_cons ew_int esw_nil)))) esw_nil)))) (by decide +kernel) (by decide +kernel)) (et_ew fun _ => (ew_eqD (ew_call (esw_cons ew_int (esw_cons ew_int (esw_cons ew_int esw_nil))) (spd_ex (one := 2) (two := 2) (d := 2) (by decide) exv2_2_2)) (ew_lst (esw_cons ew_int esw_nil)) (by decide +kernel) (by decide +kernel)))) fun HZ gz tz => ?_
    refine cast (congrArg (fun z => Q (V.bl z) HZ) (show true = _ by decide +kernel)) (q HZ)

end
end Wn
namespace Wn
open PySem PySem.Spec PyProof.Rows L2
open LamX (Tabs ExtN tLam)
local macro_rules | `(tactic| walk_at "vc") => `(tactic| simp only [cxK, cxK2, start1, start2, start3, tRet, tRetN, tSeq, tNext, tIfS, tAsg, gName, tDrop, tVar, tC, tOp, tUn, tTest, tB, tNot, tAnd, tOr, tAndV, tOrV, tNotV, tIf, tCons, tNil, tCB, tCall, tChain, tAug, ipI, rI, rI0, rU, rIs, rGcd, rEq, rNe, scal,
  List.getElem?_cons_zero, List.getElem?_cons_succ, List.set_cons_zero, List.set_cons_succ, Option.some.injEq, List.cons.injEq, V.int.injEq, V.bl.injEq, V.ref.injEq, V.str.injEq, and_true, true_and, exists_eq_left, exists_eq_left', exists_and_left, exists_and_right, List.append_nil, List.nil_append, List.cons_append, exists_eq_right, exists_eq_right', and_assoc, exists_const, V.ty.injEq, ↓reduceIte, Bool.false_eq_true, Bool.not_true, Bool.not_false, decide_eq_true_eq])

section
variable {P : Program} {w : World} {K : PySem.W.Frag} {mg : Str → Option Value} {base : Heap}

def sp_law (T : Txt K mg) : Sp := fun vs H Q _ => ∃ (a : Addr) (ns : List Int), vs = [.ref a] ∧ Tabs (tl T) H ∧ SqL K H a (ns.map V.int) ∧ ns.length ≤ 63 ∧ ∀ H', Q (.bl true) H'
theorem okG_law (T : Txt K mg) (B : Tbs T base) : FnG P w K mg base CX0 15 T.d_law.f T.d_law.fd ["script"] (sp_law T) := by
  refine fnGc0 T.d_law.F sc_law (fun vs H Q E h => ?_) (fun cdv A outer s H vs Q E hcc hgd hr h => ?_)
  · obtain ⟨a, ns, rfl, _⟩ := h; rfl
  · have hu := hu_of hr
    refine ⟨_, (pss_cons (ps_for PassesOwn.never rfl (pi_range1 (by rfl) T.b_range (pa_cons (pe_op op_add pe_int (pe_callB (call_min2 rfl) (by rfl) T.b_min (by decide +kernel) (pa_cons (pe_callB (r := rLn K) call_ln (by rfl) T.b_len PySem.boot_len (pa_cons (pv 0) pa_nil)) (pa_cons pe_int pa_nil)))) pa_nil)) (pg_name (i := 1) sc_law.nd rfl (by first | exact .inl rfl | exact .inr rfl)) (pss_cons (ps_set (i := 2) sc_law.nd rfl (by first | exact .inl rfl | exact .inr rfl) (pe_call (ok_law_begun T) (hr.mono (by decide)) (by rfl) T.d_law_begun.m T.d_law_begun.F.kp T.d_law_begun.b .nil pass0 (pa_cons (pv 0) (pa_cons (pv 1) pa_nil))))
      (pss_cons (ps_set (i := 3) sc_law.nd rfl (by first | exact .inl rfl | exact .inr rfl) (pe_op op_add pe_int (pe_call (ok_law_draw T) (hr.mono (by decide)) (by rfl) T.d_law_draw.m T.d_law_draw.F.kp T.d_law_draw.b .nil pass0 (pa_cons (pv 2) (pa_cons pe_int pa_nil)))))
      (pss_cons (ps_par (i := 4) (j := 5) (by rfl) sc_law.nd rfl rfl (by decide) rfl rfl (pa_cons (pe_op op_mul (pv 3) (pe_op op_add pe_int (pe_call (ok_law_draw T) (hr.mono (by decide)) (by rfl) T.d_law_draw.m T.d_law_draw.F.kp T.d_law_draw.b .nil pass0 (pa_cons (pv 2) (pa_cons pe_int pa_nil))))) (pa_cons (pe_op op_mul (pv 3) (pe_op op_add pe_int (pe_call (ok_law_draw T) (hr.mono (by decide)) (by rfl) T.d_law_draw.m T.d_law_draw.F.kp T.d_law_draw.b .nil pass0 (pa_cons (pv 2) (pa_cons pe_int pa_nil))))) pa_nil)) (by rfl))
      (pss_one (ps_if (PW.pt (pw_or (pt_not (pt_val (pe_callG hgd (okG_law_pair_right T) (hr.mono (by decide)) (by rfl) T.d_law_pair_right.m T.d_law_pair_right.F.kp T.d_law_pair_right.b .nil pass0 (pa_cons (pv 2) (pa_cons (pv 4) (pa_cons (pv 5) pa_nil)))))) (pw_or1 (pt_not (pt_val (pe_callG hgd (okG_law_sums_right T) (hr.mono (by decide)) (by rfl) T.d_law_sums_right.m T.d_law_sums_right.F.kp T.d_law_sums_right.b .nil pass0 (pa_cons (pv 2) pa_nil))))))) (pss_one (ps_ret pe_bl)) pss_nil))))))
      (pss_one (ps_ret (pe_callG0 hgd (okG_law_hand_right T B) (hr.mono (by decide)) (by rfl) T.d_law_hand_right.m T.d_law_hand_right.F.kp T.d_law_hand_right.b .nil pass0)))), ?_⟩
    obtain ⟨a, ns, rfl, t0, hS, hn, q⟩ := h
    refine ⟨_, rfl, a, _, rfl, .inl hS, _, _, rfl, ?_⟩
    rw [List.length_map]
    obtain ⟨N, eN, hN⟩ : ∃ N : Nat, (2 : Int) + (if (5 : Int) < (ns.length : Int) then (5 : Int) else (ns.length : Int)) = (N : Int) ∧ N ≤ 7 := by
      split
      · exact ⟨7, rfl, by decide⟩
      · exact ⟨2 + ns.length, by omega, by omega⟩
    refine ⟨_, _, rfl, rfl, ?_⟩
    refine ⟨(N : Int), congrArg (fun z => [V.int z]) eN, by omega, by omega, ?_⟩
    refine for_range (lo := 0) (n := ((N : Int) - 0).toNat) (fun i σ H' => Gr [] H H' ∧ ∃ v1 v2 v3 v4 v5, σ = [some (.ref a), v1, v2, v3, v4, v5]) ⟨Gr.refl _ _, none, none, none, none, none, rfl⟩ ?_ ?_
    · rintro i σ H' hi ⟨G, v1, v2, v3, v4, v5, rfl⟩
      have ei : (0 : Int) + (i : Int) = ((i : Nat) : Int) := by omega
      rw [ei]
      refine ⟨_, rfl, _, rfl, a, ns, i, rfl, (Kp.of G).sqL hS, hn, by omega, fun d H1 nd g1 M1 => ?_⟩
      refine ⟨_, rfl, d, 6, 0, rfl, M1, ⟨by decide, lim_le (by decide), by decide⟩, fun r0 H2 hr0 g2 M2 => ?_⟩
      refine ⟨_, _, rfl, rfl, ?_⟩
      have em : ∀ r : Nat, (1 : Int) + (r : Int) = ((r + 1 : Nat) : Int) := fun r => by omega
      refine ⟨_, rfl, _, rfl, d, 6, 1, rfl, M2, ⟨by decide, lim_le (by decide), by decide⟩, fun r1 H3 hr1 g3 M3 => ?_⟩
      refine ⟨_, _, rfl, rfl, _, _, rfl, rfl, .inl ⟨by omega, by omega⟩, ?_⟩
      refine ⟨_, rfl, _, rfl, d, 6, 2, rfl, M3, ⟨by decide, lim_le (by decide), by decide⟩, fun r2 H4 hr2 g4 M4 => ?_⟩
      refine ⟨_, _, rfl, rfl, _, _, rfl, rfl, .inl ⟨by omega, by omega⟩, _, _, rfl, ?_⟩
      obtain ⟨s1, s2⟩ := smP (h := r0) (a := r1) (c := r2) hr0 hr1 hr2
      obtain ⟨s3, _⟩ := smP (h := r0) (a := r2) (c := r1) hr0 hr2 hr1
      have e1 : ((1 : Int) + (r0 : Int)) * ((1 : Int) + (r1 : Int)) = (((r0 + 1) * (r1 + 1) : Nat) : Int) := by rw [em, em, Int.natCast_mul]
      have e2 : ((1 : Int) + (r0 : Int)) * ((1 : Int) + (r2 : Int)) = (((r0 + 1) * (r2 + 1) : Nat) : Int) := by rw [em, em, Int.natCast_mul]
      have l1 : (r0 + 1) * (r1 + 1) ≤ 6 * 6 := Nat.mul_le_mul (by omega) (by omega)
      have l2 : (r0 + 1) * (r2 + 1) ≤ 6 * 6 := Nat.mul_le_mul (by omega) (by omega)
      have p1 : 1 ≤ (r0 + 1) * (r1 + 1) := Nat.mul_pos (by omega) (by omega)
      have p2 : 1 ≤ (r0 + 1) * (r2 + 1) := Nat.mul_pos (by omega) (by omega)
      dsimp only
      rw [e1, e2]
      generalize (r0 + 1) * (r1 + 1) = one at s1 s2 s3 l1 p1 ⊢
      generalize (r0 + 1) * (r2 + 1) = two at s1 s2 s3 l2 p2 ⊢
      refine ⟨_, rfl, _, rfl, _, rfl, d, one, two, 3, rfl, ⟨p1, l1⟩, ⟨p2, l2⟩, ⟨s1, s3, s2⟩, M4, by decide, fun H5 g5 M5 => ⟨true, rfl, iteF ?_⟩⟩
      refine ⟨_, rfl, d, 4, rfl, M5, by decide, fun H6 g6 M6 => ⟨true, rfl, iteF ?_⟩⟩
      have g16 : Gr [d] H1 H6 := ((g2.trans g3).trans g4).trans (g5.trans g6)
      exact ⟨G.trans (fresh_keep nd g1 g16), _, _, _, _, _, rfl⟩
    rintro σ H' ⟨G, v1, v2, v3, v4, v5, rfl⟩
    exact ⟨rfl, tabsGr t0 G, fun H2 => q H2⟩

end
end Wn
namespace Wn
open PySem PySem.Spec PyProof.Rows L2
open LamX (Tabs ExtN tLam)
theorem all_mk {l : PySem.W.OpenLaw} {w : World} {K : PySem.W.Frag} {h : Heap} {mg : Str → Option Value} {fa : Addr} (X : K.In h) (G : h.Ns mainGlobals mg) (hfa : mg "law" = some (.ref fa))
    {f_is_integer : Addr} {oc_is_integer kV_is_integer dc_is_integer pm_is_integer cd_is_integer ct_is_integer : Value} {od_is_integer an_is_integer : Option Addr} {sl_is_integer : Array (Option Value)}
    {f_is_within : Addr} {oc_is_within kV_is_within dc_is_within pm_is_within cd_is_within ct_is_within : Value} {od_is_within an_is_within : Option Addr} {sl_is_within : Array (Option Value)}
    {f_need_base : Addr} {oc_need_base kV_need_base dc_need_base pm_need_base cd_need_base ct_need_base : Value} {od_need_base an_need_base : Option Addr} {sl_need_base : Array (Option Value)}
    {f_need_denominator : Addr} {oc_need_denominator kV_need_denominator dc_need_denominator pm_need_denominator cd_need_denominator ct_need_denominator : Value} {od_need_denominator an_need_denominator : Option Addr} {sl_need_denominator : Array (Option Value)}
    {f_need_fraction : Addr} {oc_need_fraction kV_need_fraction dc_need_fraction pm_need_fraction cd_need_fraction ct_need_fraction : Value} {od_need_fraction an_need_fraction : Option Addr} {sl_need_fraction : Array (Option Value)}
    {f_pure_part : Addr} {oc_pure_part kV_pure_part dc_pure_part pm_pure_part cd_pure_part ct_pure_part : Value} {od_pure_part an_pure_part : Option Addr} {sl_pure_part : Array (Option Value)}
    {f_period : Addr} {oc_period kV_period dc_period pm_period cd_period ct_period : Value} {od_period an_period : Option Addr} {sl_period : Array (Option Value)}
    {f_power : Addr} {oc_power kV_power dc_power pm_power cd_power ct_power : Value} {od_power an_power : Option Addr} {sl_power : Array (Option Value)}
    {f_prime_powers : Addr} {oc_prime_powers kV_prime_powers dc_prime_powers pm_prime_powers cd_prime_powers ct_prime_powers : Value} {od_prime_powers an_prime_powers : Option Addr} {sl_prime_powers : Array (Option Value)}
    {f_added : Addr} {oc_added kV_added dc_added pm_added cd_added ct_added : Value} {od_added an_added : Option Addr} {sl_added : Array (Option Value)}
    {f_sum_of : Addr} {oc_sum_of kV_sum_of dc_sum_of pm_sum_of cd_sum_of ct_sum_of : Value} {od_sum_of an_sum_of : Option Addr} {sl_sum_of : Array (Option Value)}
    {f_sum_exponents : Addr} {oc_sum_exponents kV_sum_exponents dc_sum_exponents pm_sum_exponents cd_sum_exponents ct_sum_exponents : Value} {od_sum_exponents an_sum_exponents : Option Addr} {sl_sum_exponents : Array (Option Value)}
    {f_sum_denominators : Addr} {oc_sum_denominators kV_sum_denominators dc_sum_denominators pm_sum_denominators cd_sum_denominators ct_sum_denominators : Value} {od_sum_denominators an_sum_denominators : Option Addr} {sl_sum_denominators : Array (Option Value)}
    {f_sum_periods : Addr} {oc_sum_periods kV_sum_periods dc_sum_periods pm_sum_periods cd_sum_periods ct_sum_periods : Value} {od_sum_periods an_sum_periods : Option Addr} {sl_sum_periods : Array (Option Value)}
    {f_sum_denominator : Addr} {oc_sum_denominator kV_sum_denominator dc_sum_denominator pm_sum_denominator cd_sum_denominator ct_sum_denominator : Value} {od_sum_denominator an_sum_denominator : Option Addr} {sl_sum_denominator : Array (Option Value)}
    {f_sum_example : Addr} {oc_sum_example kV_sum_example dc_sum_example pm_sum_example cd_sum_example ct_sum_example : Value} {od_sum_example an_sum_example : Option Addr} {sl_sum_example : Array (Option Value)}
    {f_law_begun : Addr} {oc_law_begun kV_law_begun dc_law_begun pm_law_begun cd_law_begun ct_law_begun : Value} {od_law_begun an_law_begun : Option Addr} {sl_law_begun : Array (Option Value)}
    {f_law_draw : Addr} {oc_law_draw kV_law_draw dc_law_draw pm_law_draw cd_law_draw ct_law_draw : Value} {od_law_draw an_law_draw : Option Addr} {sl_law_draw : Array (Option Value)}
    {f_law_divisor : Addr} {oc_law_divisor kV_law_divisor dc_law_divisor pm_law_divisor cd_law_divisor ct_law_divisor : Value} {od_law_divisor an_law_divisor : Option Addr} {sl_law_divisor : Array (Option Value)}
    {f_law_lowest : Addr} {oc_law_lowest kV_law_lowest dc_law_lowest pm_law_lowest cd_law_lowest ct_law_lowest : Value} {od_law_lowest an_law_lowest : Option Addr} {sl_law_lowest : Array (Option Value)}
    {f_law_powers : Addr} {oc_law_powers kV_law_powers dc_law_powers pm_law_powers cd_law_powers ct_law_powers : Value} {od_law_powers an_law_powers : Option Addr} {sl_law_powers : Array (Option Value)}
    {f_law_period : Addr} {oc_law_period kV_law_period dc_law_period pm_law_period cd_law_period ct_law_period : Value} {od_law_period an_law_period : Option Addr} {sl_law_period : Array (Option Value)}
    {f_law_units : Addr} {oc_law_units kV_law_units dc_law_units pm_law_units cd_law_units ct_law_units : Value} {od_law_units an_law_units : Option Addr} {sl_law_units : Array (Option Value)}
    {f_law_sum : Addr} {oc_law_sum kV_law_sum dc_law_sum pm_law_sum cd_law_sum ct_law_sum : Value} {od_law_sum an_law_sum : Option Addr} {sl_law_sum : Array (Option Value)}
    {f_law_all : Addr} {oc_law_all kV_law_all dc_law_all pm_law_all cd_law_all ct_law_all : Value} {od_law_all an_law_all : Option Addr} {sl_law_all : Array (Option Value)}
    {f_law_example : Addr} {oc_law_example kV_law_example dc_law_example pm_law_example cd_law_example ct_law_example : Value} {od_law_example an_law_example : Option Addr} {sl_law_example : Array (Option Value)}
    {f_law_pair_right : Addr} {oc_law_pair_right kV_law_pair_right dc_law_pair_right pm_law_pair_right cd_law_pair_right ct_law_pair_right : Value} {od_law_pair_right an_law_pair_right : Option Addr} {sl_law_pair_right : Array (Option Value)}
    {f_law_sums_right : Addr} {oc_law_sums_right kV_law_sums_right dc_law_sums_right pm_law_sums_right cd_law_sums_right ct_law_sums_right : Value} {od_law_sums_right an_law_sums_right : Option Addr} {sl_law_sums_right : Array (Option Value)}
    {f_law_heard : Addr} {oc_law_heard kV_law_heard dc_law_heard pm_law_heard cd_law_heard ct_law_heard : Value} {od_law_heard an_law_heard : Option Addr} {sl_law_heard : Array (Option Value)}
    {f_law_hand_right : Addr} {oc_law_hand_right kV_law_hand_right dc_law_hand_right pm_law_hand_right cd_law_hand_right ct_law_hand_right : Value} {od_law_hand_right an_law_hand_right : Option Addr} {sl_law_hand_right : Array (Option Value)}
    {f_law : Addr} {oc_law kV_law dc_law pm_law cd_law ct_law : Value} {od_law an_law : Option Addr} {sl_law : Array (Option Value)}
    {C_WheelError : Addr}
    {C_BadBase : Addr}
    {C_BadDenominator : Addr}
    {C_BadFraction : Addr}
    {C_TooGreat : Addr}
    {I_TooGreat : Addr} {ioc_TooGreat ikV_TooGreat idc_TooGreat ipm_TooGreat icd_TooGreat ict_TooGreat : Value} {iod_TooGreat ian_TooGreat : Option Addr} {isl_TooGreat : Array (Option Value)}
    {C_Nothing : Addr}
    {I_Nothing : Addr} {ioc_Nothing ikV_Nothing idc_Nothing ipm_Nothing icd_Nothing ict_Nothing : Value} {iod_Nothing ian_Nothing : Option Addr} {isl_Nothing : Array (Option Value)}
    {kk_law_hand_right pp_law_hand_right : Addr}
    {c1_law_hand_right : Value} {d1_law_hand_right : Option Addr} {vs_law_hand_right : Array Value} {s1_law_hand_right : Array (Option Value)}
    {t_MOST_BASE : Tok}
    {t_MOST_DENOMINATOR : Tok}
    (a_is_integer : PySem.W.nsIn K mainGlobals "is_integer" = some (some (.ref f_is_integer)))
    (l_is_integer : K.lookup f_is_integer = some ⟨oc_is_integer, od_is_integer, .func (PySem.W.fnOf "is_integer" "is_integer" (defArgs s_is_integer) (defBody s_is_integer) (defScope s_is_integer) .none kV_is_integer dc_is_integer pm_is_integer an_is_integer cd_is_integer ct_is_integer), sl_is_integer⟩)
    (c_is_integer : PySem.W.codeIn K cd_is_integer "is_integer" = true)
    (k_is_integer : PySem.W.keepIn K (.ref f_is_integer) = true)
    (a_is_within : PySem.W.nsIn K mainGlobals "is_within" = some (some (.ref f_is_within)))
    (l_is_within : K.lookup f_is_within = some ⟨oc_is_within, od_is_within, .func (PySem.W.fnOf "is_within" "is_within" (defArgs s_is_within) (defBody s_is_within) (defScope s_is_within) .none kV_is_within dc_is_within pm_is_within an_is_within cd_is_within ct_is_within), sl_is_within⟩)
    (c_is_within : PySem.W.codeIn K cd_is_within "is_within" = true)
    (k_is_within : PySem.W.keepIn K (.ref f_is_within) = true)
    (a_need_base : PySem.W.nsIn K mainGlobals "need_base" = some (some (.ref f_need_base)))
    (l_need_base : K.lookup f_need_base = some ⟨oc_need_base, od_need_base, .func (PySem.W.fnOf "need_base" "need_base" (defArgs s_need_base) (defBody s_need_base) (defScope s_need_base) .none kV_need_base dc_need_base pm_need_base an_need_base cd_need_base ct_need_base), sl_need_base⟩)
    (c_need_base : PySem.W.codeIn K cd_need_base "need_base" = true)
    (k_need_base : PySem.W.keepIn K (.ref f_need_base) = true)
    (a_need_denominator : PySem.W.nsIn K mainGlobals "need_denominator" = some (some (.ref f_need_denominator)))
    (l_need_denominator : K.lookup f_need_denominator = some ⟨oc_need_denominator, od_need_denominator, .func (PySem.W.fnOf "need_denominator" "need_denominator" (defArgs s_need_denominator) (defBody s_need_denominator) (defScope s_need_denominator) .none kV_need_denominator dc_need_denominator pm_need_denominator an_need_denominator cd_need_denominator ct_need_denominator), sl_need_denominator⟩)
    (c_need_denominator : PySem.W.codeIn K cd_need_denominator "need_denominator" = true)
    (k_need_denominator : PySem.W.keepIn K (.ref f_need_denominator) = true)
    (a_need_fraction : PySem.W.nsIn K mainGlobals "need_fraction" = some (some (.ref f_need_fraction)))
    (l_need_fraction : K.lookup f_need_fraction = some ⟨oc_need_fraction, od_need_fraction, .func (PySem.W.fnOf "need_fraction" "need_fraction" (defArgs s_need_fraction) (defBody s_need_fraction) (defScope s_need_fraction) .none kV_need_fraction dc_need_fraction pm_need_fraction an_need_fraction cd_need_fraction ct_need_fraction), sl_need_fraction⟩)
    (c_need_fraction : PySem.W.codeIn K cd_need_fraction "need_fraction" = true)
    (k_need_fraction : PySem.W.keepIn K (.ref f_need_fraction) = true)
    (a_pure_part : PySem.W.nsIn K mainGlobals "pure_part" = some (some (.ref f_pure_part)))
    (l_pure_part : K.lookup f_pure_part = some ⟨oc_pure_part, od_pure_part, .func (PySem.W.fnOf "pure_part" "pure_part" (defArgs s_pure_part) (defBody s_pure_part) (defScope s_pure_part) .none kV_pure_part dc_pure_part pm_pure_part an_pure_part cd_pure_part ct_pure_part), sl_pure_part⟩)
    (c_pure_part : PySem.W.codeIn K cd_pure_part "pure_part" = true)
    (k_pure_part : PySem.W.keepIn K (.ref f_pure_part) = true)
    (a_period : PySem.W.nsIn K mainGlobals "period" = some (some (.ref f_period)))
    (l_period : K.lookup f_period = some ⟨oc_period, od_period, .func (PySem.W.fnOf "period" "period" (defArgs s_period) (defBody s_period) (defScope s_period) .none kV_period dc_period pm_period an_period cd_period ct_period), sl_period⟩)
    (c_period : PySem.W.codeIn K cd_period "period" = true)
    (k_period : PySem.W.keepIn K (.ref f_period) = true)
    (a_power : PySem.W.nsIn K mainGlobals "power" = some (some (.ref f_power)))
    (l_power : K.lookup f_power = some ⟨oc_power, od_power, .func (PySem.W.fnOf "power" "power" (defArgs s_power) (defBody s_power) (defScope s_power) .none kV_power dc_power pm_power an_power cd_power ct_power), sl_power⟩)
    (c_power : PySem.W.codeIn K cd_power "power" = true)
    (k_power : PySem.W.keepIn K (.ref f_power) = true)
    (a_prime_powers : PySem.W.nsIn K mainGlobals "prime_powers" = some (some (.ref f_prime_powers)))
    (l_prime_powers : K.lookup f_prime_powers = some ⟨oc_prime_powers, od_prime_powers, .func (PySem.W.fnOf "prime_powers" "prime_powers" (defArgs s_prime_powers) (defBody s_prime_powers) (defScope s_prime_powers) .none kV_prime_powers dc_prime_powers pm_prime_powers an_prime_powers cd_prime_powers ct_prime_powers), sl_prime_powers⟩)
    (c_prime_powers : PySem.W.codeIn K cd_prime_powers "prime_powers" = true)
    (k_prime_powers : PySem.W.keepIn K (.ref f_prime_powers) = true)
    (a_added : PySem.W.nsIn K mainGlobals "added" = some (some (.ref f_added)))
    (l_added : K.lookup f_added = some ⟨oc_added, od_added, .func (PySem.W.fnOf "added" "added" (defArgs s_added) (defBody s_added) (defScope s_added) .none kV_added dc_added pm_added an_added cd_added ct_added), sl_added⟩)
    (c_added : PySem.W.codeIn K cd_added "added" = true)
    (k_added : PySem.W.keepIn K (.ref f_added) = true)
    (a_sum_of : PySem.W.nsIn K mainGlobals "sum_of" = some (some (.ref f_sum_of)))
    (l_sum_of : K.lookup f_sum_of = some ⟨oc_sum_of, od_sum_of, .func (PySem.W.fnOf "sum_of" "sum_of" (defArgs s_sum_of) (defBody s_sum_of) (defScope s_sum_of) .none kV_sum_of dc_sum_of pm_sum_of an_sum_of cd_sum_of ct_sum_of), sl_sum_of⟩)
    (c_sum_of : PySem.W.codeIn K cd_sum_of "sum_of" = true)
    (k_sum_of : PySem.W.keepIn K (.ref f_sum_of) = true)
    (a_sum_exponents : PySem.W.nsIn K mainGlobals "sum_exponents" = some (some (.ref f_sum_exponents)))
    (l_sum_exponents : K.lookup f_sum_exponents = some ⟨oc_sum_exponents, od_sum_exponents, .func (PySem.W.fnOf "sum_exponents" "sum_exponents" (defArgs s_sum_exponents) (defBody s_sum_exponents) (defScope s_sum_exponents) .none kV_sum_exponents dc_sum_exponents pm_sum_exponents an_sum_exponents cd_sum_exponents ct_sum_exponents), sl_sum_exponents⟩)
    (c_sum_exponents : PySem.W.codeIn K cd_sum_exponents "sum_exponents" = true)
    (k_sum_exponents : PySem.W.keepIn K (.ref f_sum_exponents) = true)
    (a_sum_denominators : PySem.W.nsIn K mainGlobals "sum_denominators" = some (some (.ref f_sum_denominators)))
    (l_sum_denominators : K.lookup f_sum_denominators = some ⟨oc_sum_denominators, od_sum_denominators, .func (PySem.W.fnOf "sum_denominators" "sum_denominators" (defArgs s_sum_denominators) (defBody s_sum_denominators) (defScope s_sum_denominators) .none kV_sum_denominators dc_sum_denominators pm_sum_denominators an_sum_denominators cd_sum_denominators ct_sum_denominators), sl_sum_denominators⟩)
    (c_sum_denominators : PySem.W.codeIn K cd_sum_denominators "sum_denominators" = true)
    (k_sum_denominators : PySem.W.keepIn K (.ref f_sum_denominators) = true)
    (a_sum_periods : PySem.W.nsIn K mainGlobals "sum_periods" = some (some (.ref f_sum_periods)))
    (l_sum_periods : K.lookup f_sum_periods = some ⟨oc_sum_periods, od_sum_periods, .func (PySem.W.fnOf "sum_periods" "sum_periods" (defArgs s_sum_periods) (defBody s_sum_periods) (defScope s_sum_periods) .none kV_sum_periods dc_sum_periods pm_sum_periods an_sum_periods cd_sum_periods ct_sum_periods), sl_sum_periods⟩)
    (c_sum_periods : PySem.W.codeIn K cd_sum_periods "sum_periods" = true)
    (k_sum_periods : PySem.W.keepIn K (.ref f_sum_periods) = true)
    (a_sum_denominator : PySem.W.nsIn K mainGlobals "sum_denominator" = some (some (.ref f_sum_denominator)))
    (l_sum_denominator : K.lookup f_sum_denominator = some ⟨oc_sum_denominator, od_sum_denominator, .func (PySem.W.fnOf "sum_denominator" "sum_denominator" (defArgs s_sum_denominator) (defBody s_sum_denominator) (defScope s_sum_denominator) .none kV_sum_denominator dc_sum_denominator pm_sum_denominator an_sum_denominator cd_sum_denominator ct_sum_denominator), sl_sum_denominator⟩)
    (c_sum_denominator : PySem.W.codeIn K cd_sum_denominator "sum_denominator" = true)
    (k_sum_denominator : PySem.W.keepIn K (.ref f_sum_denominator) = true)
    (a_sum_example : PySem.W.nsIn K mainGlobals "sum_example" = some (some (.ref f_sum_example)))
    (l_sum_example : K.lookup f_sum_example = some ⟨oc_sum_example, od_sum_example, .func (PySem.W.fnOf "sum_example" "sum_example" (defArgs s_sum_example) (defBody s_sum_example) (defScope s_sum_example) .none kV_sum_example dc_sum_example pm_sum_example an_sum_example cd_sum_example ct_sum_example), sl_sum_example⟩)
    (c_sum_example : PySem.W.codeIn K cd_sum_example "sum_example" = true)
    (k_sum_example : PySem.W.keepIn K (.ref f_sum_example) = true)
    (a_law_begun : PySem.W.nsIn K mainGlobals "_law_begun" = some (some (.ref f_law_begun)))
    (l_law_begun : K.lookup f_law_begun = some ⟨oc_law_begun, od_law_begun, .func (PySem.W.fnOf "_law_begun" "_law_begun" (defArgs s_law_begun) (defBody s_law_begun) (defScope s_law_begun) .none kV_law_begun dc_law_begun pm_law_begun an_law_begun cd_law_begun ct_law_begun), sl_law_begun⟩)
    (c_law_begun : PySem.W.codeIn K cd_law_begun "_law_begun" = true)
    (k_law_begun : PySem.W.keepIn K (.ref f_law_begun) = true)
    (a_law_draw : PySem.W.nsIn K mainGlobals "_law_draw" = some (some (.ref f_law_draw)))
    (l_law_draw : K.lookup f_law_draw = some ⟨oc_law_draw, od_law_draw, .func (PySem.W.fnOf "_law_draw" "_law_draw" (defArgs s_law_draw) (defBody s_law_draw) (defScope s_law_draw) .none kV_law_draw dc_law_draw pm_law_draw an_law_draw cd_law_draw ct_law_draw), sl_law_draw⟩)
    (c_law_draw : PySem.W.codeIn K cd_law_draw "_law_draw" = true)
    (k_law_draw : PySem.W.keepIn K (.ref f_law_draw) = true)
    (a_law_divisor : PySem.W.nsIn K mainGlobals "_law_divisor" = some (some (.ref f_law_divisor)))
    (l_law_divisor : K.lookup f_law_divisor = some ⟨oc_law_divisor, od_law_divisor, .func (PySem.W.fnOf "_law_divisor" "_law_divisor" (defArgs s_law_divisor) (defBody s_law_divisor) (defScope s_law_divisor) .none kV_law_divisor dc_law_divisor pm_law_divisor an_law_divisor cd_law_divisor ct_law_divisor), sl_law_divisor⟩)
    (c_law_divisor : PySem.W.codeIn K cd_law_divisor "_law_divisor" = true)
    (k_law_divisor : PySem.W.keepIn K (.ref f_law_divisor) = true)
    (a_law_lowest : PySem.W.nsIn K mainGlobals "_law_lowest" = some (some (.ref f_law_lowest)))
    (l_law_lowest : K.lookup f_law_lowest = some ⟨oc_law_lowest, od_law_lowest, .func (PySem.W.fnOf "_law_lowest" "_law_lowest" (defArgs s_law_lowest) (defBody s_law_lowest) (defScope s_law_lowest) .none kV_law_lowest dc_law_lowest pm_law_lowest an_law_lowest cd_law_lowest ct_law_lowest), sl_law_lowest⟩)
    (c_law_lowest : PySem.W.codeIn K cd_law_lowest "_law_lowest" = true)
    (k_law_lowest : PySem.W.keepIn K (.ref f_law_lowest) = true)
    (a_law_powers : PySem.W.nsIn K mainGlobals "_law_powers" = some (some (.ref f_law_powers)))
    (l_law_powers : K.lookup f_law_powers = some ⟨oc_law_powers, od_law_powers, .func (PySem.W.fnOf "_law_powers" "_law_powers" (defArgs s_law_powers) (defBody s_law_powers) (defScope s_law_powers) .none kV_law_powers dc_law_powers pm_law_powers an_law_powers cd_law_powers ct_law_powers), sl_law_powers⟩)
    (c_law_powers : PySem.W.codeIn K cd_law_powers "_law_powers" = true)
    (k_law_powers : PySem.W.keepIn K (.ref f_law_powers) = true)
    (a_law_period : PySem.W.nsIn K mainGlobals "_law_period" = some (some (.ref f_law_period)))
    (l_law_period : K.lookup f_law_period = some ⟨oc_law_period, od_law_period, .func (PySem.W.fnOf "_law_period" "_law_period" (defArgs s_law_period) (defBody s_law_period) (defScope s_law_period) .none kV_law_period dc_law_period pm_law_period an_law_period cd_law_period ct_law_period), sl_law_period⟩)
    (c_law_period : PySem.W.codeIn K cd_law_period "_law_period" = true)
    (k_law_period : PySem.W.keepIn K (.ref f_law_period) = true)
    (a_law_units : PySem.W.nsIn K mainGlobals "_law_units" = some (some (.ref f_law_units)))
    (l_law_units : K.lookup f_law_units = some ⟨oc_law_units, od_law_units, .func (PySem.W.fnOf "_law_units" "_law_units" (defArgs s_law_units) (defBody s_law_units) (defScope s_law_units) .none kV_law_units dc_law_units pm_law_units an_law_units cd_law_units ct_law_units), sl_law_units⟩)
    (c_law_units : PySem.W.codeIn K cd_law_units "_law_units" = true)
    (k_law_units : PySem.W.keepIn K (.ref f_law_units) = true)
    (a_law_sum : PySem.W.nsIn K mainGlobals "_law_sum" = some (some (.ref f_law_sum)))
    (l_law_sum : K.lookup f_law_sum = some ⟨oc_law_sum, od_law_sum, .func (PySem.W.fnOf "_law_sum" "_law_sum" (defArgs s_law_sum) (defBody s_law_sum) (defScope s_law_sum) .none kV_law_sum dc_law_sum pm_law_sum an_law_sum cd_law_sum ct_law_sum), sl_law_sum⟩)
    (c_law_sum : PySem.W.codeIn K cd_law_sum "_law_sum" = true)
    (k_law_sum : PySem.W.keepIn K (.ref f_law_sum) = true)
    (a_law_all : PySem.W.nsIn K mainGlobals "_law_all" = some (some (.ref f_law_all)))
    (l_law_all : K.lookup f_law_all = some ⟨oc_law_all, od_law_all, .func (PySem.W.fnOf "_law_all" "_law_all" (defArgs s_law_all) (defBody s_law_all) (defScope s_law_all) .none kV_law_all dc_law_all pm_law_all an_law_all cd_law_all ct_law_all), sl_law_all⟩)
    (c_law_all : PySem.W.codeIn K cd_law_all "_law_all" = true)
    (k_law_all : PySem.W.keepIn K (.ref f_law_all) = true)
    (a_law_example : PySem.W.nsIn K mainGlobals "_law_example" = some (some (.ref f_law_example)))
    (l_law_example : K.lookup f_law_example = some ⟨oc_law_example, od_law_example, .func (PySem.W.fnOf "_law_example" "_law_example" (defArgs s_law_example) (defBody s_law_example) (defScope s_law_example) .none kV_law_example dc_law_example pm_law_example an_law_example cd_law_example ct_law_example), sl_law_example⟩)
    (c_law_example : PySem.W.codeIn K cd_law_example "_law_example" = true)
    (k_law_example : PySem.W.keepIn K (.ref f_law_example) = true)
    (a_law_pair_right : PySem.W.nsIn K mainGlobals "_law_pair_right" = some (some (.ref f_law_pair_right)))
    (l_law_pair_right : K.lookup f_law_pair_right = some ⟨oc_law_pair_right, od_law_pair_right, .func (PySem.W.fnOf "_law_pair_right" "_law_pair_right" (defArgs s_law_pair_right) (defBody s_law_pair_right) (defScope s_law_pair_right) .none kV_law_pair_right dc_law_pair_right pm_law_pair_right an_law_pair_right cd_law_pair_right ct_law_pair_right), sl_law_pair_right⟩)
    (c_law_pair_right : PySem.W.codeIn K cd_law_pair_right "_law_pair_right" = true)
    (k_law_pair_right : PySem.W.keepIn K (.ref f_law_pair_right) = true)
    (a_law_sums_right : PySem.W.nsIn K mainGlobals "_law_sums_right" = some (some (.ref f_law_sums_right)))
    (l_law_sums_right : K.lookup f_law_sums_right = some ⟨oc_law_sums_right, od_law_sums_right, .func (PySem.W.fnOf "_law_sums_right" "_law_sums_right" (defArgs s_law_sums_right) (defBody s_law_sums_right) (defScope s_law_sums_right) .none kV_law_sums_right dc_law_sums_right pm_law_sums_right an_law_sums_right cd_law_sums_right ct_law_sums_right), sl_law_sums_right⟩)
    (c_law_sums_right : PySem.W.codeIn K cd_law_sums_right "_law_sums_right" = true)
    (k_law_sums_right : PySem.W.keepIn K (.ref f_law_sums_right) = true)
    (a_law_heard : PySem.W.nsIn K mainGlobals "_law_heard" = some (some (.ref f_law_heard)))
    (l_law_heard : K.lookup f_law_heard = some ⟨oc_law_heard, od_law_heard, .func (PySem.W.fnOf "_law_heard" "_law_heard" (defArgs s_law_heard) (defBody s_law_heard) (defScope s_law_heard) .none kV_law_heard dc_law_heard pm_law_heard an_law_heard cd_law_heard ct_law_heard), sl_law_heard⟩)
    (c_law_heard : PySem.W.codeIn K cd_law_heard "_law_heard" = true)
    (k_law_heard : PySem.W.keepIn K (.ref f_law_heard) = true)
    (a_law_hand_right : PySem.W.nsIn K mainGlobals "_law_hand_right" = some (some (.ref f_law_hand_right)))
    (l_law_hand_right : K.lookup f_law_hand_right = some ⟨oc_law_hand_right, od_law_hand_right, .func (PySem.W.fnOf "_law_hand_right" "_law_hand_right" (defArgs s_law_hand_right) (defBody s_law_hand_right) (defScope s_law_hand_right) .none kV_law_hand_right dc_law_hand_right pm_law_hand_right an_law_hand_right cd_law_hand_right ct_law_hand_right), sl_law_hand_right⟩)
    (c_law_hand_right : PySem.W.codeIn K cd_law_hand_right "_law_hand_right" = true)
    (k_law_hand_right : PySem.W.keepIn K (.ref f_law_hand_right) = true)
    (a_law : PySem.W.nsIn K mainGlobals "law" = some (some (.ref f_law)))
    (l_law : K.lookup f_law = some ⟨oc_law, od_law, .func (PySem.W.fnOf "law" "law" (defArgs s_law) (defBody s_law) (defScope s_law) .none kV_law dc_law pm_law an_law cd_law ct_law), sl_law⟩)
    (c_law : PySem.W.codeIn K cd_law "law" = true)
    (k_law : PySem.W.keepIn K (.ref f_law) = true)
    (zb_isinstance : PySem.W.nsIn K mainGlobals "isinstance" = some none)
    (zb_int : PySem.W.nsIn K mainGlobals "int" = some none)
    (zb_bool : PySem.W.nsIn K mainGlobals "bool" = some none)
    (zb_len : PySem.W.nsIn K mainGlobals "len" = some none)
    (zb_range : PySem.W.nsIn K mainGlobals "range" = some none)
    (zb_tuple : PySem.W.nsIn K mainGlobals "tuple" = some none)
    (zb_list : PySem.W.nsIn K mainGlobals "list" = some none)
    (zb_max : PySem.W.nsIn K mainGlobals "max" = some none)
    (zb_min : PySem.W.nsIn K mainGlobals "min" = some none)
    (zb_repr : PySem.W.nsIn K mainGlobals "repr" = some none)
    (zb_sorted : PySem.W.nsIn K mainGlobals "sorted" = some none)
    (zb_dict : PySem.W.nsIn K mainGlobals "dict" = some none)
    (zb_OverflowError : PySem.W.nsIn K mainGlobals "OverflowError" = some none)
    (zb_LookupError : PySem.W.nsIn K mainGlobals "LookupError" = some none)
    (zb_set : PySem.W.nsIn K mainGlobals "set" = some none)
    (zb_gcd : PySem.W.nsIn K mainGlobals "gcd" = some (some (.builtin "math.gcd")))
    (zb_lcm : PySem.W.nsIn K mainGlobals "lcm" = some (some (.builtin "math.lcm")))
    (gc_WheelError : PySem.W.nsIn K mainGlobals "WheelError" = some (some (.ref C_WheelError)))
    (rd_WheelError : PySem.W.readsIn K C_WheelError (.type "type") = true)
    (rg_WheelError : PySem.W.specialIn K (.ref C_WheelError) "__getattribute__" = some (some (.builtin "type.__getattribute__")))
    (ri_WheelError : PySem.W.findCls K (.ref C_WheelError) (.type "type") "__init__" = some (.val (.builtin "ValueError.__init__")))
    (gc_BadBase : PySem.W.nsIn K mainGlobals "BadBase" = some (some (.ref C_BadBase)))
    (gc_BadDenominator : PySem.W.nsIn K mainGlobals "BadDenominator" = some (some (.ref C_BadDenominator)))
    (gc_BadFraction : PySem.W.nsIn K mainGlobals "BadFraction" = some (some (.ref C_BadFraction)))
    (gc_TooGreat : PySem.W.nsIn K mainGlobals "TooGreat" = some (some (.ref C_TooGreat)))
    (iC_TooGreat : PySem.W.findIn K (.ref C_TooGreat) "__init__" = some (some (.ref I_TooGreat)))
    (ini_TooGreat : PySem.W.excInitIn K C_TooGreat [.type "OverflowError", .type "ArithmeticError", .type "Exception", .type "BaseException", .type "object"] "OverflowError.__new__" = true)
    (ov_TooGreat : PySem.W.excOver K C_TooGreat [.type "OverflowError", .type "ArithmeticError", .type "Exception", .type "BaseException", .type "object"] = true)
    (hd_TooGreat : PySem.W.hasDictIn K C_TooGreat = true)
    (sa_TooGreat : PySem.W.findIn K (.ref C_TooGreat) "__setattr__" = some (some (.builtin "object.__setattr__")))
    (ex_TooGreat : PySem.W.subIn K (.ref C_TooGreat) (.type "BaseException") = some true)
    (ty_TooGreat : PySem.W.typeIn K (.ref C_TooGreat) = some (.type "type"))
    (kp_TooGreat : PySem.W.keepIn K (.ref C_TooGreat) = true)
    (tk_TooGreat : PySem.W.takerIn K C_TooGreat "most" = some none)
    (no_TooGreat : PySem.W.findIn K (.ref C_TooGreat) "most" = some none)
    (tI_TooGreat : PySem.W.typeIn K (.ref I_TooGreat) = some (.type "function"))
    (ga_TooGreat : PySem.W.findIn K (.ref C_TooGreat) "__getattribute__" = some (some (.builtin "BaseException.__getattribute__")))
    (gg_TooGreat : PySem.W.findIn K (.ref C_TooGreat) "__getattr__" = some none)
    (ha_TooGreat : PySem.W.findIn K (.ref C_TooGreat) "__class__" = some (some (.builtin "object.__class__")))
    (mr_TooGreat : PySem.W.mroIn K C_TooGreat (.type "object") = some true)
    (il_TooGreat : K.lookup I_TooGreat = some ⟨ioc_TooGreat, iod_TooGreat, .func (PySem.W.fnOf "__init__" "TooGreat.__init__" (defArgs s_TooGreat_init) (defBody s_TooGreat_init) (defScope s_TooGreat_init) .none ikV_TooGreat idc_TooGreat ipm_TooGreat ian_TooGreat icd_TooGreat ict_TooGreat), isl_TooGreat⟩)
    (ic_TooGreat : PySem.W.codeIn K icd_TooGreat "TooGreat.__init__" = true)
    (ik_TooGreat : PySem.W.keepIn K (.ref I_TooGreat) = true)
    (cl_TooGreat : PySem.W.isClsIn K C_TooGreat = true)
    (hn_TooGreat : PySem.W.specialIn K (.builtin "object.__class__") "__get__" = some (some (.builtin "getset_descriptor.__get__")))
    (ht_TooGreat : PySem.W.takesIn K (.builtin "object.__class__") = some true)
    (gc_Nothing : PySem.W.nsIn K mainGlobals "Nothing" = some (some (.ref C_Nothing)))
    (iC_Nothing : PySem.W.findIn K (.ref C_Nothing) "__init__" = some (some (.ref I_Nothing)))
    (ini_Nothing : PySem.W.excInitIn K C_Nothing [.type "LookupError", .type "Exception", .type "BaseException", .type "object"] "LookupError.__new__" = true)
    (ov_Nothing : PySem.W.excOver K C_Nothing [.type "LookupError", .type "Exception", .type "BaseException", .type "object"] = true)
    (hd_Nothing : PySem.W.hasDictIn K C_Nothing = true)
    (sa_Nothing : PySem.W.findIn K (.ref C_Nothing) "__setattr__" = some (some (.builtin "object.__setattr__")))
    (ex_Nothing : PySem.W.subIn K (.ref C_Nothing) (.type "BaseException") = some true)
    (ty_Nothing : PySem.W.typeIn K (.ref C_Nothing) = some (.type "type"))
    (kp_Nothing : PySem.W.keepIn K (.ref C_Nothing) = true)
    (tk_Nothing : PySem.W.takerIn K C_Nothing "value" = some none)
    (no_Nothing : PySem.W.findIn K (.ref C_Nothing) "value" = some none)
    (tI_Nothing : PySem.W.typeIn K (.ref I_Nothing) = some (.type "function"))
    (ga_Nothing : PySem.W.findIn K (.ref C_Nothing) "__getattribute__" = some (some (.builtin "BaseException.__getattribute__")))
    (gg_Nothing : PySem.W.findIn K (.ref C_Nothing) "__getattr__" = some none)
    (ha_Nothing : PySem.W.findIn K (.ref C_Nothing) "__class__" = some (some (.builtin "object.__class__")))
    (mr_Nothing : PySem.W.mroIn K C_Nothing (.type "object") = some true)
    (il_Nothing : K.lookup I_Nothing = some ⟨ioc_Nothing, iod_Nothing, .func (PySem.W.fnOf "__init__" "Nothing.__init__" (defArgs s_Nothing_init) (defBody s_Nothing_init) (defScope s_Nothing_init) .none ikV_Nothing idc_Nothing ipm_Nothing ian_Nothing icd_Nothing ict_Nothing), isl_Nothing⟩)
    (ic_Nothing : PySem.W.codeIn K icd_Nothing "Nothing.__init__" = true)
    (ik_Nothing : PySem.W.keepIn K (.ref I_Nothing) = true)
    (cl_Nothing : PySem.W.isClsIn K C_Nothing = true)
    (hn_Nothing : PySem.W.specialIn K (.builtin "object.__class__") "__get__" = some (some (.builtin "getset_descriptor.__get__")))
    (ht_Nothing : PySem.W.takesIn K (.builtin "object.__class__") = some true)
    (ex1_TooGreat : PySem.W.exmOne K (.ref C_TooGreat) (.ref C_TooGreat) = some true)
    (ex1_Nothing : PySem.W.exmOne K (.ref C_Nothing) (.ref C_Nothing) = some true)
    (ir_LookupError : PySem.W.findCls K (.type "LookupError") (.type "type") "__init__" = some (.val (.builtin "LookupError.__init__")))
    (ir_OverflowError : PySem.W.findCls K (.type "OverflowError") (.type "type") "__init__" = some (.val (.builtin "OverflowError.__init__")))
    (e_law_hand_right : cd_law_hand_right = .ref kk_law_hand_right)
    (lk_law_hand_right : K.lookup kk_law_hand_right = some ⟨c1_law_hand_right, d1_law_hand_right, .fields vs_law_hand_right, s1_law_hand_right⟩)
    (tv_law_hand_right : vs_law_hand_right[11]? = some (.ref pp_law_hand_right))
    (np_law_hand_right : K.lookup pp_law_hand_right = none)
    (zc_MOST_BASE : PySem.W.nsIn K mainGlobals "MOST_BASE" = some (some (.int 1000 t_MOST_BASE)))
    (zc_MOST_DENOMINATOR : PySem.W.nsIn K mainGlobals "MOST_DENOMINATOR" = some (some (.int 5000 t_MOST_DENOMINATOR)))
    : ∃ (fd : FuncData) (cs : List (Addr × Addr)) (sp : Sp), (∀ p ∈ cs, (∃ y ∈ (["_law_hand_right"] : List Str), PySem.W.tabIn K y = some p) ∧ K.lookup p.2 = none) ∧ (∀ (s : Shared) (v : Value), BindsTo s fd ⟨[v], []⟩ [("script", v)]) ∧
      (∀ (H : Hp) (a : Addr) (ns : List Int), ns.length ≤ 63 → (∀ p ∈ cs, H p.2 = some (.tbl #[])) → SqL K H a (ns.map V.int) → sp [.ref a] H (fun v _ => v = .bl true) fun _ _ _ => False) ∧
      ∀ base : Heap, K.In base → base.Ns mainGlobals mg → (∀ p ∈ cs, LamX.TabB base mg p.1 p.2) → FnG l.prog w K mg base CX0 15 fa fd ["script"] sp := by
  obtain ⟨T, hTT⟩ : ∃ T : Txt K mg, T = {
    d_is_integer := Dn.of X G (fun us hl => match us, hl with | [_], _ => rfl) a_is_integer l_is_integer c_is_integer k_is_integer
    d_is_within := Dn.of X G (fun us hl => match us, hl with | [_, _, _], _ => rfl) a_is_within l_is_within c_is_within k_is_within
    d_need_base := Dn.of X G (fun us hl => match us, hl with | [_], _ => rfl) a_need_base l_need_base c_need_base k_need_base
    d_need_denominator := Dn.of X G (fun us hl => match us, hl with | [_], _ => rfl) a_need_denominator l_need_denominator c_need_denominator k_need_denominator
    d_need_fraction := Dn.of X G (fun us hl => match us, hl with | [_], _ => rfl) a_need_fraction l_need_fraction c_need_fraction k_need_fraction
    d_pure_part := Dn.of X G (fun us hl => match us, hl with | [_, _], _ => rfl) a_pure_part l_pure_part c_pure_part k_pure_part
    d_period := Dn.of X G (fun us hl => match us, hl with | [_, _], _ => rfl) a_period l_period c_period k_period
    d_power := Dn.of X G (fun us hl => match us, hl with | [_, _], _ => rfl) a_power l_power c_power k_power
    d_prime_powers := Dn.of X G (fun us hl => match us, hl with | [_], _ => rfl) a_prime_powers l_prime_powers c_prime_powers k_prime_powers
    d_added := Dn.of X G (fun us hl => match us, hl with | [_, _], _ => rfl) a_added l_added c_added k_added
    d_sum_of := Dn.of X G (fun us hl => match us, hl with | [_, _], _ => rfl) a_sum_of l_sum_of c_sum_of k_sum_of
    d_sum_exponents := Dn.of X G (fun us hl => match us, hl with | [_, _, _], _ => rfl) a_sum_exponents l_sum_exponents c_sum_exponents k_sum_exponents
    d_sum_denominators := Dn.of X G (fun us hl => match us, hl with | [_, _], _ => rfl) a_sum_denominators l_sum_denominators c_sum_denominators k_sum_denominators
    d_sum_periods := Dn.of X G (fun us hl => match us, hl with | [_, _, _], _ => rfl) a_sum_periods l_sum_periods c_sum_periods k_sum_periods
    d_sum_denominator := Dn.of X G (fun us hl => match us, hl with | [_, _], _ => rfl) a_sum_denominator l_sum_denominator c_sum_denominator k_sum_denominator
    d_sum_example := Dn.of X G (fun us hl => match us, hl with | [_, _, _], _ => rfl) a_sum_example l_sum_example c_sum_example k_sum_example
    d_law_begun := Dn.of X G (fun us hl => match us, hl with | [_, _], _ => rfl) a_law_begun l_law_begun c_law_begun k_law_begun
    d_law_draw := Dn.of X G (fun us hl => match us, hl with | [_, _], _ => rfl) a_law_draw l_law_draw c_law_draw k_law_draw
    d_law_divisor := Dn.of X G (fun us hl => match us, hl with | [_, _], _ => rfl) a_law_divisor l_law_divisor c_law_divisor k_law_divisor
    d_law_lowest := Dn.of X G (fun us hl => match us, hl with | [_, _], _ => rfl) a_law_lowest l_law_lowest c_law_lowest k_law_lowest
    d_law_powers := Dn.of X G (fun us hl => match us, hl with | [_, _], _ => rfl) a_law_powers l_law_powers c_law_powers k_law_powers
    d_law_period := Dn.of X G (fun us hl => match us, hl with | [_, _], _ => rfl) a_law_period l_law_period c_law_period k_law_period
    d_law_units := Dn.of X G (fun us hl => match us, hl with | [_], _ => rfl) a_law_units l_law_units c_law_units k_law_units
    d_law_sum := Dn.of X G (fun us hl => match us, hl with | [_, _], _ => rfl) a_law_sum l_law_sum c_law_sum k_law_sum
    d_law_all := Dn.of X G (fun us hl => match us, hl with | [_, _], _ => rfl) a_law_all l_law_all c_law_all k_law_all
    d_law_example := Dn.of X G (fun us hl => match us, hl with | [_, _, _], _ => rfl) a_law_example l_law_example c_law_example k_law_example
    d_law_pair_right := Dn.of X G (fun us hl => match us, hl with | [_, _, _], _ => rfl) a_law_pair_right l_law_pair_right c_law_pair_right k_law_pair_right
    d_law_sums_right := Dn.of X G (fun us hl => match us, hl with | [_], _ => rfl) a_law_sums_right l_law_sums_right c_law_sums_right k_law_sums_right
    d_law_heard := Dn.of X G (fun us hl => match us, hl with | [_], _ => rfl) a_law_heard l_law_heard c_law_heard k_law_heard
    d_law_hand_right := Dn.of X G (fun us hl => match us, hl with | [], _ => rfl) a_law_hand_right l_law_hand_right c_law_hand_right k_law_hand_right
    d_law := Dn.of X G (fun us hl => match us, hl with | [_], _ => rfl) a_law l_law c_law k_law
    b_isinstance := PySem.W.mg_none_of X G zb_isinstance
    b_int := PySem.W.mg_none_of X G zb_int
    b_bool := PySem.W.mg_none_of X G zb_bool
    b_len := PySem.W.mg_none_of X G zb_len
    b_range := PySem.W.mg_none_of X G zb_range
    b_tuple := PySem.W.mg_none_of X G zb_tuple
    b_list := PySem.W.mg_none_of X G zb_list
    b_max := PySem.W.mg_none_of X G zb_max
    b_min := PySem.W.mg_none_of X G zb_min
    b_repr := PySem.W.mg_none_of X G zb_repr
    b_sorted := PySem.W.mg_none_of X G zb_sorted
    b_dict := PySem.W.mg_none_of X G zb_dict
    b_OverflowError := PySem.W.mg_none_of X G zb_OverflowError
    b_LookupError := PySem.W.mg_none_of X G zb_LookupError
    b_set := PySem.W.mg_none_of X G zb_set
    b_gcd := PySem.W.mg_of X G zb_gcd
    b_lcm := PySem.W.mg_of X G zb_lcm
    C_WheelError := C_WheelError
    g_WheelError := PySem.W.mg_of X G gc_WheelError
    r_WheelError := ⟨rd_WheelError, rg_WheelError⟩
    i_WheelError := ri_WheelError
    C_BadBase := C_BadBase
    g_BadBase := PySem.W.mg_of X G gc_BadBase
    C_BadDenominator := C_BadDenominator
    g_BadDenominator := PySem.W.mg_of X G gc_BadDenominator
    C_BadFraction := C_BadFraction
    g_BadFraction := PySem.W.mg_of X G gc_BadFraction
    C_TooGreat := C_TooGreat
    g_TooGreat := PySem.W.mg_of X G gc_TooGreat
    I_TooGreat := I_TooGreat
    T_TooGreat := ⟨PySem.F.excBase_OverflowError, PySem.F.store_OverflowError, ini_TooGreat, ov_TooGreat, hd_TooGreat, sa_TooGreat, ex_TooGreat, ty_TooGreat, kp_TooGreat, tk_TooGreat, no_TooGreat, iC_TooGreat, tI_TooGreat, ga_TooGreat, gg_TooGreat, ha_TooGreat, mr_TooGreat⟩
    fd_TooGreat := _
    F_TooGreat := fun_mk il_TooGreat ic_TooGreat ik_TooGreat
    b_TooGreat := .all (fun us hl => match us, hl with | [_, _], _ => rfl)
    is_TooGreat := ⟨cl_TooGreat, ga_TooGreat, gg_TooGreat, ex_TooGreat, ha_TooGreat, hn_TooGreat, ht_TooGreat, mr_TooGreat⟩
    C_Nothing := C_Nothing
    g_Nothing := PySem.W.mg_of X G gc_Nothing
    I_Nothing := I_Nothing
    T_Nothing := ⟨PySem.F.excBase_LookupError, PySem.F.store_LookupError, ini_Nothing, ov_Nothing, hd_Nothing, sa_Nothing, ex_Nothing, ty_Nothing, kp_Nothing, tk_Nothing, no_Nothing, iC_Nothing, tI_Nothing, ga_Nothing, gg_Nothing, ha_Nothing, mr_Nothing⟩
    fd_Nothing := _
    F_Nothing := fun_mk il_Nothing ic_Nothing ik_Nothing
    b_Nothing := .all (fun us hl => match us, hl with | [_, _], _ => rfl)
    is_Nothing := ⟨cl_Nothing, ga_Nothing, gg_Nothing, ex_Nothing, ha_Nothing, hn_Nothing, ht_Nothing, mr_Nothing⟩
    ex1_TooGreat := ex1_TooGreat
    ex1_Nothing := ex1_Nothing
    i_LookupError := ir_LookupError
    i_OverflowError := ir_OverflowError
    k_law_hand_right := kk_law_hand_right
    p_law_hand_right := pp_law_hand_right
    e_law_hand_right := e_law_hand_right
    t_MOST_BASE := t_MOST_BASE
    c_MOST_BASE := PySem.W.mg_of X G zc_MOST_BASE
    t_MOST_DENOMINATOR := t_MOST_DENOMINATOR
    c_MOST_DENOMINATOR := PySem.W.mg_of X G zc_MOST_DENOMINATOR
  } := ⟨_, rfl⟩
  have e := hfa.symm.trans T.d_law.m
  cases e
  refine ⟨T.d_law.fd, [(T.k_law_hand_right, T.p_law_hand_right)], (sp_law T), ?_, fun s v => .of_eq (T.d_law.e [v] rfl), ?_, fun base _ _ hB => okG_law T ⟨hB (T.k_law_hand_right, T.p_law_hand_right) (by simp)⟩⟩
  · intro p hp
    simp only [List.mem_cons, List.not_mem_nil, or_false] at hp
    subst hTT
    rcases hp with rfl
    · exact ⟨⟨"_law_hand_right", by simp, tab_mk a_law_hand_right l_law_hand_right e_law_hand_right lk_law_hand_right tv_law_hand_right⟩, np_law_hand_right⟩
  · intro H a ns hl hT hS
    refine ⟨a, ns, rfl, tabs0 fun p hp => ?_, hS, hl, fun _ => rfl⟩
    unfold tl at hp
    simp only [List.mem_cons, List.not_mem_nil, or_false] at hp
    rcases hp with rfl
    · exact hT (T.k_law_hand_right, T.p_law_hand_right) (by simp)
end Wn
open PySem PySem.W PyProof.Rows
set_option maxRecDepth 100000 in
set_option maxHeartbeats 0 in
theorem PySem.Challenge.cw_wheelnines_k42_whole_sums_holds : PySem.Challenge.rw_wheelnines_k42_whole_sums.Holds := by
  w_on; o_law; k_head; (case hw => w_witness2)
  k_fill
  refine Wn.walkGT (l := PySem.Challenge.rw_wheelnines_k42_whole_sums) (n := 63) (k := 15) (x := "script") (xs := ["_law_hand_right"]) rfl (by decide) rfl ⟨rfl, by decide, by decide⟩ (by decide +kernel) (fun w h Y => by first | exact PySem.W.km_in_of Y | exact PySem.W.kIn_of Y) ?F
  case F =>
    intro w mg fa h KX G hmg
    refine' Wn.all_mk KX G hmg ?a_is_integer ?l_is_integer ?c_is_integer ?k_is_integer ?a_is_within ?l_is_within ?c_is_within ?k_is_within ?a_need_base ?l_need_base ?c_need_base ?k_need_base ?a_need_denominator ?l_need_denominator ?c_need_denominator ?k_need_denominator ?a_need_fraction ?l_need_fraction ?c_need_fraction ?k_need_fraction ?a_pure_part ?l_pure_part ?c_pure_part ?k_pure_part ?a_period ?l_period ?c_period ?k_period ?a_power ?l_power ?c_power ?k_power ?a_prime_powers ?l_prime_powers ?c_prime_powers ?k_prime_powers ?a_added ?l_added ?c_added ?k_added ?a_sum_of ?l_sum_of ?c_sum_of ?k_sum_of ?a_sum_exponents ?l_sum_exponents ?c_sum_exponents ?k_sum_exponents ?a_sum_denominators ?l_sum_denominators ?c_sum_denominators ?k_sum_denominators ?a_sum_periods ?l_sum_periods ?c_sum_periods ?k_sum_periods ?a_sum_denominator ?l_sum_denominator ?c_sum_denominator ?k_sum_denominator ?a_sum_example ?l_sum_example ?c_sum_example ?k_sum_example ?a_law_begun ?l_law_begun ?c_law_begun ?k_law_begun ?a_law_draw ?l_law_draw ?c_law_draw ?k_law_draw ?a_law_divisor ?l_law_divisor ?c_law_divisor ?k_law_divisor ?a_law_lowest ?l_law_lowest ?c_law_lowest ?k_law_lowest ?a_law_powers ?l_law_powers ?c_law_powers ?k_law_powers ?a_law_period ?l_law_period ?c_law_period ?k_law_period ?a_law_units ?l_law_units ?c_law_units ?k_law_units ?a_law_sum ?l_law_sum ?c_law_sum ?k_law_sum ?a_law_all ?l_law_all ?c_law_all ?k_law_all ?a_law_example ?l_law_example ?c_law_example ?k_law_example ?a_law_pair_right ?l_law_pair_right ?c_law_pair_right ?k_law_pair_right ?a_law_sums_right ?l_law_sums_right ?c_law_sums_right ?k_law_sums_right ?a_law_heard ?l_law_heard ?c_law_heard ?k_law_heard ?a_law_hand_right ?l_law_hand_right ?c_law_hand_right ?k_law_hand_right ?a_law ?l_law ?c_law ?k_law ?zb_isinstance ?zb_int ?zb_bool ?zb_len ?zb_range ?zb_tuple ?zb_list ?zb_max ?zb_min ?zb_repr ?zb_sorted ?zb_dict ?zb_OverflowError ?zb_LookupError ?zb_set ?zb_gcd ?zb_lcm ?gc_WheelError ?rd_WheelError ?rg_WheelError ?ri_WheelError ?gc_BadBase ?gc_BadDenominator ?gc_BadFraction ?gc_TooGreat ?iC_TooGreat ?ini_TooGreat ?ov_TooGreat ?hd_TooGreat ?sa_TooGreat ?ex_TooGreat ?ty_TooGreat ?kp_TooGreat ?tk_TooGreat ?no_TooGreat ?tI_TooGreat ?ga_TooGreat ?gg_TooGreat ?ha_TooGreat ?mr_TooGreat ?il_TooGreat ?ic_TooGreat ?ik_TooGreat ?cl_TooGreat ?hn_TooGreat ?ht_TooGreat ?gc_Nothing ?iC_Nothing ?ini_Nothing ?ov_Nothing ?hd_Nothing ?sa_Nothing ?ex_Nothing ?ty_Nothing ?kp_Nothing ?tk_Nothing ?no_Nothing ?tI_Nothing ?ga_Nothing ?gg_Nothing ?ha_Nothing ?mr_Nothing ?il_Nothing ?ic_Nothing ?ik_Nothing ?cl_Nothing ?hn_Nothing ?ht_Nothing ?ex1_TooGreat ?ex1_Nothing ?ir_LookupError ?ir_OverflowError ?e_law_hand_right ?lk_law_hand_right ?tv_law_hand_right ?np_law_hand_right ?zc_MOST_BASE ?zc_MOST_DENOMINATOR
    (case a_is_integer => k_is)
    (case l_is_integer => k_is)
    (case c_is_integer => k_is)
    (case k_is_integer => k_is)
    (case a_is_within => k_is)
    (case l_is_within => k_is)
    (case c_is_within => k_is)
    (case k_is_within => k_is)
    (case a_need_base => k_is)
    (case l_need_base => k_is)
    (case c_need_base => k_is)
    (case k_need_base => k_is)
    (case a_need_denominator => k_is)
    (case l_need_denominator => k_is)
    (case c_need_denominator => k_is)
    (case k_need_denominator => k_is)
    (case a_need_fraction => k_is)
    (case l_need_fraction => k_is)
    (case c_need_fraction => k_is)
    (case k_need_fraction => k_is)
    (case a_pure_part => k_is)
    (case l_pure_part => k_is)
    (case c_pure_part => k_is)
    (case k_pure_part => k_is)
    (case a_period => k_is)
    (case l_period => k_is)
    (case c_period => k_is)
    (case k_period => k_is)
    (case a_power => k_is)
    (case l_power => k_is)
    (case c_power => k_is)
    (case k_power => k_is)
    (case a_prime_powers => k_is)
    (case l_prime_powers => k_is)
    (case c_prime_powers => k_is)
    (case k_prime_powers => k_is)
    (case a_added => k_is)
    (case l_added => k_is)
    (case c_added => k_is)
    (case k_added => k_is)
    (case a_sum_of => k_is)
    (case l_sum_of => k_is)
    (case c_sum_of => k_is)
    (case k_sum_of => k_is)
    (case a_sum_exponents => k_is)
    (case l_sum_exponents => k_is)
    (case c_sum_exponents => k_is)
    (case k_sum_exponents => k_is)
    (case a_sum_denominators => k_is)
    (case l_sum_denominators => k_is)
    (case c_sum_denominators => k_is)
    (case k_sum_denominators => k_is)
    (case a_sum_periods => k_is)
    (case l_sum_periods => k_is)
    (case c_sum_periods => k_is)
    (case k_sum_periods => k_is)
    (case a_sum_denominator => k_is)
    (case l_sum_denominator => k_is)
    (case c_sum_denominator => k_is)
    (case k_sum_denominator => k_is)
    (case a_sum_example => k_is)
    (case l_sum_example => k_is)
    (case c_sum_example => k_is)
    (case k_sum_example => k_is)
    (case a_law_begun => k_is)
    (case l_law_begun => k_is)
    (case c_law_begun => k_is)
    (case k_law_begun => k_is)
    (case a_law_draw => k_is)
    (case l_law_draw => k_is)
    (case c_law_draw => k_is)
    (case k_law_draw => k_is)
    (case a_law_divisor => k_is)
    (case l_law_divisor => k_is)
    (case c_law_divisor => k_is)
    (case k_law_divisor => k_is)
    (case a_law_lowest => k_is)
    (case l_law_lowest => k_is)
    (case c_law_lowest => k_is)
    (case k_law_lowest => k_is)
    (case a_law_powers => k_is)
    (case l_law_powers => k_is)
    (case c_law_powers => k_is)
    (case k_law_powers => k_is)
    (case a_law_period => k_is)
    (case l_law_period => k_is)
    (case c_law_period => k_is)
    (case k_law_period => k_is)
    (case a_law_units => k_is)
    (case l_law_units => k_is)
    (case c_law_units => k_is)
    (case k_law_units => k_is)
    (case a_law_sum => k_is)
    (case l_law_sum => k_is)
    (case c_law_sum => k_is)
    (case k_law_sum => k_is)
    (case a_law_all => k_is)
    (case l_law_all => k_is)
    (case c_law_all => k_is)
    (case k_law_all => k_is)
    (case a_law_example => k_is)
    (case l_law_example => k_is)
    (case c_law_example => k_is)
    (case k_law_example => k_is)
    (case a_law_pair_right => k_is)
    (case l_law_pair_right => k_is)
    (case c_law_pair_right => k_is)
    (case k_law_pair_right => k_is)
    (case a_law_sums_right => k_is)
    (case l_law_sums_right => k_is)
    (case c_law_sums_right => k_is)
    (case k_law_sums_right => k_is)
    (case a_law_heard => k_is)
    (case l_law_heard => k_is)
    (case c_law_heard => k_is)
    (case k_law_heard => k_is)
    (case a_law_hand_right => k_is)
    (case l_law_hand_right => k_is)
    (case c_law_hand_right => k_is)
    (case k_law_hand_right => k_is)
    (case a_law => k_is)
    (case l_law => k_is)
    (case c_law => k_is)
    (case k_law => k_is)
    (case zb_isinstance => k_is)
    (case zb_int => k_is)
    (case zb_bool => k_is)
    (case zb_len => k_is)
    (case zb_range => k_is)
    (case zb_tuple => k_is)
    (case zb_list => k_is)
    (case zb_max => k_is)
    (case zb_min => k_is)
    (case zb_repr => k_is)
    (case zb_sorted => k_is)
    (case zb_dict => k_is)
    (case zb_OverflowError => k_is)
    (case zb_LookupError => k_is)
    (case zb_set => k_is)
    (case zb_gcd => k_is)
    (case zb_lcm => k_is)
    (case gc_WheelError => k_is)
    (case rd_WheelError => k_is)
    (case rg_WheelError => k_is)
    (case ri_WheelError => k_is)
    (case gc_BadBase => k_is)
    (case gc_BadDenominator => k_is)
    (case gc_BadFraction => k_is)
    (case gc_TooGreat => k_is)
    (case iC_TooGreat => k_is)
    (case ini_TooGreat => kx_is)
    (case ov_TooGreat => kx_is)
    (case hd_TooGreat => k_is)
    (case sa_TooGreat => k_is)
    (case ex_TooGreat => k_is)
    (case ty_TooGreat => k_is)
    (case kp_TooGreat => k_is)
    (case tk_TooGreat => k_is)
    (case no_TooGreat => k_is)
    (case tI_TooGreat => k_is)
    (case ga_TooGreat => k_is)
    (case gg_TooGreat => k_is)
    (case ha_TooGreat => k_is)
    (case mr_TooGreat => k_is)
    (case il_TooGreat => k_is)
    (case ic_TooGreat => k_is)
    (case ik_TooGreat => k_is)
    (case cl_TooGreat => k_is)
    (case hn_TooGreat => k_is)
    (case ht_TooGreat => k_is)
    (case gc_Nothing => k_is)
    (case iC_Nothing => k_is)
    (case ini_Nothing => kx_is)
    (case ov_Nothing => kx_is)
    (case hd_Nothing => k_is)
    (case sa_Nothing => k_is)
    (case ex_Nothing => k_is)
    (case ty_Nothing => k_is)
    (case kp_Nothing => k_is)
    (case tk_Nothing => k_is)
    (case no_Nothing => k_is)
    (case tI_Nothing => k_is)
    (case ga_Nothing => k_is)
    (case gg_Nothing => k_is)
    (case ha_Nothing => k_is)
    (case mr_Nothing => k_is)
    (case il_Nothing => k_is)
    (case ic_Nothing => k_is)
    (case ik_Nothing => k_is)
    (case cl_Nothing => k_is)
    (case hn_Nothing => k_is)
    (case ht_Nothing => k_is)
    (case ex1_TooGreat => kernel_rfl)
    (case ex1_Nothing => kernel_rfl)
    (case ir_LookupError => k_is)
    (case ir_OverflowError => k_is)
    (case e_law_hand_right => rfl)
    (case lk_law_hand_right => k_is)
    (case tv_law_hand_right => rfl)
    (case np_law_hand_right => kernel_rfl)
    (case zc_MOST_BASE => k_is)
    (case zc_MOST_DENOMINATOR => k_is)
