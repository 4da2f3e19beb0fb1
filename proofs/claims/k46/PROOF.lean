import PyProof.Rows.All
import Wide.All
import OpenK.AllK
import Wide.FinOn
import HandS.ForMost
import HandS.Wide
import HandS.Gcd
import HandS.IsInst
import HandS.TupAny
import HandS.Style
import PyProof.ReprBulk
import PyProof.ReprRoads
import PyProof.ReprLen
import PyProof.Rows.SumAny
import PyProof.WalksMore
import HandS.SetFor
import HandS.Strs
import HandS.TupMul
import HandS.ListItems
import HandS.SortRule
import KE.KExcInit
import HandS.ExcInit
import HandS.ExcValue
import HandS.ExcField
import HandS.ExcIs
import HandS.ClsMeth
import KE.KExcIs
import KE.KTryMore
import HandS.TryMany
import HandS.Lambda
import KE.KDflt
import HandS.EndTab
import KE.KExcLine
import HandS.ExcOwn
import KE.KMathG
import PyProof.SeqIndex
import HandS.WordsExc
import KE.RegKIsAll
import PySem.Challenge.RW_wheelnines_k46_whole_exponents
set_option Elab.async false
set_option linter.all false
set_option maxRecDepth 100000
set_option maxHeartbeats 4000000
namespace Wn
open PySem PySem.Spec PyProof.Rows L2
/-! a def of the text as it stands: where, its facts, its name -/
structure Dn (K : PySem.W.Frag) (mg : Str → Option Value) (x : Str) (st : Stmt) (ps : List Str) where
  f : Addr
  fd : FuncData
  F : Fun K x x st f fd
  e : ∀ us : List Value, us.length = ps.length → bindArgs fd ⟨us, []⟩ = pure (ps.zip us)
  m : mg x = some (.ref f)
theorem Dn.b {K : PySem.W.Frag} {mg : Str → Option Value} {x : Str} {st : Stmt} {ps : List Str} (D : Dn K mg x st ps) : Binds K D.fd ps [] := .all D.e
def Dn.of {K : PySem.W.Frag} {h : Heap} {mg : Str → Option Value} {x : Str} {st : Stmt} {ps : List Str} {f : Addr} {oc kV doc pm cdv ct : Value} {od an : Option Addr} {osl : Array (Option Value)} (X : K.In h) (G : h.Ns mainGlobals mg)
    (hb : ∀ us : List Value, us.length = ps.length → bindArgs (PySem.W.fnOf x x (defArgs st) (defBody st) (defScope st) .none kV doc pm an cdv ct) ⟨us, []⟩ = pure (ps.zip us))
    (a : PySem.W.nsIn K mainGlobals x = some (some (.ref f))) (l : K.lookup f = some ⟨oc, od, .func (PySem.W.fnOf x x (defArgs st) (defBody st) (defScope st) .none kV doc pm an cdv ct), osl⟩)
    (c : PySem.W.codeIn K cdv x = true) (k : PySem.W.keepIn K (.ref f) = true) : Dn K mg x st ps := ⟨f, _, fun_mk l c k, hb, PySem.W.mg_of X G a⟩
/-! all that stood stands, but what is at W -/
def Gr (W : List Addr) (H H' : Hp) : Prop := ∀ a o, a ∉ W → H a = some o → H' a = some o
theorem Gr.refl (W : List Addr) (H : Hp) : Gr W H H := fun _ _ _ h => h
theorem Gr.trans {W : List Addr} {H H1 H2 : Hp} (a : Gr W H H1) (b : Gr W H1 H2) : Gr W H H2 := fun x o n h => b x o n (a x o n h)
theorem Gr.new {W : List Addr} {H : Hp} {p : Addr} {o : HO} (h : H p = none) : Gr W H (upd H p o) := fun a u _ e => by
  rw [upd_ne (ne_of_none e h)]
  exact e
theorem Gr.wr {W : List Addr} {H : Hp} {p : Addr} {o : HO} (h : p ∈ W) : Gr W H (upd H p o) := fun a u n e => by
  have z : a ≠ p := fun z => by
    subst z
    exact n h
  rw [upd_ne z]
  exact e
theorem Gr.mono {W W' : List Addr} {H H' : Hp} (h : ∀ a, a ∈ W → a ∈ W') (g : Gr W H H') : Gr W' H H' := fun a o n e => g a o (fun z => n (h a z)) e
end Wn
/-! the mathematics: powers, remainders, pure parts, periods, heads -/
namespace Wn
theorem cop_pow {a b : Nat} (h : Nat.gcd a b = 1) (k : Nat) : Nat.gcd (a ^ k) b = 1 := Nat.Coprime.pow_left k h
theorem mod_iff {p a c : Nat} (h : a ≤ c) : a % p = c % p ↔ p ∣ c - a := by
  constructor
  · intro e
    exact Nat.dvd_of_mod_eq_zero (Nat.sub_mod_eq_zero_of_mod_eq e.symm)
  · rintro ⟨t, e⟩
    have : c = a + p * t := by omega
    rw [this, Nat.add_mul_mod_self_left]
/-! a pigeonhole -/
theorem nodup_le : ∀ (n : Nat) (l : List Nat), l.Nodup → (∀ x ∈ l, x < n) → l.length ≤ n := by
  intro n
  induction n with
  | zero =>
    intro l _ h
    cases l with
    | nil => exact Nat.le_refl _
    | cons x r => exact absurd (h x (List.mem_cons_self ..)) (Nat.not_lt_zero _)
  | succ n ih =>
    intro l nd h
    have h1 := ih (l.erase n) (nd.erase n) (fun x hx => by
      have hm := List.mem_of_mem_erase hx
      have hlt := h x hm
      have hne : x ≠ n := fun e => by
        subst e
        exact (List.Nodup.not_mem_erase nd) hx
      omega)
    by_cases hn : n ∈ l
    · rw [List.length_erase_of_mem hn] at h1
      omega
    · rw [List.erase_of_not_mem hn] at h1
      omega
/-- among n + 1 numbers below n two are the same -/
theorem pigeon (n : Nat) (f : Nat → Nat) (h : ∀ i, i ≤ n → f i < n) : ∃ i j, i < j ∧ j ≤ n ∧ f i = f j := by
  by_cases nd : ((List.range (n + 1)).map f).Nodup
  · have := nodup_le n _ nd (fun x hx => by
      obtain ⟨i, hi, e⟩ := List.mem_map.mp hx
      rw [← e]
      exact h i (by have := List.mem_range.mp hi; omega))
    rw [List.length_map, List.length_range] at this
    omega
  · rw [List.nodup_iff_pairwise_ne, List.pairwise_map] at nd
    apply Classical.byContradiction
    intro hc
    apply nd
    rw [List.pairwise_iff_getElem]
    intro i j hi hj hij e
    rw [List.getElem_range, List.getElem_range] at e
    rw [List.length_range] at hj
    exact hc ⟨i, j, hij, by omega, e⟩
/-! pure parts -/
def IsPure (b n p : Nat) : Prop := Nat.gcd b p = 1 ∧ ∃ q k, n = p * q ∧ q ∣ b ^ k
theorem cop_of_dvd_pow {b p q k : Nat} (h : Nat.gcd b p = 1) (hq : q ∣ b ^ k) : Nat.gcd p q = 1 := by
  have h1 : Nat.gcd (b ^ k) p = 1 := cop_pow h k
  have h2 : Nat.gcd p q ∣ Nat.gcd (b ^ k) p := Nat.dvd_gcd (Nat.dvd_trans (Nat.gcd_dvd_right p q) hq) (Nat.gcd_dvd_left p q)
  rw [h1] at h2
  exact Nat.dvd_one.mp h2
theorem IsPure.dvd {b n p p' : Nat} (h : IsPure b n p) (h' : IsPure b n p') : p ∣ p' := by
  obtain ⟨g, q, k, e, hq⟩ := h
  obtain ⟨g', q', k', e', hq'⟩ := h'
  have c : Nat.Coprime p q' := cop_of_dvd_pow g hq'
  refine c.dvd_of_dvd_mul_right ?_
  rw [← e', e]
  exact Nat.dvd_mul_right p q
theorem IsPure.uniq {b n p p' : Nat} (h : IsPure b n p) (h' : IsPure b n p') : p = p' := Nat.dvd_antisymm (h.dvd h') (h'.dvd h)
theorem IsPure.self {b n : Nat} (h : Nat.gcd b n = 1) : IsPure b n n := ⟨h, 1, 0, by simp, by simp⟩
/-! periods -/
def IsPer (b p d : Nat) : Prop := 1 ≤ d ∧ b ^ d % p = 1 % p ∧ ∀ j, 1 ≤ j → j < d → b ^ j % p ≠ 1 % p
theorem IsPer.uniq {b p d d' : Nat} (h : IsPer b p d) (h' : IsPer b p d') : d = d' := by
  obtain ⟨h1, h2, h3⟩ := h
  obtain ⟨g1, g2, g3⟩ := h'
  apply Nat.le_antisymm
  · apply Nat.le_of_not_lt
    intro l
    exact h3 d' g1 l g2
  · apply Nat.le_of_not_lt
    intro l
    exact g3 d h1 l h2
theorem least (P : Nat → Prop) [DecidablePred P] : ∀ n, P n → ∃ m, m ≤ n ∧ P m ∧ ∀ j, j < m → ¬ P j := by
  intro n
  induction n using Nat.strongRecOn with
  | _ n ih =>
    intro hn
    by_cases h : ∃ j, j < n ∧ P j
    · obtain ⟨j, hj, pj⟩ := h
      obtain ⟨m, hm, pm, q⟩ := ih j hj pj
      exact ⟨m, by omega, pm, q⟩
    · exact ⟨n, Nat.le_refl _, hn, fun j hj pj => h ⟨j, hj, pj⟩⟩
/-- a common factor that is pure may go: b ^ i * c ≡ b ^ i * d -/
theorem mod_cancel {p a c d : Nat} (g : Nat.gcd a p = 1) (h : a * c % p = a * d % p) : c % p = d % p := by
  have key : ∀ {c d : Nat}, c ≤ d → a * c % p = a * d % p → c % p = d % p := by
    intro c d hcd h
    have h1 : p ∣ a * (d - c) := by
      rw [Nat.mul_sub]
      exact (mod_iff (Nat.mul_le_mul_left a hcd)).mp h
    have h2 : p ∣ d - c := Nat.Coprime.dvd_of_dvd_mul_left (Nat.Coprime.symm g) h1
    exact (mod_iff hcd).mpr h2
  rcases Nat.le_total c d with l | l
  · exact key l h
  · exact (key l h.symm).symm
theorem per_exists {b p : Nat} (hp : 1 ≤ p) (g : Nat.gcd b p = 1) : ∃ d, d ≤ p ∧ IsPer b p d := by
  obtain ⟨i, j, hij, hj, e⟩ := pigeon p (fun k => b ^ k % p) (fun i _ => Nat.mod_lt _ hp)
  have e1 : b ^ (j - i) % p = 1 % p := by
    have e' : b ^ i * b ^ (j - i) % p = b ^ i * 1 % p := by
      rw [← Nat.pow_add, show i + (j - i) = j by omega, Nat.mul_one]
      exact e.symm
    exact mod_cancel (cop_pow g i) e'
  obtain ⟨m, hm, ⟨pm1, pm⟩, q⟩ := least (fun k => 1 ≤ k ∧ b ^ k % p = 1 % p) (j - i) ⟨by omega, e1⟩
  exact ⟨m, by omega, pm1, pm, fun k k1 kl z => q k kl ⟨k1, z⟩⟩
theorem pow_mod_step (b p k : Nat) : b ^ k % p * b % p = b ^ (k + 1) % p := by
  rw [Nat.mod_mul_mod, Nat.pow_succ]
theorem IsPer.mul {b p d : Nat} (h : IsPer b p d) (k : Nat) : b ^ (d * k) % p = 1 % p := by
  induction k with
  | zero => simp
  | succ k ih =>
    rw [Nat.mul_succ, Nat.pow_add, Nat.mul_mod, ih, h.2.1, ← Nat.mul_mod, Nat.mul_one]
theorem IsPer.iff {b p d : Nat} (h : IsPer b p d) (k : Nat) : b ^ k % p = 1 % p ↔ d ∣ k := by
  have e : b ^ k % p = b ^ (k % d) % p := by
    have := Nat.div_add_mod k d
    rw [show b ^ k = b ^ (d * (k / d) + k % d) by rw [this], Nat.pow_add, Nat.mul_mod, h.mul, ← Nat.mul_mod, Nat.one_mul]
  constructor
  · intro hk
    rw [e] at hk
    apply Nat.dvd_of_mod_eq_zero
    apply Classical.byContradiction
    intro hz
    exact h.2.2 (k % d) (by omega) (Nat.mod_lt _ h.1) hk
  · rintro ⟨m, rfl⟩
    exact h.mul m
/-! heads -/
def IsHead (b q h : Nat) : Prop := b ^ h % q = 0 ∧ ∀ j, j < h → b ^ j % q ≠ 0
theorem IsHead.uniq {b q h h' : Nat} (a : IsHead b q h) (c : IsHead b q h') : h = h' := by
  apply Nat.le_antisymm
  · apply Nat.le_of_not_lt
    intro l
    exact a.2 h' l c.1
  · apply Nat.le_of_not_lt
    intro l
    exact c.2 h l a.1
theorem head_exists {b q k : Nat} (h : q ∣ b ^ k) : ∃ m, m ≤ k ∧ IsHead b q m := by
  obtain ⟨m, hm, pm, r⟩ := least (fun j => b ^ j % q = 0) k (Nat.mod_eq_zero_of_dvd h)
  exact ⟨m, hm, pm, r⟩
theorem IsHead.iff {b q h : Nat} (a : IsHead b q h) (k : Nat) : q ∣ b ^ k ↔ h ≤ k := by
  constructor
  · intro d
    apply Nat.le_of_not_lt
    intro l
    exact a.2 k l (Nat.mod_eq_zero_of_dvd d)
  · intro l
    have d : q ∣ b ^ h := Nat.dvd_of_mod_eq_zero a.1
    rw [show k = h + (k - h) by omega, Nat.pow_add]
    exact Nat.dvd_trans d (Nat.dvd_mul_right _ _)
theorem head_le {b q h : Nat} (hq : 1 ≤ q) (a : IsHead b q h) : h ≤ q := by
  apply Nat.le_of_not_lt
  intro l
  -- among the first q + 1 remainders two are the same: then none is nought behind
  obtain ⟨i, j, hij, hj, e⟩ := pigeon q (fun k => b ^ k % q) (fun i _ => Nat.mod_lt _ hq)
  have key : ∀ k, b ^ (i + k) % q = b ^ (j + k) % q := by
    intro k
    rw [Nat.pow_add, Nat.pow_add, Nat.mul_mod, e, ← Nat.mul_mod]
  have hz : b ^ (j + (h - j)) % q = 0 := by
    rw [show j + (h - j) = h by omega]
    exact a.1
  rw [← key] at hz
  exact a.2 (i + (h - j)) (by omega) hz
/-! remainders -/
def rem (b n x i : Nat) : Nat := x * b ^ i % n
theorem rem_lt {b n x i : Nat} (h : 1 ≤ n) : rem b n x i < n := Nat.mod_lt _ h
theorem rem_succ (b n x i : Nat) : rem b n x i * b % n = rem b n x (i + 1) := by
  unfold rem
  rw [Nat.mod_mul_mod, Nat.pow_succ, Nat.mul_assoc]
theorem rem_zero {b n x : Nat} (h : x < n) : rem b n x 0 = x := by
  unfold rem
  rw [Nat.pow_zero, Nat.mul_one, Nat.mod_eq_of_lt h]
/-- THE RING: when remainders come again -/
theorem rem_eq {b n x p q h L i j : Nat} (gx : Nat.gcd x n = 1) (e : n = p * q) (gp : Nat.gcd b p = 1) (gq : Nat.gcd p q = 1) (hh : IsHead b q h) (hL : IsPer b p L) (hij : i < j) :
    rem b n x i = rem b n x j ↔ h ≤ i ∧ L ∣ j - i := by
  have hle : b ^ i ≤ b ^ j ∨ b = 0 := by
    rcases Nat.eq_zero_or_pos b with z | z
    · exact .inr z
    · exact .inl (Nat.pow_le_pow_right z (Nat.le_of_lt hij))
  have hs : b ^ j = b ^ i * b ^ (j - i) := by rw [← Nat.pow_add, show i + (j - i) = j by omega]
  unfold rem
  constructor
  · intro hr
    have h1 : b ^ i % n = b ^ j % n := mod_cancel gx hr
    have hp : b ^ i % p = b ^ j % p := by
      have := congrArg (· % p) h1
      rw [e, Nat.mod_mul_right_mod, Nat.mod_mul_right_mod] at this
      exact this
    have hq : b ^ i % q = b ^ j % q := by
      have := congrArg (· % q) h1
      rw [e, Nat.mod_mul_left_mod, Nat.mod_mul_left_mod] at this
      exact this
    have dL : L ∣ j - i := by
      rw [← hL.iff]
      refine mod_cancel (cop_pow gp i) ?_
      rw [← hs, Nat.mul_one]
      exact hp.symm
    refine ⟨?_, dL⟩
    rw [← hh.iff]
    -- q divides b ^ i * (b ^ (j - i) - 1), and b ^ (j - i) is a multiple that goes on: take many turns
    have key : ∀ k, b ^ i % q = b ^ (i + (j - i) * k) % q := by
      intro k
      induction k with
      | zero => simp
      | succ k ih =>
        rw [show i + (j - i) * (k + 1) = (j - i) + (i + (j - i) * k) by rw [Nat.mul_succ]; omega, Nat.pow_add, Nat.mul_mod, ← ih, ← Nat.mul_mod, ← Nat.pow_add, show (j - i) + i = j by omega]
        exact hq
    have hz : b ^ (i + (j - i) * h) % q = 0 := by
      apply Nat.mod_eq_zero_of_dvd
      rw [hh.iff]
      have : h ≤ (j - i) * h := Nat.le_mul_of_pos_left h (by omega)
      omega
    exact Nat.dvd_of_mod_eq_zero ((key h).trans hz)
  · rintro ⟨h1, h2⟩
    have hp : b ^ (j - i) % p = 1 % p := (hL.iff _).mpr h2
    have hqd : q ∣ b ^ i := (hh.iff i).mpr h1
    have hpd : b ^ i % p = b ^ j % p := by
      rw [hs, Nat.mul_mod, hp, ← Nat.mul_mod, Nat.mul_one]
    have both : b ^ i % n = b ^ j % n := by
      rcases hle with hle | hb
      · apply (mod_iff hle).mpr
        rw [e]
        refine Nat.Coprime.mul_dvd_of_dvd_of_dvd gq ?_ ?_
        · exact (mod_iff hle).mp hpd
        · rw [hs, ← Nat.mul_sub_one]
          exact Nat.dvd_trans hqd (Nat.dvd_mul_right _ _)
      · subst hb
        have hp1 : p = 1 := by rw [Nat.gcd_zero_left] at gp; exact gp
        subst hp1
        rw [Nat.one_mul] at e
        subst e
        rw [Nat.mod_eq_zero_of_dvd hqd, Nat.mod_eq_zero_of_dvd (by rw [hs]; exact Nat.dvd_trans hqd (Nat.dvd_mul_right _ _))]
    rw [Nat.mul_mod, both, ← Nat.mul_mod]
/-! all of a denominator in a base -/
structure Par (b n p q h L : Nat) : Prop where
  hp : IsPure b n p
  e : n = p * q
  hh : IsHead b q h
  hL : IsPer b p L
theorem pure_exists (b : Nat) : ∀ n, 1 ≤ n → ∃ p, IsPure b n p := by
  intro n
  induction n using Nat.strongRecOn with
  | _ n ih =>
    intro hn
    by_cases g : Nat.gcd b n = 1
    · exact ⟨n, IsPure.self g⟩
    · obtain ⟨c, hc⟩ := Nat.gcd_dvd_right b n
      have hg : 1 ≤ Nat.gcd b n := Nat.gcd_pos_of_pos_right b hn
      have hc1 : 1 ≤ c := by
        rcases Nat.eq_zero_or_pos c with z | z
        · rw [z] at hc
          omega
        · exact z
      have hcn : c < n := by
        have hg2 : 2 ≤ Nat.gcd b n := by omega
        have : 2 * c ≤ Nat.gcd b n * c := Nat.mul_le_mul_right c hg2
        omega
      obtain ⟨p, hp, q, k, e, d⟩ := ih c hcn hc1
      refine ⟨p, hp, Nat.gcd b n * q, k + 1, ?_, ?_⟩
      · conv => lhs; rw [hc, e]
        rw [Nat.mul_left_comm]
      · rw [Nat.pow_succ, Nat.mul_comm (b ^ k) b]
        exact Nat.mul_dvd_mul (Nat.gcd_dvd_left b n) d
theorem par_exists {b n : Nat} (hn : 1 ≤ n) : ∃ p q h L, Par b n p q h L := by
  obtain ⟨p, hp⟩ := pure_exists b n hn
  obtain ⟨g, q, k, e, d⟩ := id hp
  obtain ⟨h, _, hh⟩ := head_exists d
  have hp1 : 1 ≤ p := by
    rcases Nat.eq_zero_or_pos p with z | z
    · rw [z] at e
      omega
    · exact z
  obtain ⟨L, _, hL⟩ := per_exists hp1 g
  exact ⟨p, q, h, L, hp, e, hh, hL⟩
section
variable {b n p q h L : Nat}
theorem Par.p1 (P : Par b n p q h L) (hn : 1 ≤ n) : 1 ≤ p := by
  rcases Nat.eq_zero_or_pos p with z | z
  · have := P.e
    rw [z] at this
    omega
  · exact z
theorem Par.q1 (P : Par b n p q h L) (hn : 1 ≤ n) : 1 ≤ q := by
  rcases Nat.eq_zero_or_pos q with z | z
  · have := P.e
    rw [z] at this
    omega
  · exact z
theorem Par.pn (P : Par b n p q h L) (hn : 1 ≤ n) : p ≤ n := Nat.le_of_dvd hn ⟨q, P.e⟩
theorem Par.qn (P : Par b n p q h L) (hn : 1 ≤ n) : q ≤ n := Nat.le_of_dvd hn ⟨p, by rw [P.e, Nat.mul_comm]⟩
theorem Par.Ln (P : Par b n p q h L) (hn : 1 ≤ n) : L ≤ n := by
  obtain ⟨d, hd, hd'⟩ := per_exists (P.p1 hn) P.hp.1
  have := hd'.uniq P.hL
  have := P.pn hn
  omega
theorem Par.hn (P : Par b n p q h L) (hn : 1 ≤ n) : h ≤ n := Nat.le_trans (head_le (P.q1 hn) P.hh) (P.qn hn)
theorem Par.gq (P : Par b n p q h L) (hn : 1 ≤ n) : Nat.gcd p q = 1 := by
  obtain ⟨g, q', k, e, d⟩ := P.hp
  have : q' = q := by
    have := P.e
    rw [e] at this
    exact Nat.eq_of_mul_eq_mul_left (P.p1 hn) this
  subst this
  exact cop_of_dvd_pow g d
/-- the end of a row of remainders -/
theorem ring_end {x i j : Nat} (P : Par b n p q h L) (hn : 1 ≤ n) (gx : Nat.gcd x n = 1) (hd : ∀ u v, u < v → v < i → rem b n x u ≠ rem b n x v) (hj : j < i) (e : rem b n x j = rem b n x i) : i = h + L ∧ j = h := by
  have F := fun {u v : Nat} (l : u < v) => rem_eq (x := x) gx P.e P.hp.1 (P.gq hn) P.hh P.hL l
  obtain ⟨h1, h2⟩ := (F hj).mp e
  have hL1 := P.hL.1
  have hle := Nat.le_of_dvd (by omega) h2
  have hi : i ≤ h + L := by
    apply Nat.le_of_not_lt
    intro l
    exact hd h (h + L) (by omega) l ((F (by omega)).mpr ⟨Nat.le_refl _, by rw [show h + L - h = L by omega]; exact Nat.dvd_refl _⟩)
  omega
end
end Wn
namespace Wn
open PySem PySem.Spec PyProof.Rows L2
theorem CallR.imp {X : Cx} {f : Value} {r r' : List V → Hp → VK → Prop} (h : CallR X f r) (i : ∀ vs H Q, r' vs H Q → r vs H Q) : CallR X f r' :=
  fun pins s σ H vs us Q I rv x => h pins s σ H vs us Q I rv (i _ _ _ x)
/-! the built-in type of a value -/
def isB (T n : String) : Bool := T == n || (T == "bool" && n == "int")
def tyNames : List String := ["NoneType", "bool", "int", "str", "list", "tuple", "dict"]
def qyNames : List String := ["bool", "int", "str", "list", "tuple", "dict"]
theorem isB_ok : ∀ T ∈ tyNames, ∀ n ∈ qyNames, kitB T n = some (isB T n) := by decide +kernel
def rIs (K : PySem.W.Frag) : List V → Hp → VK → Prop := fun xs H Q => ∃ (x : V) (n : String), xs = [x, .ty n] ∧ ∃ T : String, (TyX K H x (.type T) ∧ T ∈ tyNames ∧ n ∈ qyNames) ∧ Q (.bl (isB T n)) H
theorem call_is {X : Cx} : CallR X (.builtin "isinstance") (rIs X.K) := CallR.imp call_isi fun vs H Q h => by
  obtain ⟨x, n, e, T, ⟨h1, h2, h3⟩, q⟩ := h
  exact ⟨x, .ty n, .type T, .type n, isB T n, e, .ty n, h1, kit_ty (isB_ok T h2 n h3), q⟩
theorem ty_int {K : PySem.W.Frag} {H : Hp} {i : Int} : TyX K H (.int i) (.type "int") := .base (.int i)
theorem ty_tup {K : PySem.W.Frag} {H : Hp} {a : Addr} {xs : List V} (h : H a = some (.tup xs)) : TyX K H (.ref a) (.type "tuple") := .base (.tup h)
theorem cxK {CX : CXT} {P : Program} {w : World} {K : PySem.W.Frag} {mg : Str → Option Value} {base : Heap} {N : List Str} {q : Str} {sc : Scope} {f : Addr} {cdv : Value} {A : Around} {outer : List Env} {s : Shared} {H : Hp} {E : XK} :
    (cxOf CX P w K mg base N q sc f cdv A outer s H E).nox.K = K := rfl
theorem cxK2 {CX : CXT} {P : Program} {w : World} {K : PySem.W.Frag} {mg : Str → Option Value} {base : Heap} {N : List Str} {q : Str} {sc : Scope} {f : Addr} {cdv : Value} {A : Around} {outer : List Env} {s : Shared} {H : Hp} {E : XK} :
    (cxOf CX P w K mg base N q sc f cdv A outer s H E).K = K := rfl
theorem start1 (x : Str) (N : List Str) (v : V) (vs : List V) : L2.start (x :: N) (v :: vs) = some v :: L2.start N vs := by
  unfold L2.start
  simp
theorem start2 (x : Str) (N : List Str) : L2.start (x :: N) [] = none :: L2.start N [] := by
  unfold L2.start
  simp [List.replicate_succ]
theorem start3 : L2.start [] [] = [] := rfl
theorem sq_tup {K : PySem.W.Frag} {H : Hp} {a : Addr} {xs : List V} (h : H a = some (.tup xs)) : SqT K H a xs := .inl (.inl h)
theorem sq_lst {K : PySem.W.Frag} {H : Hp} {a : Addr} {xs : List V} (h : H a = some (.lst xs)) : SqL K H a xs := .inl (.inl h)
theorem slA_of {K : PySem.W.Frag} {H : Hp} {a : Addr} {xs : List V} {lo hi : Option Int} {Q : VK} (h : H a = some (.tup xs)) (q : ∀ p H', Gr [] H H' → H' p = some (.tup (cutV xs lo hi)) → Q (.ref p) H') : rSlA K (.ref a) lo hi H Q := by
  refine ⟨a, xs, rfl, sq_tup h, ?_, ?_⟩
  · intro e
    refine q a H (Gr.refl _ _) ?_
    have z : cutV xs lo hi = xs := by
      unfold cutV
      rw [e.1, e.2, List.drop_zero, Nat.sub_zero, List.take_length]
    rw [z]
    exact h
  · intro _ p np
    exact q p _ (Gr.new np) upd_same
def rLn (K : PySem.W.Frag) : List V → Hp → VK → Prop := fun xs H Q => ∃ p ys, xs = [.ref p] ∧ (SqL K H p ys ∨ SqT K H p ys) ∧ Q (.int ys.length) H
theorem call_ln {X : Cx} : CallR X (.builtin "len") (rLn X.K) := call_len_seq
def rLsO (K : PySem.W.Frag) : List V → Hp → VK → Prop := fun xs H Q => ∃ p ys, xs = [.ref p] ∧ (SqL K H p ys ∨ SqT K H p ys) ∧ ∀ l, H l = none → Q (.ref l) (upd H l (.lst ys))
theorem call_lsO {X : Cx} : CallR X (.type "list") (rLsO X.K) := call_list_of
def rTpO (K : PySem.W.Frag) : List V → Hp → VK → Prop := fun xs H Q => ∃ p ys, xs = [.ref p] ∧ ((SqL K H p ys ∧ ∀ l, H l = none → Q (.ref l) (upd H l (.tup ys))) ∨ (SqT K H p ys ∧ Q (.ref p) H))
theorem call_tpO {X : Cx} : CallR X (.type "tuple") (rTpO X.K) := call_tuple_of
theorem cut_lo {xs : List V} {k : Nat} (h : k ≤ xs.length) : cutV xs none (some (k : Int)) = xs.take k := by
  unfold cutV
  rw [HT.sIx_nat, HT.sIx_none, List.drop_zero, Nat.sub_zero, Nat.min_eq_left h]
theorem cut_hi {xs : List V} {k : Nat} (h : k ≤ xs.length) : cutV xs (some (k : Int)) none = xs.drop k := by
  unfold cutV
  rw [HT.sIx_nat, HT.sIx_none, Nat.min_eq_left h]
  exact List.take_of_length_le (by rw [List.length_drop]; omega)
theorem icm (a b n : Nat) : (a : Int) * (b : Int) % (n : Int) = ((a * b % n : Nat) : Int) := by
  rw [← Int.natCast_mul, ← Int.natCast_emod]
theorem icd (a b n : Nat) : (a : Int) * (b : Int) / (n : Int) = ((a * b / n : Nat) : Int) := by
  rw [← Int.natCast_mul, ← Int.natCast_ediv]
local macro_rules | `(tactic| walk_at "vc") => `(tactic| simp only [cxK, cxK2, start1, start2, start3, tRet, tRetN, tSeq, tNext, tIfS, tAsg, gName, tDrop, tVar, tC, tOp, tUn, tTest, tB, tNot, tAnd, tOr, tAndV, tOrV, tNotV, tIf, tCons, tNil, tCB, tCall, tChain, tAug, ipI, rI, rI0, rU, rIs, rGcd, rEq, rNe, scal,
  List.getElem?_cons_zero, List.getElem?_cons_succ, List.set_cons_zero, List.set_cons_succ, Option.some.injEq, List.cons.injEq, V.int.injEq, V.bl.injEq, V.ref.injEq, V.str.injEq, and_true, true_and, exists_eq_left, exists_eq_left', exists_and_left, exists_and_right, List.append_nil, List.nil_append, List.cons_append, exists_eq_right, exists_eq_right', and_assoc, exists_const, V.ty.injEq, ↓reduceIte, Bool.false_eq_true, Bool.not_true, Bool.not_false, decide_eq_true_eq])
end Wn
/-! contracts where nothing is being shown (no repr runs around): for defs that ask repr of lists, tuples, dicts -/
namespace Wn
open PySem PySem.Spec PyProof.Rows L2
structure FnG (P : Program) (w : World) (K : PySem.W.Frag) (mg : Str → Option Value) (base : Heap) (CX : CXT) (k : Nat) (f : Addr) (fd : FuncData) (ps : List Str) (sp : Sp) : Prop where
  sz : ∀ vs H Q E, sp vs H Q E → vs.length = ps.length
  go : ∀ (A : Around), A.guards = some [] → Room k A → ∀ (outer : List Env) (s : Shared) (H : Hp) (args : Args) (us : List Value) (vs : List V) (Q : VK) (E : XK),
    Env0 P w K mg base A outer s H → BindsTo s fd args (ps.zip us) → Vals vs us → sp vs H Q E → codeAny (model P w) A (.call (.ref f) args) (CR CX outer P w H s Q E) s
section
variable {P : Program} {w : World} {K : PySem.W.Frag} {mg : Str → Option Value} {base : Heap} {CX : CXT} {k : Nat} {f : Addr} {fd : FuncData} {ps : List Str} {sp : Sp}
theorem FnG.of (F : FnOk P w K mg base CX k f fd ps sp) : FnG P w K mg base CX k f fd ps sp :=
  ⟨F.len, fun A _ hr outer s H args us vs Q E e b v h => F.run A outer s H args us vs Q E hr e b v h⟩
theorem FnG.up {j : Nat} (F : FnG P w K mg base CX j f fd ps sp) (h : j ≤ k) : FnG P w K mg base CX k f fd ps sp :=
  ⟨F.sz, fun A hg hr => F.go A hg (hr.mono h)⟩
/-- a def by its body -/
theorem fnG {x qual : Str} {st : Stmt} {N : List Str} (F : Fun K x qual st f fd) (S : FnScope N ps (defScope st)) (sz : ∀ vs H Q E, sp vs H Q E → vs.length = ps.length)
    (body : ∀ (cdv : Value) (A : Around) (outer : List Env) (s : Shared) (H : Hp) (vs : List V) (Q : VK) (E : XK), (A.deeper (envOfC qual (defScope st) s.heap.objs.size f cdv)).guards = some [] →
      Room k (A.deeper (envOfC qual (defScope st) s.heap.objs.size f cdv)) → sp vs H Q E →
      ∃ t, PSs (cxOf CX P w K mg base N qual (defScope st) f cdv A outer s H E) (defBody st) t ∧ t { nx := fun _ H' => Q .non H', rt := Q } (L2.start N vs) H) : FnG P w K mg base CX (k + 1) f fd ps sp := by
  obtain ⟨oc, od, kV, doc, pm, an, cdv, ct, osl, rfl, lk, hcd⟩ := F.ex
  refine ⟨sz, fun A hgd hr outer s H args us vs Q E e0 hb r h => ?_⟩
  have KI : K.In s.heap := e0.mod.kin.keeps fun b o e => (e0.bs b o e).1
  have NL : s.heap.NoLimit := e0.mod.nolimit.keeps fun b o e => (e0.bs b o e).1
  refine codeAny_call_function hr.depth (KI _ _ lk) rfl S.co S.gen rfl (PySem.W.codeRec_of KI hcd) (hb _ _ _ _ ?_)
  refine wpAny_newFunctionEnv_cells S.kind (fun y hy => ?_) fun env he s1 x => ?_
  · obtain ⟨n, v⟩ := y
    rcases S.par n (List.of_mem_zip hy).1 with q | q
    · exact .inl q
    · exact .inr ⟨q, PySem.W.cellsFrom_some _ _ _ (.inl q)⟩
  · subst he
    refine ⟨NL.keeps x.toInCall.keep, codeAny_func ?_⟩
    obtain ⟨t, ht, hq⟩ := body cdv A outer s H vs Q E hgd (hr.deeper _) h
    refine wpAny_mono (ht.run [] s1 _ H _ (inv_start S hr.hd e0 (sz _ _ _ _ h) r x) hq) (fun fl s' z => ?_) fun e s' z => z
    cases fl with
    | ret u =>
      obtain ⟨v, σ', H', J, rv, q⟩ := z
      exact ⟨v, H', J.os, J.bare, J.base, J.hok, rv, q⟩
    | next =>
      obtain ⟨σ', H', J, q⟩ := z
      exact ⟨.non, H', J.os, J.bare, J.base, J.hok, rfl, q⟩
    | brk =>
      obtain ⟨_, _, _, q⟩ := z
      exact q.elim
    | cont =>
      obtain ⟨_, _, _, q⟩ := z
      exact q.elim
/-- no exception leaves it -/
theorem fnG0 {x qual : Str} {st : Stmt} {N : List Str} (F : Fun K x qual st f fd) (S : FnScope N ps (defScope st)) (sz : ∀ vs H Q E, sp vs H Q E → vs.length = ps.length)
    (body : ∀ (cdv : Value) (A : Around) (outer : List Env) (s : Shared) (H : Hp) (vs : List V) (Q : VK) (E : XK), (A.deeper (envOfC qual (defScope st) s.heap.objs.size f cdv)).guards = some [] →
      Room k (A.deeper (envOfC qual (defScope st) s.heap.objs.size f cdv)) → sp vs H Q E →
      ∃ t, PSs (cxOf CX0 P w K mg base N qual (defScope st) f cdv A outer s H E).nox (defBody st) t ∧ t { nx := fun _ H' => Q .non H', rt := Q } (L2.start N vs) H) : FnG P w K mg base CX0 (k + 1) f fd ps sp :=
  fnG F S sz fun cdv A outer s H vs Q E g r h => let ⟨t, ht, q⟩ := body cdv A outer s H vs Q E g r h; ⟨t, ht.nox, q⟩
end
section
variable {X : Cx} {CX : CXT} {k : Nat} {f : Addr} {fd : FuncData} {ps : List Str} {sp : Sp} {dvs : List V} {ds : List Value} {E : XK} {x : Str} {p pos : Pos} {e : Expr} {es : List Expr} {t : TA}
theorem runG {pins : List (Addr × Obj)} {σ : L2.St} {H : Hp} {s : Shared} {Q : VK} {us : List Value} {vs : List V} (F : FnG X.prog X.w X.K X.mg X.base CX k f fd ps sp) (hgd : X.A.guards = some []) (hr : Room k X.A) (hb : Binds X.K fd ps ds) (hd : Vals dvs ds)
    (hx : Passes CX X E) (I : Inv X pins σ H s) (r : Vals vs us) (h : sp (vs ++ dvs) H Q E) : wpAny (model X.prog X.w) X.A (call (.ref f) us) (EP X pins σ Q) X.xe s := by
  have rr := r.append hd
  refine wpAny_call (codeAny_mono (F.go X.A hgd hr X.stack s H ⟨us, []⟩ (us ++ ds) (vs ++ dvs) Q E I.env0 (hb s us I.kIn (rr.length ▸ F.sz _ _ _ _ h)) rr h) fun z s' q => ?_)
  match z, q with
  | .error e, q => exact hx pins σ H s e s' I q
  | .ok (.ret u), q => exact I.after q
  | .ok .next, q => exact q.elim
  | .ok .brk, q => exact q.elim
  | .ok .cont, q => exact q.elim
theorem pe_callG (hgd : X.A.guards = some []) (F : FnG X.prog X.w X.K X.mg X.base CX k f fd ps sp) (hr : Room k X.A) (hg : Gl X x) (hm : X.mg x = some (.ref f)) (hk : PySem.W.keepIn X.K (.ref f) = true) (hb : Binds X.K fd ps ds) (hd : Vals dvs ds) (hx : Passes CX X E)
    (ha : PA X (e :: es) t) (hdb : (x == ("__debug__" : Str)) = false := by decide) (he : starEach (e :: es) X.env = (false, eval e X.env) :: starEach es X.env := by rfl) (hpl : (backTo pos (starEach es X.env)).any (·.1) = false := by rfl) :
    PE X (.Call (.Name x p) (e :: es) [] pos) (tCall sp dvs E t) :=
  ⟨fun pins s σ H Q I h => wpAny_Call_Name_kw (ld_glob I hg hm (PySem.W.callWith_K (h₀ := X.base) I.ok.mod.kin hk (thn (ha.run pos pins s σ H _ I h) fun us s1 ⟨vs, H1, I1, r, q⟩ => ⟨I1.kIn, runG F hgd hr hb hd hx I1 r q⟩) he hpl) hdb)⟩
theorem pe_callG0 (hgd : X.A.guards = some []) (F : FnG X.prog X.w X.K X.mg X.base CX k f fd ps sp) (hr : Room k X.A) (hg : Gl X x) (hm : X.mg x = some (.ref f)) (hk : PySem.W.keepIn X.K (.ref f) = true) (hb : Binds X.K fd ps ds) (hd : Vals dvs ds) (hx : Passes CX X E)
    (hdb : (x == ("__debug__" : Str)) = false := by decide) : PE X (.Call (.Name x p) [] [] pos) (tCall sp dvs E tNil) :=
  ⟨fun pins s σ H Q I h => wpAny_Call_Name_kw (ld_glob I hg hm (PySem.W.callWith_K0 I.kIn hk (runG (us := []) F hgd hr hb hd hx I .nil h)) hdb)⟩
end
/-! the law's own head -/
theorem law_callG {P : Program} {w : World} {K : PySem.W.Frag} {mg mb : Str → Option Value} {CX : CXT} {k : Nat} {fa a : Addr} {fd : FuncData} {x : Str} {sp : Sp} {s1 : Shared} {vs : List Value} {ns : List Int}
    (KX : K.In s1.heap) (hns : s1.heap.Ns mainGlobals mg) (hb : s1.heap.Ns builtinsNs mb) (hbb : ∀ x : Str, x ≠ "__name__" → mb x = bootBuiltins x) (hlim : s1.heap.NoLimit) (hg : s1.gens = #[])
    (ha : s1.heap.get? a = some { cls := .type "list", data := .seq vs.toArray }) (hi : IntsAre vs ns) (hl : ns.length ≤ sizeLine) (hr : Room k callerA)
    (F : ∀ base : Heap, K.In base → base.Ns mainGlobals mg → FnG P w K mg base CX k fa fd [x] sp) (hbind : ∀ (s : Shared) (u : Value), BindsTo s fd ⟨[u], []⟩ [(x, u)])
    (hsp : ∀ H : Hp, Only H → SqL K H a (ns.map V.int) → sp [.ref a] H (fun v _ => v = .bl true) fun _ _ _ => False)
    (hCX : ∀ H e s', CX [] H s1 (fun _ _ _ => False) e s' → False) :
    codeAny (model P w) callerA (.call (.ref fa) ⟨[.ref a], []⟩) (fun r s' => r = .ok (.ret (.bool true)) ∧ OldK s1.heap s'.heap ∧ s'.os = s1.os ∧ AllBare s'.gens) s1 := by
  -- the script is tracked, unless it is one of the text's own objects
  obtain ⟨H, hH⟩ : ∃ H : Hp, H = fun b => if b = a ∧ K.lookup a = none then some (.frz { cls := .type "list", data := .seq vs.toArray } (.lst (ns.map V.int))) else none := ⟨_, rfl⟩
  have at_ : ∀ b u, H b = some u → b = a ∧ K.lookup a = none ∧ u = .frz { cls := .type "list", data := .seq vs.toArray } (.lst (ns.map V.int)) := fun b u z => by
    rw [hH] at z
    dsimp only at z
    split at z
    · rename_i c
      exact ⟨c.1, c.2, (Option.some.inj z).symm⟩
    · cases z
  have off : ∀ b o, s1.heap.get? b = some o → (∀ q, K.lookup b = some q → True) → (∀ n, o.data ≠ .seq vs.toArray n) → H b = none := fun b o e _ d => by
    cases z : H b with
    | none => rfl
    | some u =>
      obtain ⟨rfl, _, _⟩ := at_ b u z
      rw [ha] at e
      cases e
      exact absurd rfl (d _)
  have kb : ∀ b o, K.lookup b = some o → H b = none := fun b o e => by
    cases z : H b with
    | none => rfl
    | some u =>
      obtain ⟨rfl, z2, _⟩ := at_ b u z
      rw [z2] at e
      cases e
  have ok : HOk P w H s1.heap := fun b u z => by
    obtain ⟨rfl, _, rfl⟩ := at_ b u z
    exact ⟨ha, by rw [List.length_map]; exact hl, vs, _, vals_ints hi, ha⟩
  have sq : SqL K H a (ns.map V.int) := by
    cases z : K.lookup a with
    | none =>
      refine .inl (.inr ⟨{ cls := .type "list", data := .seq vs.toArray }, ?_⟩)
      rw [hH]
      exact if_pos ⟨rfl, z⟩
    | some o =>
      have e := KX a o z
      rw [ha] at e
      cases e
      exact .inr ⟨_, vs.toArray, _, z, rfl, rfl, rfl, by rw [List.size_toArray, hi.length]; exact hl, by simpa using vals_ints hi⟩
  have only : Only H := fun b => by
    cases z : H b with
    | none => exact .inl rfl
    | some u =>
      obtain ⟨_, _, rfl⟩ := at_ b u z
      exact .inr ⟨_, _, rfl⟩
  have nsB : ∀ {b : Addr} {m : Str → Option Value}, s1.heap.Ns b m → (hidT s1.heap H).Ns b m := fun {b m} ⟨o, es, ep, e, d, r⟩ => ⟨o, es, ep, hidT_get e (off b o e (fun _ _ => trivial) fun n z => by rw [d] at z; cases z), d, r⟩
  have KB : K.In (hidT s1.heap H) := fun b o e => hidT_get (KX b o e) (kb b o e)
  have M : Mod K mg (hidT s1.heap H) := ⟨KB, nsB hns, ⟨mb, nsB hb, hbb⟩, let ⟨mc, h1, h2⟩ := hlim; ⟨mc, nsB h1, h2⟩⟩
  have E0' : Env0 P w K mg (hidT s1.heap H) callerA [] s1 H := ⟨rfl, M, fun b o e => of_hidT e, Nat.le_of_eq (hidT_size _ _), trivial, fun b z => absurd (show b ∈ ([] : List Addr) from z) (by simp), ok, .of_eq hg⟩
  refine codeAny_mono ((F _ KB (nsB hns)).go callerA rfl hr [] s1 H ⟨[.ref a], []⟩ [.ref a] [.ref a] _ _ E0' (hbind s1 (.ref a)) (.cons rfl .nil) (hsp H only sq)) fun r s' z => ?_
  match r, z with
  | .error e, z => exact (hCX H e s' z).elim
  | .ok .next, z => exact z.elim
  | .ok .brk, z => exact z.elim
  | .ok .cont, z => exact z.elim
  | .ok (.ret u), z =>
    obtain ⟨v, H', os, bare, un, ok', rv, q⟩ := z
    obtain rfl : v = .bl true := q
    obtain rfl : u = Value.bool true := rv
    refine ⟨rfl, OldK.of_keep fun b o e => ?_, os, bare⟩
    cases y : H b with
    | none => exact un.keep b o e y (fun c => absurd (show b ∈ ([] : List Addr) from c) (by simp)) (by simp)
    | some u =>
      obtain ⟨rfl, _, rfl⟩ := at_ b u y
      rw [ha] at e
      cases e
      exact (ok' _ _ (un.frzs _ _ _ y)).1
theorem walkG {l : PySem.W.OpenLaw} {n k : Nat} {q : Program} {loose : List Str} {XP : (Str → Option Value) → Heap → Prop} {YP : World → Heap → Prop} {d : DefRec} {K : Params → PySem.W.Frag} {sp : World → Sp} {x : Str}
    (hn : l.most = some n) (hn2 : n ≤ sizeLine) (hdf : d.params.defaults = []) (hr : Room k callerA) (hY : ∀ (w : World) (h : Heap), YP w h → (K w.params).In h)
    (F : ∀ (w : World) (mg : Str → Option Value) (fa : Addr) (h : Heap), (K w.params).In h → h.Ns mainGlobals mg → mg d.name = some (.ref fa) →
      ∃ fd : FuncData, (∀ (s : Shared) (u : Value), BindsTo s fd ⟨[u], []⟩ [(x, u)]) ∧ ∀ base : Heap, (K w.params).In base → base.Ns mainGlobals mg → FnG l.prog w (K w.params) mg base CX0 k fa fd [x] (sp w))
    (hsp : ∀ (w : World) (H : Hp) (a : Addr) (ns : List Int), ns.length ≤ n → Only H → SqL (K w.params) H a (ns.map V.int) → sp w [.ref a] H (fun v _ => v = .bl true) fun _ _ _ => False) :
    PySem.W.WalkO q loose XP YP l.row.toRowW d [] (fun f vs => PySem.call f vs) :=
  Att.attach_call hn hdf fun w s0 s1 mg mb fa o pm cd doc a vs ns G Y ho hd hcd hmg hobj hints hlen hg => by
    obtain ⟨fd, hb, hF⟩ := F w mg fa _ (hY w _ Y) G.T.g hmg
    exact law_callG (hY w _ Y) G.T.g G.T.b G.T.builtins G.T.nolimit hg hobj hints (Nat.le_trans hlen hn2) hr hF hb (fun H hO hS => hsp w H a ns hlen hO hS) fun H e s' z => z
end Wn
/-! repr of data -/
namespace Wn
open PySem PySem.Spec PyProof.Rows L2
/-- data that repr takes: leaves of at most B signs, weight at most W, depth at most D -/
structure Sm (d : PyData) (B D W : Nat) : Prop where
  show_ : d.showable = true
  leaf : d.leavesShort B = true
  nod : d.hasDict = false
  lay : d.canLay0 = true
  dep : d.depth ≤ D
  wei : d.bulk ≤ W
theorem Sm.all : ∀ {xs : List PyData} {B D W : Nat}, (∀ x ∈ xs, Sm x B D W) → PyData.showableAll xs = true ∧ PyData.leavesShortAll B xs = true ∧ PyData.hasDictAll xs = false ∧ PyData.canLayAll0 xs = true ∧ PyData.depthAll xs ≤ D ∧ PyData.bulkAll xs ≤ xs.length * (W + 1)
  | [], _, _, _, _ => ⟨rfl, rfl, rfl, rfl, Nat.zero_le _, Nat.zero_le _⟩
  | x :: xs, B, D, W, h => by
    obtain ⟨h1, h2, h3, h6, h4, h5⟩ := Sm.all (xs := xs) fun y hy => h y (List.mem_cons_of_mem _ hy)
    have hx := h x (List.mem_cons_self ..)
    refine ⟨?_, ?_, ?_, ?_, ?_, ?_⟩
    · show (x.showable && PyData.showableAll xs) = true
      rw [hx.show_, h1]
      rfl
    · show (x.leavesShort B && PyData.leavesShortAll B xs) = true
      rw [hx.leaf, h2]
      rfl
    · show (x.hasDict || PyData.hasDictAll xs) = false
      rw [hx.nod, h3]
      rfl
    · show (x.canLay0 && PyData.canLayAll0 xs) = true
      rw [hx.lay, h6]
      rfl
    · show max x.depth (PyData.depthAll xs) ≤ D
      exact Nat.max_le.mpr ⟨hx.dep, h4⟩
    · show x.bulk + 1 + PyData.bulkAll xs ≤ (xs.length + 1) * (W + 1)
      rw [Nat.succ_mul]
      have := hx.wei
      omega
theorem Sm.lst {xs : List PyData} {B D W : Nat} (n : Nat) (h : ∀ x ∈ xs, Sm x B D W) (hn : xs.length ≤ n) : Sm (.list xs) B (D + 1) (n * (W + 1)) := by
  obtain ⟨h1, h2, h3, h6, h4, h5⟩ := Sm.all h
  exact ⟨h1, h2, h3, h6, Nat.succ_le_succ h4, Nat.le_trans h5 (Nat.mul_le_mul_right _ hn)⟩
theorem Sm.tup {xs : List PyData} {B D W : Nat} (n : Nat) (h : ∀ x ∈ xs, Sm x B D W) (hn : xs.length ≤ n) : Sm (.tuple xs) B (D + 1) (n * (W + 1)) := by
  obtain ⟨h1, h2, h3, h6, h4, h5⟩ := Sm.all h
  exact ⟨h1, h2, h3, h6, Nat.succ_le_succ h4, Nat.le_trans h5 (Nat.mul_le_mul_right _ hn)⟩
theorem Sm.mono {d : PyData} {B D W D' W' : Nat} (h : Sm d B D W) (h1 : D ≤ D') (h2 : W ≤ W') : Sm d B D' W' := ⟨h.show_, h.leaf, h.nod, h.lay, Nat.le_trans h.dep h1, Nat.le_trans h.wei h2⟩
theorem log2_lt {a k : Nat} (hk : 1 ≤ k) (h : a < 2 ^ k) : a.log2 < k := by
  rcases Nat.eq_zero_or_pos a with z | z
  · rw [z, Nat.log2_zero]
    exact hk
  · exact (Nat.log2_lt (by omega)).mpr h
/-- a whole number below 10 ^ 12 and below 2 ^ k -/
theorem Sm.int {i : Int} {k : Nat} (hk : 1 ≤ k) (h : i.natAbs < 2 ^ k) (hk2 : k ≤ 39) : Sm (.int i) 13 0 k := by
  have hl := log2_lt hk h
  have h12 : i.natAbs < 10 ^ 12 := Nat.lt_of_lt_of_le h (Nat.le_trans (Nat.pow_le_pow_right (by decide) hk2) (by decide))
  refine ⟨?_, ?_, rfl, rfl, Nat.le_refl _, ?_⟩
  · show decide (i.natAbs.log2 < 1920) = true
    exact decide_eq_true (by omega)
  · show decide ((PyData.shown (.int i)).length ≤ 13) = true
    exact decide_eq_true (PyData.shown_int_le h12)
  · show 0 ≤ k
    omega
def Fits (d : PyData) : Prop := ∃ B D W, Sm d B D W ∧ 8 ≤ B ∧ D ≤ 100 ∧ (B + 2) * W + B ≤ 16777216
theorem Fits.len {d : PyData} (h : Fits d) : d.shown.length ≤ sizeLine := by
  obtain ⟨B, D, W, s, h1, h2, h3⟩ := h
  have := PyData.shown_le_bulk B h1 d s.leaf
  rw [sizeLine_eq]
  have : (B + 2) * d.bulk ≤ (B + 2) * W := Nat.mul_le_mul_left _ s.wei
  omega
theorem Fits.shaped {d : PyData} (h : d.canLay0 = true) (h2 : d.depth ≤ 64) : SeqAt.shaped d = true := by
  unfold SeqAt.shaped
  rw [h, decide_eq_true h2]
  rfl
theorem Sm.fits {d : PyData} {D W : Nat} (h : Sm d 13 D W) (h1 : D ≤ 64 := by decide) (h2 : W ≤ 1100000 := by decide) : Fits d := ⟨13, D, W, h, by decide, by omega, by omega⟩
theorem Sm.fitsB {d : PyData} {B D W : Nat} (h : Sm d B D W) (h0 : 8 ≤ B := by decide) (h1 : D ≤ 64 := by decide) (h2 : (B + 2) * W + B ≤ 16777216 := by decide) : Fits d := ⟨B, D, W, h, h0, by omega, h2⟩
theorem Sm.shaped {d : PyData} {B D W : Nat} (h : Sm d B D W) (h1 : D ≤ 64 := by decide) : SeqAt.shaped d = true := Fits.shaped h.lay (Nat.le_trans h.dep h1)
/-! data stands while lists and tuples stand -/
def Kp (H H' : Hp) : Prop := (∀ a xs, H a = some (.lst xs) → H' a = some (.lst xs)) ∧ (∀ a xs, H a = some (.tup xs) → H' a = some (.tup xs)) ∧ ∀ a o u, H a = some (.frz o u) → H' a = some (.frz o u)
theorem Kp.of {H H' : Hp} (g : Gr [] H H') : Kp H H' := ⟨fun a _ e => g a _ (by simp) e, fun a _ e => g a _ (by simp) e, fun a _ _ e => g a _ (by simp) e⟩
theorem Kp.ofM {H H' : Hp} {d : Addr} (g : Gr [d] H H') (h : ∃ kvs, H d = some (.dK kvs)) : Kp H H' := by
  obtain ⟨kvs, h⟩ := h
  have ne : ∀ {a o}, H a = some o → (∀ k, o ≠ .dK k) → a ∉ [d] := fun {a o} e k z => by
    rw [List.mem_singleton] at z
    subst z
    rw [h] at e
    exact k _ (Option.some.inj e).symm
  exact ⟨fun a _ e => g a _ (ne e fun _ z => by cases z) e, fun a _ e => g a _ (ne e fun _ z => by cases z) e, fun a _ _ e => g a _ (ne e fun _ z => by cases z) e⟩
theorem Kp.trans {H H1 H2 : Hp} (a : Kp H H1) (b : Kp H1 H2) : Kp H H2 := ⟨fun x _ e => b.1 x _ (a.1 x _ e), fun x _ e => b.2.1 x _ (a.2.1 x _ e), fun x _ _ e => b.2.2 x _ _ (a.2.2 x _ _ e)⟩
theorem Kp.sqL {K : PySem.W.Frag} {H H' : Hp} {a : Addr} {xs : List V} (k : Kp H H') (h : SqL K H a xs) : SqL K H' a xs := by
  rcases h with (h | ⟨o, h⟩) | h
  · exact .inl (.inl (k.1 _ _ h))
  · exact .inl (.inr ⟨o, k.2.2 _ _ _ h⟩)
  · exact .inr h
theorem Kp.sqT {K : PySem.W.Frag} {H H' : Hp} {a : Addr} {xs : List V} (k : Kp H H') (h : SqT K H a xs) : SqT K H' a xs := by
  rcases h with (h | ⟨o, h⟩) | h
  · exact .inl (.inl (k.2.1 _ _ h))
  · exact .inl (.inr ⟨o, k.2.2 _ _ _ h⟩)
  · exact .inr h
mutual
theorem Dp.kp {K : PySem.W.Frag} {H H' : Hp} (k : Kp H H') : ∀ {v : V} {d : PyData}, Dp K H v d → Dp K H' v d
  | _, _, .non => .non
  | _, _, .bl b => .bl b
  | _, _, .int i => .int i
  | _, _, .str x => .str x
  | _, _, .lst h1 h2 => .lst (k.sqL h1) (DpAll.kp k h2)
  | _, _, .tup h1 h2 => .tup (k.sqT h1) (DpAll.kp k h2)
theorem DpAll.kp {K : PySem.W.Frag} {H H' : Hp} (k : Kp H H') : ∀ {vs : List V} {ds : List PyData}, DpAll K H vs ds → DpAll K H' vs ds
  | _, _, .nil => .nil
  | _, _, .cons h1 h2 => .cons (Dp.kp k h1) (DpAll.kp k h2)
end
theorem dpAll_ints {K : PySem.W.Frag} {H : Hp} : ∀ ns : List Int, DpAll K H (ns.map V.int) (ns.map PyData.int)
  | [] => .nil
  | n :: r => .cons (.int n) (dpAll_ints r)
theorem dp_lst {K : PySem.W.Frag} {H : Hp} {a : Addr} {xs : List V} {ds : List PyData} (h : H a = some (.lst xs)) (h2 : DpAll K H xs ds) : Dp K H (.ref a) (.list ds) := .lst (sq_lst h) h2
theorem dp_tup {K : PySem.W.Frag} {H : Hp} {a : Addr} {xs : List V} {ds : List PyData} (h : H a = some (.tup xs)) (h2 : DpAll K H xs ds) : Dp K H (.ref a) (.tuple ds) := .tup (sq_tup h) h2
def rRepr (K : PySem.W.Frag) : List V → Hp → VK → Prop := fun xs H Q => ∃ (x : V) (d : PyData), xs = [x] ∧ Dp K H x d ∧ Fits d ∧ Q (.str d.shown) H
theorem call_repr {X : Cx} (hg : X.A.guards = some []) (hu : X.A.units + 200 < cLine) : CallR X (.builtin "repr") (rRepr X.K) := by
  intro pins s σ H xs us Q I r h
  obtain ⟨x, d, rfl, hd, hf, q⟩ := h
  obtain ⟨u, rfl, rx⟩ := vals1 r
  have fin : ∀ tk' tk, EP X pins σ Q (.str d.shown tk) { s with toks := tk' } := fun tk' tk => ⟨.str _, H, I.tok _, ⟨_, rfl⟩, q⟩
  have hl := hf.len
  cases hd with
  | non =>
    obtain rfl : u = Value.none := rx
    exact PySem.P.repr_of_none (fin _ _)
  | bl b =>
    obtain rfl : u = Value.bool b := rx
    exact PySem.P.repr_of_bool (fin _ _)
  | int i =>
    obtain ⟨t, rfl⟩ := rx
    obtain ⟨B, D, W, sm, _⟩ := hf
    exact PySem.P.repr_of_int (of_decide_eq_true sm.show_) (fin _ _)
  | str y =>
    obtain ⟨t, rfl⟩ := rx
    exact PySem.P.repr_of_str (fin _ _) hl
  | lst h1 h2 =>
    rename_i a xs ds
    obtain rfl : u = Value.ref a := rx
    obtain ⟨as, rd⟩ := Dp.reads I (.list ds) (.ref a) (.ref a) (.lst h1 h2) rfl
    obtain ⟨B, D, W, sm, _, hD, _⟩ := hf
    have := sm.dep
    refine repr_of_reads' rd sm.show_ (fun z => absurd (sm.nod.symm.trans z) (by decide)) hg (by omega) (fun _ _ e => e) (fun h' u tk k => ⟨.str _, H, I.un (Un.kept k) (I.hok.kept k), ⟨_, rfl⟩, q⟩) hl
  | tup h1 h2 =>
    rename_i a xs ds
    obtain rfl : u = Value.ref a := rx
    obtain ⟨as, rd⟩ := Dp.reads I (.tuple ds) (.ref a) (.ref a) (.tup h1 h2) rfl
    obtain ⟨B, D, W, sm, _, hD, _⟩ := hf
    have := sm.dep
    refine repr_of_reads' rd sm.show_ (fun z => absurd (sm.nod.symm.trans z) (by decide)) hg (by omega) (fun _ _ e => e) (fun h' u tk k => ⟨.str _, H, I.un (Un.kept k) (I.hok.kept k), ⟨_, rfl⟩, q⟩) hl
theorem gu_of {A : Around} {k : Nat} (hr : Room k A) : A.units + 200 < cLine := by
  have := hr.un
  omega
end Wn
/-! expressions that give data and leave all as it was -/
namespace Wn
open PySem PySem.Spec PyProof.Rows L2
section
variable {K : PySem.W.Frag} {σ : L2.St} {H : Hp}
def EvD (K : PySem.W.Frag) (te : TE) (σ : L2.St) (H : Hp) (d : PyData) : Prop := ∀ H1, Gr [] H H1 → ∀ Q : VK, (∀ v H2, Gr [] H1 H2 → Dp K H2 v d → Q v H2) → te σ H1 Q
def EvS (K : PySem.W.Frag) (ta : TA) (σ : L2.St) (H : Hp) (ds : List PyData) : Prop := ∀ H1, Gr [] H H1 → ∀ Q : List V → Hp → Prop, (∀ vs H2, Gr [] H1 H2 → DpAll K H2 vs ds → Q vs H2) → ta σ H1 Q
/-- a list that stands as such -/
def EvL (K : PySem.W.Frag) (te : TE) (σ : L2.St) (H : Hp) (ds : List PyData) : Prop := ∀ H1, Gr [] H H1 → ∀ Q : VK, (∀ p xs H2, Gr [] H1 H2 → H2 p = some (.lst xs) → DpAll K H2 xs ds → Q (.ref p) H2) → te σ H1 Q
theorem EvD.on {te : TE} {d : PyData} {H' : Hp} (h : EvD K te σ H d) (g : Gr [] H H') : EvD K te σ H' d := fun H1 g1 Q q => h H1 (g.trans g1) Q q
theorem EvL.d {te : TE} {ds : List PyData} (h : EvL K te σ H ds) : EvD K te σ H (.list ds) := fun H1 g Q q => h H1 g Q fun p xs H2 g2 e a => q _ H2 g2 (dp_lst e a)
theorem ev_var {i : Nat} {v : V} {d : PyData} (e : σ[i]? = some (some v)) (h : Dp K H v d) : EvD K (tVar i) σ H d := fun H1 g Q q => ⟨v, e, q v H1 (Gr.refl _ _) (Dp.kp (Kp.of g) h)⟩
theorem ev_varL {i : Nat} {p : Addr} {xs : List V} {ds : List PyData} (e : σ[i]? = some (some (.ref p))) (h : H p = some (.lst xs)) (a : DpAll K H xs ds) : EvL K (tVar i) σ H ds :=
  fun H1 g Q q => ⟨_, e, q p xs H1 (Gr.refl _ _) (g _ _ (by simp) h) (DpAll.kp (Kp.of g) a)⟩
theorem ev_int {i : Int} : EvD K (tC (.int i)) σ H (.int i) := fun H1 _ Q q => q _ H1 (Gr.refl _ _) (.int i)
theorem ev_bl {i : Bool} : EvD K (tC (.bl i)) σ H (.bool i) := fun H1 _ Q q => q _ H1 (Gr.refl _ _) (.bl i)
theorem ev_str {i : Str} : EvD K (tC (.str i)) σ H (.str i) := fun H1 _ Q q => q _ H1 (Gr.refl _ _) (.str i)
theorem ev_non : EvD K (tC .non) σ H .none := fun H1 _ Q q => q _ H1 (Gr.refl _ _) .non
theorem es_nil : EvS K tNil σ H [] := fun H1 _ Q q => q _ H1 (Gr.refl _ _) .nil
theorem es_cons {te : TE} {ta : TA} {d : PyData} {ds : List PyData} (h : EvD K te σ H d) (r : EvS K ta σ H ds) : EvS K (tCons te ta) σ H (d :: ds) := fun H1 g Q q =>
  h H1 g _ fun v H2 g2 dv => r H2 (g.trans g2) _ fun vs H3 g3 dvs => q _ H3 (g2.trans g3) (.cons (Dp.kp (Kp.of g3) dv) dvs)
theorem dpAll_len {H : Hp} : ∀ {vs : List V} {ds : List PyData}, DpAll K H vs ds → vs.length = ds.length
  | _, _, .nil => rfl
  | _, _, .cons _ t => congrArg (· + 1) (dpAll_len t)
theorem ev_tup {ta : TA} {ds : List PyData} (h : EvS K ta σ H ds) (hz : ds.length ≤ 1000 := by exact Nat.le_of_ble_eq_true rfl) : EvD K (tTup ta) σ H (.tuple ds) := fun H1 g Q q =>
  h H1 g _ fun vs H2 g2 a => ⟨by rw [dpAll_len a]; exact Nat.le_of_lt (small1000 hz), fun p np => q _ _ (g2.trans (Gr.new np)) (dp_tup upd_same (DpAll.kp (Kp.of (Gr.new np)) a))⟩
theorem el_lst {ta : TA} {ds : List PyData} (h : EvS K ta σ H ds) (hz : ds.length ≤ 1000 := by exact Nat.le_of_ble_eq_true rfl) : EvL K (tLst ta) σ H ds := fun H1 g Q q =>
  h H1 g _ fun vs H2 g2 a => ⟨by rw [dpAll_len a]; exact Nat.le_of_lt (small1000 hz), fun p np => q _ _ _ (g2.trans (Gr.new np)) upd_same (DpAll.kp (Kp.of (Gr.new np)) a)⟩
theorem ev_lst {ta : TA} {ds : List PyData} (h : EvS K ta σ H ds) (hz : ds.length ≤ 1000 := by exact Nat.le_of_ble_eq_true rfl) : EvD K (tLst ta) σ H (.list ds) := (el_lst h hz).d
theorem dpAll_append {H : Hp} : ∀ {vs ws : List V} {ds es : List PyData}, DpAll K H vs ds → DpAll K H ws es → DpAll K H (vs ++ ws) (ds ++ es)
  | _, _, _, _, .nil, b => b
  | _, _, _, _, .cons h t, b => .cons h (dpAll_append t b)
theorem el_cat {ta tb : TE} {ds es : List PyData} (h1 : EvL K ta σ H ds) (h2 : EvL K tb σ H es) (hz : ds.length + es.length ≤ 1000 := by exact Nat.le_of_ble_eq_true rfl) : EvL K (tOp rCat ta tb) σ H (ds ++ es) := fun H1 g Q q =>
  h1 H1 g _ fun p xs H2 g2 e2 a2 => h2 H2 (g.trans g2) _ fun p3 ys H3 g3 e3 a3 => by
    have e2' := g3 _ _ (by simp) e2
    refine ⟨p, p3, xs, ys, rfl, rfl, e2', e3, by rw [dpAll_len a2, dpAll_len a3]; exact Nat.le_of_lt (small1000 hz), fun p4 np => ?_⟩
    exact q p4 _ _ ((g2.trans g3).trans (Gr.new np)) upd_same (dpAll_append (DpAll.kp (Kp.of (g3.trans (Gr.new np))) a2) (DpAll.kp (Kp.of (Gr.new np)) a3))
/-! two data compared -/
theorem ev_eq {ta tb : TE} {d e : PyData} (h1 : EvD K ta σ H d) (h2 : EvD K tb σ H e) (s1 : SeqAt.shaped d = true) (s2 : SeqAt.shaped e = true) : EvD K (tOp (rEqD K) ta tb) σ H (.bool (PyData.eqv d e)) := fun H1 g Q q =>
  h1 H1 g _ fun v H2 g2 a => h2 H2 (g.trans g2) _ fun w H3 g3 b => ⟨d, e, Dp.kp (Kp.of g3) a, b, s1, s2, q _ H3 (g2.trans g3) (.bl _)⟩
theorem ev_ne {ta tb : TE} {d e : PyData} (h1 : EvD K ta σ H d) (h2 : EvD K tb σ H e) (s1 : SeqAt.shaped d = true) (s2 : SeqAt.shaped e = true) : EvD K (tOp (rNeD K) ta tb) σ H (.bool (!PyData.eqv d e)) := fun H1 g Q q =>
  h1 H1 g _ fun v H2 g2 a => h2 H2 (g.trans g2) _ fun w H3 g3 b => ⟨d, e, Dp.kp (Kp.of g3) a, b, s1, s2, q _ H3 (g2.trans g3) (.bl _)⟩
theorem iteFb {b : Bool} {A B : Prop} (h : b = false) (x : B) : if b = true then A else B := by
  rw [h]
  exact iteF x
theorem iteTb {b : Bool} {A B : Prop} (h : b = true) (x : A) : if b = true then A else B := by
  rw [h]
  exact iteT x
/-! statements over them -/
theorem st_asgD {te : TE} {i : Nat} {d : PyData} {D : Ends} (h : EvD K te σ H d) (k : ∀ v H2, Gr [] H H2 → Dp K H2 v d → D.nx (σ.set i (some v)) H2) : tAsg te (gName i) D σ H := h H (Gr.refl _ _) _ k
theorem st_asgL {te : TE} {i : Nat} {ds : List PyData} {D : Ends} (h : EvL K te σ H ds) (k : ∀ p xs H2, Gr [] H H2 → H2 p = some (.lst xs) → DpAll K H2 xs ds → D.nx (σ.set i (some (.ref p))) H2) : tAsg te (gName i) D σ H := h H (Gr.refl _ _) _ k
theorem dp_bool {H : Hp} {v : V} {b : Bool} (h : Dp K H v (.bool b)) : v = .bl b := by cases h; rfl
theorem dp_int {H : Hp} {v : V} {b : Int} (h : Dp K H v (.int b)) : v = .int b := by cases h; rfl
theorem st_retB {te : TE} {b : Bool} {D : Ends} (h : EvD K te σ H (.bool b)) (k : ∀ H2, Gr [] H H2 → D.rt (.bl b) H2) : tRet te D σ H := h H (Gr.refl _ _) _ fun v H2 g e => by rw [dp_bool e]; exact k H2 g
/-- a test that is data -/
theorem tt_of {te : TE} {b : Bool} {H1 : Hp} {Q : Bool → Hp → Prop} (h : EvD K te σ H (.bool b)) (g : Gr [] H H1) (q : ∀ H2, Gr [] H1 H2 → Q b H2) : tTest te σ H1 Q := h H1 g _ fun v H2 g2 e => ⟨b, dp_bool e, q H2 g2⟩
theorem tb_of {te : TE} {b : Bool} {H1 : Hp} {Q : Bool → Hp → Prop} (h : EvD K te σ H (.bool b)) (g : Gr [] H H1) (q : ∀ H2, Gr [] H1 H2 → Q b H2) : tB te σ H1 Q := h H1 g _ fun v H2 g2 e => ⟨b, dp_bool e, q H2 g2⟩
theorem ev_andV {ta tb : TE} {a b : Bool} (h1 : EvD K ta σ H (.bool a)) (h2 : EvD K tb σ H (.bool b)) : EvD K (tAndV ta tb) σ H (.bool (a && b)) := fun H1 g Q q =>
  h1 H1 g _ fun v H2 g2 e => ⟨a, dp_bool e, by
    cases a with
    | true => exact iteT (h2 H2 (g.trans g2) _ fun w H3 g3 e3 => q w H3 (g2.trans g3) e3)
    | false => exact iteF (q _ H2 g2 (.bl false))⟩
end
end Wn
/-! sum of a tuple of whole numbers -/
namespace Wn
open PySem PySem.Spec PyProof.Rows L2
section
variable {prog : Program} {w : World} {A : Around} {E : Value → Shared → Prop} {s : Shared} {l : Addr} {its : List Value} {ns : List Int} {Q : Value → Shared → Prop}
theorem sum_tup0 {xs : Array (Int × Tok)} (hh : A.handled = none) (hl : s.heap.IsTuple l (intItems xs))
    (h : ∀ h' tk t', (∀ b o, s.heap.get? b = some o → h'.get? b = some o) → Q (.int (preSum (numAt xs) xs.size) t') { s with heap := h', toks := tk }) : wpAny (model prog w) A (call (.builtin "sum") [.ref l]) Q E s := by
  refine call_sum_walkG (wpAny_pyIter_tuple hl ?_)
  obtain ⟨o, ho, hc, n, hd⟩ := hl
  have lt : l < s.heap.objs.size := Heap.lt_size ho
  have kp : ∀ b u, s.heap.get? b = some u → (s.heap.push { cls := .type "tuple_iterator", data := .fields #[.ref l, .int 0 0] }).get? b = some u := fun b u e => Heap.get?_push_of_some _ e
  refine ⟨s.heap.objs.size, _, _, _, _, _, numAt xs, rfl, Walks.tuple (A := A.in1) hh s.heap.objs.size l (Nat.ne_of_lt lt) (intItems xs), ⟨⟨_, Heap.get?_push_size _ rfl, rfl, rfl⟩, ⟨o, kp _ _ ho, hc, n, hd⟩⟩, fun b hb => ?_, fun _ _ => intItems_at, fun h' tk t' hk => ?_⟩
  · have hz : (s.heap.push { cls := .type "tuple_iterator", data := .fields #[.ref l, .int 0 0] }).objs.size = s.heap.objs.size + 1 := by simp [Heap.push]
    simp only [List.mem_cons, List.not_mem_nil, or_false] at hb
    show b < (s.heap.push _).objs.size
    rw [hz]
    rcases hb with rfl | rfl
    · exact Nat.lt_succ_self _
    · exact Nat.lt_succ_of_lt lt
  · have := h h' tk t' (fun b u e => hk b u (by
      rw [List.mem_singleton]
      exact Nat.ne_of_lt (Heap.lt_size e)) (kp b u e))
    simpa [intItems] using this
theorem sum_tup (hh : A.handled = none) (hl : s.heap.IsTuple l its.toArray) (hi : IntsAre its ns)
    (h : ∀ h' tk t', (∀ b o, s.heap.get? b = some o → h'.get? b = some o) → Q (.int ns.sum t') { s with heap := h', toks := tk }) : wpAny (model prog w) A (call (.builtin "sum") [.ref l]) Q E s := by
  obtain ⟨xs, e⟩ := hi.allInts.items
  have hn : numsOf (intItems xs).toList = ns := by
    rw [← e]
    exact hi.numsOf
  rw [nums_intItems] at hn
  rw [e] at hl
  refine sum_tup0 hh hl fun h' tk t' hk => ?_
  have := h h' tk t' hk
  rw [preSum_eq, List.take_of_length_le (by simp), hn]
  exact this
end
def rSumT (K : PySem.W.Frag) : List V → Hp → VK → Prop := fun vs H Q => ∃ (a : Addr) (ns : List Int), vs = [V.ref a] ∧ SqT K H a (ns.map V.int) ∧ Q (.int ns.sum) H
theorem cr_sumT {X : Cx} (hc : X.calm = true) : CallR X (.builtin "sum") (rSumT X.K) := by
  intro pins s σ H vs us Q I r h
  obtain ⟨a, ns, rfl, hs, q⟩ := h
  obtain ⟨its, rv, hl, _⟩ := I.tuple hs
  rw [Vals.ref1 r]
  exact sum_tup (I.ok.hd hc) hl rv.ints fun h' tk t' hk => ⟨.int _, H, I.kept hk, ⟨_, rfl⟩, q⟩
end Wn
/-! a list with a step: xs[::k] -/
namespace Wn
open PySem PySem.Spec PyProof.Rows L2
def stepV (xs : List V) (k : Nat) : List V := (List.range ((xs.length + k - 1) / k)).filterMap fun i => xs[k * i]?
theorem vals_picks {xs : List V} {us : List Value} (r : Vals xs us) (f : Nat → Nat) : ∀ js : List Nat, Vals (js.filterMap fun i => xs[f i]?) (js.filterMap fun i => us[f i]?)
  | [] => .nil
  | j :: js => by
    have ih := vals_picks r f js
    cases e : xs[f j]? with
    | none =>
      have e2 := r.none_of e
      rw [List.filterMap_cons, List.filterMap_cons, e, e2]
      exact ih
    | some x =>
      obtain ⟨u, e2, h⟩ := r.get e
      rw [List.filterMap_cons, List.filterMap_cons, e, e2]
      exact .cons h ih
theorem pick_step (us : List Value) {k : Nat} (hk : 1 ≤ k) : slicePick us.toArray none none (some (k : Int)) = ((List.range ((us.length + k - 1) / k)).filterMap fun i => us[k * i]?).toArray := by
  have e : sliceBounds none none (some (k : Int)) us.toArray.size = ((0 : Int), (us.length : Int), (k : Int)) := by
    have h : (k : Int) > 0 := by omega
    simp only [sliceBounds, Option.getD_some, h, if_true, List.size_toArray]
  unfold slicePick
  rw [e]
  show (List.filterMap (fun i => us.toArray[i]?) (sliceRange 0 (us.length : Int) (k : Int))).toArray = _
  congr 1
  have e2 : sliceRange 0 (us.length : Int) (k : Int) = (List.range ((us.length + k - 1) / k)).map fun i => k * i := by
    unfold sliceRange
    have h : (k : Int) > 0 := by omega
    rw [if_pos h]
    have c : (if (0 : Int) < (us.length : Int) then ((us.length : Int) - 0 + k - 1) / k else 0).toNat = (us.length + k - 1) / k := by
      by_cases z : (0 : Int) < (us.length : Int)
      · rw [if_pos z, show ((us.length : Int) - 0 + k - 1) = ((us.length + k - 1 : Nat) : Int) by omega, ← Int.natCast_ediv]
        rfl
      · rw [if_neg z]
        have : us.length = 0 := by omega
        rw [this, Nat.zero_add, Nat.div_eq_of_lt (by omega)]
        rfl
    dsimp only
    rw [c]
    apply List.map_congr_left
    intro i _
    rw [Int.zero_add, ← Int.natCast_mul]
    rfl
  rw [e2, List.filterMap_map]
  congr 1
  funext i
  simp
theorem stepV_len (xs : List V) (k : Nat) (hk : 1 ≤ k) : (stepV xs k).length ≤ xs.length := by
  unfold stepV
  refine Nat.le_trans (List.length_filterMap_le _ _) ?_
  rw [List.length_range]
  rcases Nat.eq_zero_or_pos xs.length with z | z
  · rw [z, Nat.zero_add, Nat.div_eq_of_lt (by omega)]
    exact Nat.le_refl _
  · refine Nat.lt_succ_iff.mp ((Nat.div_lt_iff_lt_mul (by omega)).mpr ?_)
    have : xs.length * 1 ≤ xs.length * k := Nat.mul_le_mul_left _ hk
    rw [Nat.succ_mul]
    omega
def rStL (K : PySem.W.Frag) : V → V → Hp → VK → Prop := fun x y H Q => ∃ (a : Addr) (xs : List V) (k : Nat), x = .ref a ∧ y = .int k ∧ 1 ≤ k ∧ SqL K H a xs ∧ ∀ p, H p = none → Q (.ref p) (upd H p (.lst (stepV xs k)))
def tStL (r : R2) (te ts : TE) : TE := fun σ H Q => te σ H fun x H1 => ts σ H1 fun y H2 => r x y H2 Q
variable {X : Cx} {e st : Expr} {te ts : TE} {pos p2 : Pos}
theorem pe_stepL {r : R2} (he : PE X e te) (hs : PE X st ts) (hr : r = rStL X.K := by rfl) : PE X (.Subscript e (.Slice none none (some st) p2) pos) (tStL r te ts) := by
  subst hr
  refine ⟨fun pins s σ H Q I h => ?_⟩
  refine Subscript_ (thn (he.run pins s σ H _ I h) fun v s1 ⟨x, H1, I1, r1, q1⟩ => ?_)
  refine wpAny_Slice ?_
  rw [evalPart_none]
  refine wpAny_pure (wpAny_pure ?_)
  rw [evalPart_some]
  refine thn (hs.run pins s1 σ H1 _ I1 q1) fun vs s3 ⟨y, H3, I3, ry, q3⟩ => ?_
  obtain ⟨a, xs, k, rfl, rfl, hk, hx, q⟩ := q3
  cases r1
  obtain ⟨t, rfl⟩ := ry
  have I4 : Inv X pins σ H3 { s3 with heap := s3.heap.push { cls := .type "slice", data := .fields #[.none, .none, .int k t] } } := I3.kept (t' := s3.toks) fun b ob q => Heap.get?_push_of_some _ q
  obtain ⟨its, r, ht, hz⟩ := I4.list hx
  have hlen := r.length
  have hg : wpAny (model X.prog X.w) X.A (getItem (.ref a) (.ref s3.heap.objs.size)) (EP X pins σ Q) X.xe { s3 with heap := s3.heap.push { cls := .type "slice", data := .fields #[.none, .none, .int k t] } } := by
    refine wpAny_getItem_list_slice (st := some (k : Int)) ht.isList (Heap.IsSliceOf.new ..) .none .none (.int _ _) (by intro z; have := Option.some.inj z; omega) ?_ (by rw [List.size_toArray] <;> omega)
    rw [pick_step its hk, ← hlen]
    refine ⟨.ref _, _, I4.laid (t' := s3.toks) (o := .lst (stepV xs k)) (fun b ob q => Heap.get?_push_of_some _ q) (Nat.le_refl _) ?_, rfl, q _ (I4.hok.fresh (Nat.le_refl _))⟩
    exact ⟨Nat.le_trans (stepV_len xs k hk) hz, _, 0, vals_picks r _ _, Heap.get?_push_size _ rfl⟩
  show wpAny (model X.prog X.w) X.A (subscriptTail e (.Slice none none (some st) p2) (.ref a) (.ref s3.heap.objs.size)) (EP X pins σ Q) X.xe { s3 with heap := s3.heap.push { cls := .type "slice", data := .fields #[.none, .none, .int k t] } }
  exact tail_any (ops := [.ref a, .ref s3.heap.objs.size]) ht.isList.typeIs slot_list_getitem.lookup hg (by with_unfolding_all rfl)
end Wn
/-! sums of powers, and which cuts balance -/
namespace Wn
open PySem PySem.Spec PyProof.Rows L2
def geo (g : Nat) : Nat → Nat
  | 0 => 0
  | c + 1 => geo g c + g ^ c
theorem geo_add (g a : Nat) : ∀ d, geo g (a + d) = geo g a + g ^ a * geo g d
  | 0 => by simp [geo]
  | d + 1 => by
    rw [← Nat.add_assoc]
    show geo g (a + d) + g ^ (a + d) = geo g a + g ^ a * (geo g d + g ^ d)
    rw [geo_add g a d, Nat.mul_add, Nat.pow_add, Nat.add_assoc]
theorem geo_mul (g m : Nat) : ∀ c, geo g (m * c) = geo g m * geo (g ^ m) c
  | 0 => by simp [geo]
  | c + 1 => by
    show geo g (m * c + m) = geo g m * (geo (g ^ m) c + (g ^ m) ^ c)
    rw [geo_add, geo_mul g m c, Nat.mul_add, ← Nat.pow_mul, Nat.mul_comm (g ^ (m * c))]
theorem geo_tel (g : Nat) : ∀ c, geo g c * g + 1 = geo g c + g ^ c
  | 0 => by simp [geo]
  | c + 1 => by
    show (geo g c + g ^ c) * g + 1 = geo g c + g ^ c + g ^ (c + 1)
    rw [Nat.add_mul, Nat.pow_succ]
    have := geo_tel g c
    omega
def restSum (b n x s c : Nat) : Nat := ((List.range c).map fun i => rem b n x (s * i)).sum
theorem restSum_succ (b n x s c : Nat) : restSum b n x s (c + 1) = restSum b n x s c + rem b n x (s * c) := by
  unfold restSum
  rw [List.range_succ, List.map_append, List.sum_append]
  simp
theorem restSum_mod (b n x s : Nat) : ∀ c, restSum b n x s c % n = x * geo (b ^ s) c % n
  | 0 => by simp [restSum, geo]
  | c + 1 => by
    rw [restSum_succ, Nat.add_mod, restSum_mod b n x s c]
    show (_ + rem b n x (s * c) % n) % n = x * (geo (b ^ s) c + (b ^ s) ^ c) % n
    rw [Nat.mul_add, Nat.add_mod (x * _)]
    unfold rem
    rw [Nat.mod_mod, Nat.pow_mul]
def bal (b n s c : Nat) : Bool := decide (restSum b n 1 s c % n = 0)
theorem bal_iff {b n s c : Nat} : bal b n s c = true ↔ n ∣ geo (b ^ s) c := by
  unfold bal
  rw [decide_eq_true_eq, restSum_mod, Nat.one_mul]
  exact (Nat.dvd_iff_mod_eq_zero ..).symm
theorem bal_mul {b n s c m : Nat} (h : bal b n (m * s) c = true) : bal b n s (m * c) = true := by
  rw [bal_iff] at h ⊢
  rw [geo_mul, ← Nat.pow_mul, Nat.mul_comm s m]
  exact Nat.dvd_trans h (Nat.dvd_mul_left _ _)
theorem bal_prime {b n s c L : Nat} (hb : 1 ≤ b) (hn : 2 ≤ n) (hp : ∀ k, 2 ≤ k → k < n → ¬ n % k = 0) (hL : IsPer b n L) (hc : 2 ≤ c) (hs : 1 ≤ s) (e : L = s * c) : bal b n s c = true := by
  rw [bal_iff]
  have hsL : s < L := by
    rw [e]
    have : s * 2 ≤ s * c := Nat.mul_le_mul_left _ hc
    omega
  have g1 : 1 ≤ b ^ s := Nat.one_le_pow _ _ hb
  have h1 : (b ^ s) ^ c % n = 1 % n := by
    rw [← Nat.pow_mul, ← e]
    exact hL.2.1
  have h2 : ¬ n ∣ b ^ s - 1 := fun z => hL.2.2 s hs hsL ((mod_iff g1).mpr z).symm
  have t := geo_tel (b ^ s) c
  have t2 : geo (b ^ s) c * (b ^ s - 1) = (b ^ s) ^ c - 1 := by
    rw [Nat.mul_sub, Nat.mul_one]
    omega
  have h3 : n ∣ geo (b ^ s) c * (b ^ s - 1) := by
    rw [t2]
    exact (mod_iff (Nat.one_le_pow _ _ g1)).mp h1.symm
  have hd : Nat.gcd n (b ^ s - 1) ∣ n := Nat.gcd_dvd_left _ _
  have hdn := Nat.le_of_dvd (by omega) hd
  have hd0 : 1 ≤ Nat.gcd n (b ^ s - 1) := Nat.gcd_pos_of_pos_left _ (by omega)
  have hd1 : Nat.gcd n (b ^ s - 1) = 1 := by
    rcases Nat.lt_or_eq_of_le hdn with z | z
    · rcases Nat.lt_or_eq_of_le hd0 with y | y
      · exact absurd (Nat.mod_eq_zero_of_dvd hd) (hp _ y z)
      · exact y.symm
    · exact absurd (z ▸ Nat.gcd_dvd_right n (b ^ s - 1)) h2
  exact Nat.Coprime.dvd_of_dvd_mul_right hd1 h3
/-! which cuts -/
def from2 (k : Nat) : List Nat := (List.range k).map (2 + ·)
theorem from2_succ (k : Nat) : from2 (k + 1) = from2 k ++ [2 + k] := by
  unfold from2
  rw [List.range_succ, List.map_append]
  rfl
theorem mem_from2 {k c : Nat} : c ∈ from2 k ↔ 2 ≤ c ∧ c < 2 + k := by
  unfold from2
  rw [List.mem_map]
  constructor
  · rintro ⟨i, hi, rfl⟩
    rw [List.mem_range] at hi
    omega
  · rintro ⟨h1, h2⟩
    exact ⟨c - 2, List.mem_range.mpr (by omega), by omega⟩
def splitsL (L : Nat) : List Nat := (from2 (L - 1)).filter fun c => decide (L % c = 0)
theorem mem_splits {L c : Nat} (hL : 1 ≤ L) : c ∈ splitsL L ↔ 2 ≤ c ∧ c ∣ L := by
  unfold splitsL
  rw [List.mem_filter, mem_from2, decide_eq_true_eq]
  constructor
  · rintro ⟨⟨h1, h2⟩, h3⟩
    exact ⟨h1, Nat.dvd_of_mod_eq_zero h3⟩
  · rintro ⟨h1, h2⟩
    have := Nat.le_of_dvd hL h2
    exact ⟨⟨h1, by omega⟩, Nat.mod_eq_zero_of_dvd h2⟩
def dueL (b n L : Nat) : List Nat := (splitsL L).filter fun c => bal b n (L / c) c
def below (xs : List Nat) (c : Nat) : List Nat := xs.filter fun k => decide (k < c) && decide (c % k = 0)
def isLeast (xs : List Nat) (c : Nat) : Bool := (below xs c).isEmpty
def leastL (xs : List Nat) : List Nat := xs.filter (isLeast xs)
theorem asc_splits (L : Nat) : (splitsL L).Pairwise (· < ·) := by
  unfold splitsL from2
  refine List.Pairwise.filter _ ?_
  rw [List.pairwise_map]
  exact List.Pairwise.imp (fun h => by omega) List.pairwise_lt_range
theorem asc_due (b n L : Nat) : (dueL b n L).Pairwise (· < ·) := (asc_splits L).filter _
theorem isLeast_iff {xs : List Nat} {c : Nat} : isLeast xs c = true ↔ ∀ k ∈ xs, k < c → ¬ c % k = 0 := by
  unfold isLeast below
  rw [List.isEmpty_iff, List.filter_eq_nil_iff]
  constructor
  · intro h k hk hc hm
    exact h k hk (by rw [decide_eq_true hc, decide_eq_true hm]; rfl)
  · intro h k hk hm
    rw [Bool.and_eq_true, decide_eq_true_eq, decide_eq_true_eq] at hm
    exact h k hk hm.1 hm.2
theorem least_under {xs : List Nat} (h2 : ∀ k ∈ xs, 1 ≤ k) : ∀ (m k : Nat), k ≤ m → k ∈ xs → ∃ k0 ∈ xs, k0 ∣ k ∧ isLeast xs k0 = true
  | 0, k, hm, hk => absurd (h2 k hk) (by omega)
  | m + 1, k, hm, hk => by
    by_cases h : isLeast xs k = true
    · exact ⟨k, hk, Nat.dvd_refl k, h⟩
    · rw [isLeast_iff] at h
      have : ∃ j, j ∈ xs ∧ j < k ∧ k % j = 0 := by
        apply Classical.byContradiction
        intro z
        exact h fun j hj hl hm' => z ⟨j, hj, hl, hm'⟩
      obtain ⟨j, hj, hl, hm'⟩ := this
      obtain ⟨k0, h0, hd, hs⟩ := least_under h2 m j (by omega) hj
      exact ⟨k0, h0, Nat.dvd_trans hd (Nat.dvd_of_mod_eq_zero hm'), hs⟩
/-- the look at the least ones found so far -/
theorem least_step {xs : List Nat} (h2 : ∀ k ∈ xs, 1 ≤ k) (asc : xs.Pairwise (· < ·)) {i : Nat} (hi : i < xs.length) :
    (((xs.take i).filter (isLeast xs)).map fun k => !decide (xs[i] % k = 0)).all id = isLeast xs xs[i] := by
  rw [Bool.eq_iff_iff, List.all_map, List.all_eq_true, isLeast_iff]
  have lt : ∀ k ∈ xs.take i, k < xs[i] := fun k hk => by
    obtain ⟨j, hj, rfl⟩ := List.mem_iff_getElem.mp hk
    rw [List.length_take] at hj
    rw [List.getElem_take]
    exact List.pairwise_iff_getElem.mp asc j i (by omega) hi (by omega)
  have back : ∀ k ∈ xs, k < xs[i] → k ∈ xs.take i := fun k hk hl => by
    obtain ⟨j, hj, rfl⟩ := List.mem_iff_getElem.mp hk
    rw [List.mem_iff_getElem]
    have hji : j < i := by
      rcases Nat.lt_trichotomy j i with z | z | z
      · exact z
      · subst z
        omega
      · have := List.pairwise_iff_getElem.mp asc i j hi hj z
        omega
    exact ⟨j, by rw [List.length_take]; omega, by rw [List.getElem_take]⟩
  constructor
  · intro h k hk hl hm
    obtain ⟨k0, h0, hd, hs⟩ := least_under h2 k k (Nat.le_refl _) hk
    have hk0 : k0 < xs[i] := Nat.lt_of_le_of_lt (Nat.le_of_dvd (h2 k hk) hd) hl
    have := h k0 (List.mem_filter.mpr ⟨back k0 h0 hk0, hs⟩)
    rw [Function.comp_apply, id_eq, Bool.not_eq_true', decide_eq_false_iff_not] at this
    exact this (Nat.mod_eq_zero_of_dvd (Nat.dvd_trans hd (Nat.dvd_of_mod_eq_zero hm)))
  · intro h k hk
    obtain ⟨hk1, hk2⟩ := List.mem_filter.mp hk
    rw [Function.comp_apply, id_eq, Bool.not_eq_true', decide_eq_false_iff_not]
    exact h k (List.mem_of_mem_take hk1) (lt k hk1)
theorem due_mul {b n L c k : Nat} (hL : 1 ≤ L) (hc : c ∈ dueL b n L) (hk : k ∈ splitsL L) (hd : k % c = 0) : k ∈ dueL b n L := by
  obtain ⟨hc1, hc2⟩ := List.mem_filter.mp hc
  refine List.mem_filter.mpr ⟨hk, ?_⟩
  obtain ⟨k1, k2⟩ := (mem_splits hL).mp hk
  obtain ⟨c1, c2⟩ := (mem_splits hL).mp hc1
  obtain ⟨m, rfl⟩ := Nat.dvd_of_mod_eq_zero hd
  obtain ⟨s, rfl⟩ := k2
  have hm : 1 ≤ m := by
    rcases Nat.eq_zero_or_pos m with z | z
    · subst z
      omega
    · exact z
  have e1 : c * m * s / c = m * s := by
    rw [Nat.mul_assoc]
    exact Nat.mul_div_cancel_left _ (by omega)
  have e2 : c * m * s / (c * m) = s := Nat.mul_div_cancel_left _ (by omega)
  rw [e1] at hc2
  rw [e2, Nat.mul_comm c m]
  exact bal_mul hc2
theorem due_prime {b n L : Nat} (hb : 1 ≤ b) (hn : 2 ≤ n) (hp : ∀ k, 2 ≤ k → k < n → ¬ n % k = 0) (hL : IsPer b n L) : dueL b n L = splitsL L := by
  unfold dueL
  rw [List.filter_eq_self]
  intro c hc
  obtain ⟨h1, s, e⟩ := (mem_splits hL.1).mp hc
  have hs : 1 ≤ s := by
    rcases Nat.eq_zero_or_pos s with z | z
    · rw [z, Nat.mul_zero] at e
      have := hL.1
      omega
    · exact z
  have : L / c = s := by
    rw [e]
    exact Nat.mul_div_cancel_left _ (by omega)
  rw [this]
  exact bal_prime hb hn hp hL h1 hs (by rw [e, Nat.mul_comm])
/-! lists of whole numbers from 0 on -/
def vn (xs : List Nat) : List V := xs.map fun k => V.int (k : Nat)
def ni (xs : List Nat) : List Int := xs.map fun k => ((k : Nat) : Int)
theorem vn_ni (xs : List Nat) : vn xs = (ni xs).map V.int := by
  unfold vn ni
  rw [List.map_map]
  rfl
theorem vn_len (xs : List Nat) : (vn xs).length = xs.length := by simp [vn]
theorem vn_snoc (xs : List Nat) (k : Nat) : vn xs ++ [V.int (k : Nat)] = vn (xs ++ [k]) := by simp [vn]
theorem vn_get {xs : List Nat} {i : Nat} {y : V} (h : (vn xs)[i]? = some y) : ∃ hi : i < xs.length, y = V.int (xs[i] : Nat) := by
  unfold vn at h
  rw [List.getElem?_map] at h
  cases e : xs[i]? with
  | none =>
    rw [e] at h
    cases h
  | some n =>
    rw [e] at h
    obtain ⟨hi, e2⟩ := List.getElem?_eq_some_iff.mp e
    subst e2
    exact ⟨hi, (Option.some.inj h).symm⟩
theorem ni_sum : ∀ xs : List Nat, (ni xs).sum = ((xs.sum : Nat) : Int)
  | [] => rfl
  | x :: r => by
    show (x : Int) + (ni r).sum = ((x + r.sum : Nat) : Int)
    rw [ni_sum r]
    omega
theorem filt_yes {xs : List Nat} {g : Nat → Bool} {i : Nat} (hi : i < xs.length) (h : g xs[i] = true) : (xs.take (i + 1)).filter g = (xs.take i).filter g ++ [xs[i]] := by
  rw [List.take_succ_eq_append_getElem hi, List.filter_append, List.filter_cons, if_pos h]
  rfl
theorem filt_no {xs : List Nat} {g : Nat → Bool} {i : Nat} (hi : i < xs.length) (h : g xs[i] = false) : (xs.take (i + 1)).filter g = (xs.take i).filter g := by
  rw [List.take_succ_eq_append_getElem hi, List.filter_append, List.filter_cons, if_neg (by rw [h]; decide)]
  simp
theorem from2_len (k : Nat) : (from2 k).length = k := by simp [from2]
theorem from2_get {k i : Nat} (h : i < k) : (from2 k)[i]'(by rw [from2_len]; exact h) = 2 + i := by simp [from2]
theorem eqv_niL (ys : List Nat) : PyData.eqv (.list ((ni ys).map PyData.int)) (.list []) = ys.isEmpty := by
  cases ys with
  | nil => rfl
  | cons y r => rfl
theorem inV_ni (k : Nat) : ∀ xs : List Nat, inV (.int (k : Nat)) (vn xs) = decide (k ∈ xs) := by
  intro xs
  induction xs with
  | nil => rfl
  | cons y r ih =>
    show ((((y : Nat) : Int) == ((k : Nat) : Int)) || inV (.int (k : Nat)) (vn r)) = _
    rw [ih, Bool.eq_iff_iff, Bool.or_eq_true, beq_iff_eq, decide_eq_true_eq, decide_eq_true_eq, List.mem_cons]
    constructor
    · rintro (h | h)
      · exact .inl (by omega)
      · exact .inr h
    · rintro (h | h)
      · exact .inl (by omega)
      · exact .inr h
theorem flat_ni : ∀ xs : List Nat, (vn xs).all flatV = true
  | [] => rfl
  | _ :: r => flat_ni r
theorem blkOk_of {N N0 : List Str} {sc sc0 scope : Scope} {own : List (Str × Nat)} (hN : N = N0) (hs : sc = sc0) (h : blkC N0 sc0 scope own = true) : BlkOk N sc scope own := by
  subst hN hs
  exact blkOk_by h
end Wn
/-! values of digits, and the sum of the pieces -/
namespace Wn
open PySem PySem.Spec PyProof.Rows L2
def wrt (b : Nat) (ds : List Nat) : Nat := ds.foldl (fun f d => f * b + d) 0
theorem wrt_snoc (b : Nat) (ds : List Nat) (d : Nat) : wrt b (ds ++ [d]) = wrt b ds * b + d := by simp [wrt]
def dg (b n x lo c : Nat) : List Nat := (List.range c).map fun i => rem b n x (lo + i) * b / n
theorem dg_len (b n x lo c : Nat) : (dg b n x lo c).length = c := by simp [dg]
theorem dg_succ (b n x lo c : Nat) : dg b n x lo (c + 1) = dg b n x lo c ++ [rem b n x (lo + c) * b / n] := by
  unfold dg
  rw [List.range_succ, List.map_append]
  rfl
theorem wrt_dg (b n x lo : Nat) : ∀ c, n * wrt b (dg b n x lo c) + rem b n x (lo + c) = rem b n x lo * b ^ c
  | 0 => by simp [dg, wrt]
  | c + 1 => by
    have ih := wrt_dg b n x lo c
    have dm := Nat.div_add_mod (rem b n x (lo + c) * b) n
    rw [rem_succ] at dm
    rw [dg_succ, wrt_snoc, Nat.pow_succ, ← Nat.mul_assoc, ← ih, Nat.mul_add, Nat.add_mul, ← Nat.mul_assoc]
    have e : lo + (c + 1) = lo + c + 1 := rfl
    rw [e]
    omega
/-- the value of piece number j of k digits -/
def pce (b n x k j : Nat) : Nat := wrt b (dg b n x (k * j) k)
def pcs (b n x k c : Nat) : List Nat := (List.range c).map (pce b n x k)
theorem pcs_len (b n x k c : Nat) : (pcs b n x k c).length = c := by simp [pcs]
theorem pcs_succ (b n x k c : Nat) : pcs b n x k (c + 1) = pcs b n x k c ++ [pce b n x k c] := by
  unfold pcs
  rw [List.range_succ, List.map_append]
  rfl
theorem pcs_sum (b n x k : Nat) : ∀ c, n * (pcs b n x k c).sum + restSum b n x k c + rem b n x (k * c) = b ^ k * restSum b n x k c + rem b n x 0
  | 0 => by simp [pcs, restSum]
  | c + 1 => by
    have ih := pcs_sum b n x k c
    have w := wrt_dg b n x (k * c) k
    have e : k * (c + 1) = k * c + k := rfl
    rw [e, pcs_succ, List.sum_append, restSum_succ, Nat.mul_add, Nat.mul_add]
    have e2 : ([pce b n x k c] : List Nat).sum = pce b n x k c := by simp
    rw [e2]
    unfold pce
    rw [Nat.mul_comm (b ^ k) (rem b n x (k * c)), ← w]
    omega
theorem pcs_all {b n x k c : Nat} (hb : 1 ≤ b) (h : rem b n x (k * c) = rem b n x 0) : n * (pcs b n x k c).sum = (b ^ k - 1) * restSum b n x k c := by
  have e := pcs_sum b n x k c
  rw [h] at e
  have h1 : 1 ≤ b ^ k := Nat.one_le_pow _ _ hb
  rw [Nat.sub_mul, Nat.one_mul]
  omega
theorem pcs_quot {b n x k c : Nat} (hb : 2 ≤ b) (hk : 1 ≤ k) (hn : 1 ≤ n) (h : rem b n x (k * c) = rem b n x 0) :
    ((pcs b n x k c).sum % (b ^ k - 1) = 0 ↔ restSum b n x k c % n = 0) ∧ (restSum b n x k c % n = 0 → (pcs b n x k c).sum / (b ^ k - 1) = restSum b n x k c / n) := by
  have e := pcs_all (b := b) (n := n) (x := x) (k := k) (c := c) (by omega) h
  have h1 : 2 ≤ b ^ k := Nat.le_trans hb (Nat.le_self_pow (by omega) b)
  generalize (pcs b n x k c).sum = S at e ⊢
  generalize restSum b n x k c = R at e ⊢
  generalize hm : b ^ k - 1 = m at e ⊢
  have m1 : 1 ≤ m := by omega
  refine ⟨⟨fun z => ?_, fun z => ?_⟩, fun z => ?_⟩
  · obtain ⟨q, rfl⟩ := Nat.dvd_of_mod_eq_zero z
    have : m * R = m * (n * q) := by rw [← e, Nat.mul_left_comm]
    rw [Nat.eq_of_mul_eq_mul_left m1 this]
    exact Nat.mul_mod_right _ _
  · obtain ⟨q, rfl⟩ := Nat.dvd_of_mod_eq_zero z
    have : n * S = n * (m * q) := by rw [e, Nat.mul_left_comm]
    rw [Nat.eq_of_mul_eq_mul_left hn this]
    exact Nat.mul_mod_right _ _
  · obtain ⟨q, rfl⟩ := Nat.dvd_of_mod_eq_zero z
    have : n * S = n * (m * q) := by rw [e, Nat.mul_left_comm]
    rw [Nat.eq_of_mul_eq_mul_left hn this, Nat.mul_div_cancel_left _ m1, Nat.mul_div_cancel_left _ hn]
theorem pce_lt {b n x k j : Nat} (hb : 1 ≤ b) (hn : 1 ≤ n) : pce b n x k j < b ^ k := by
  have w := wrt_dg b n x (k * j) k
  have r := rem_lt (b := b) (n := n) (x := x) (i := k * j) hn
  unfold pce
  have h1 : n * wrt b (dg b n x (k * j) k) ≤ rem b n x (k * j) * b ^ k := by omega
  have h2 : rem b n x (k * j) * b ^ k < n * b ^ k := Nat.mul_lt_mul_of_pos_right r (Nat.pow_pos hb)
  exact Nat.lt_of_mul_lt_mul_left (Nat.lt_of_le_of_lt h1 h2)
theorem rem_period {b n x L : Nat} (h : b ^ L % n = 1 % n) : rem b n x L = rem b n x 0 := by
  unfold rem
  rw [Nat.mul_mod, h, ← Nat.mul_mod, Nat.pow_zero]
/-! whole numbers of more signs -/
theorem Sm.intB {i : Int} {k : Nat} (hk : 1 ≤ k) (h : i.natAbs < 2 ^ k) (hk2 : k ≤ 1000) : Sm (.int i) 303 0 k := by
  have hl := log2_lt hk h
  have h12 : i.natAbs < 10 ^ 302 := Nat.lt_of_lt_of_le h (Nat.le_trans (Nat.pow_le_pow_right (by decide) hk2) (by decide +kernel))
  refine ⟨?_, ?_, rfl, rfl, Nat.le_refl _, ?_⟩
  · show decide (i.natAbs.log2 < 1920) = true
    exact decide_eq_true (by omega)
  · show decide ((PyData.shown (.int i)).length ≤ 303) = true
    refine decide_eq_true ?_
    have e := int_text_length_le10 (k := 302) (by decide) h12
    show (Str.ofString (toString i)).length ≤ 303
    rw [PySem.ofString_length]
    exact e
  · show 0 ≤ k
    omega
/-- .. of up to 1900 bits -/
theorem Sm.intW {i : Int} (h : i.natAbs < 2 ^ 1900) : Sm (.int i) 600 0 0 := by
  have hl := log2_lt (k := 1900) (by decide) h
  have h12 : i.natAbs < 10 ^ 599 := Nat.lt_of_lt_of_le h (by decide +kernel)
  refine ⟨?_, ?_, rfl, rfl, Nat.le_refl _, Nat.le_refl _⟩
  · show decide (i.natAbs.log2 < 1920) = true
    exact decide_eq_true (by omega)
  · show decide ((PyData.shown (.int i)).length ≤ 600) = true
    refine decide_eq_true ?_
    have e := int_text_length_le10 (k := 599) (by decide) h12
    show (Str.ofString (toString i)).length ≤ 600
    rw [PySem.ofString_length]
    exact e
theorem Sm.int0 {i : Int} {k : Nat} (hk : 1 ≤ k) (h : i.natAbs < 2 ^ k) (hk2 : k ≤ 39) : Sm (.int i) 13 0 0 := by
  obtain ⟨a, b, c, d, e, _⟩ := Sm.int hk h hk2
  exact ⟨a, b, c, d, e, Nat.le_refl _⟩
end Wn
/-! d.update(e) for dicts of whole numbers and texts; dict(xs) with a name -/
namespace Wn
open PySem PySem.Spec PyProof.Rows L2
def rUpd : V → List V → Hp → VK → Prop := fun x vs H Q => ∃ (a o : Addr) (kvs more : List (Key × V)), x = .ref a ∧ vs = [.ref o] ∧ a ≠ o ∧ H a = some (.dK kvs) ∧ H o = some (.dK more) ∧ kvs.length + more.length ≤ sizeLine ∧ Q .non (upd H a (.dK (mergeK kvs more)))
theorem mt_update {X : Cx} : MtR X "dict.update" rUpd := by
  intro pins s σ H x vs v us Q I rx rv h
  obtain ⟨a, o, kvs, more, rfl, rfl, hne, ha, ho, hz, q⟩ := h
  cases rx
  obtain ⟨u, rfl, ru⟩ := rv.one
  cases ru
  obtain ⟨z1, n1, vs1, rel1, d1⟩ := dk_of I.hok ha
  obtain ⟨z2, n2, vs2, rel2, d2⟩ := dk_of I.hok ho
  have l1 := rel1.length
  have l2 := rel2.length
  refine call_meetsIn PySem.F.slot_dict_update d1.typeIs PySem.F.entry_dict_update (PySem.F.args_dict_update_2 _ _) (meets_dict_update (mixKind X.prog X.w) a o hne n2) ⟨vs1, vs2, d1, d2, by omega, fun h' d1' d2' hs => ?_⟩
  have hlm := length_mergeK more kvs
  have he : ∃ q, h'.get? a = some q := let ⟨q, _, _, hq, _⟩ := d1'; ⟨q, hq⟩
  exact ⟨.non, _, d_write I (by rw [ha]; exact True.intro) hs he (dk_new (by omega) n1 (rel2.merge rel1) d1'), rfl, q⟩
def rDP (K : PySem.W.Frag) : List V → Hp → VK → Prop := fun xs H Q => ∃ (a : Addr) (ps : List Addr) (kvs : List (Key × V)), xs = [.ref a] ∧ SqL K H a (ps.map V.ref) ∧ Paired (fun p kv => SqT K H p [kV kv.1, kv.2]) ps kvs ∧
    ∀ p, H p = none → Q (.ref p) (upd H p (.dK (mergeK [] kvs)))
theorem call_dP {X : Cx} (h : X.calm = true) : CallR X (.type "dict") (rDP X.K) := call_dictP h
theorem valV_merge : ∀ (more kvs : List (Key × V)) (k : Key), (valV (mergeK kvs more) k).isSome = ((valV kvs k).isSome || decide (∃ kv ∈ more, kv.1 = k))
  | [], kvs, k => by simp [mergeK]
  | p :: r, kvs, k => by
    show (valV (mergeK (putK kvs p.1 p.2) r) k).isSome = _
    rw [valV_merge r, valV_put, Bool.eq_iff_iff]
    by_cases e : k = p.1
    · subst e
      simp
    · rw [if_neg e]
      have e' : ¬ p.1 = k := fun z => e z.symm
      simp [e']
end Wn
/-! wheels: rows of remainders -/
namespace Wn
open PySem PySem.Spec PyProof.Rows L2
def topB (b n L x : Nat) : Bool := decide (Nat.gcd x n = 1) && (List.range L).all fun i => decide (x ≤ rem b n x i)
def wl (b n L : Nat) : List Nat := (List.range n).filter (topB b n L)
def InOrb (b n L y r : Nat) : Prop := ∃ i, i < L ∧ rem b n y i = r
theorem top_iff {b n L x : Nat} : topB b n L x = true ↔ Nat.gcd x n = 1 ∧ ∀ i, i < L → x ≤ rem b n x i := by
  unfold topB
  rw [Bool.and_eq_true, decide_eq_true_eq, List.all_eq_true]
  constructor
  · rintro ⟨h1, h2⟩
    refine ⟨h1, fun i hi => ?_⟩
    have := h2 i (List.mem_range.mpr hi)
    rwa [decide_eq_true_eq] at this
  · rintro ⟨h1, h2⟩
    exact ⟨h1, fun i hi => decide_eq_true (h2 i (List.mem_range.mp hi))⟩
theorem rem_rem (b n y i j : Nat) : rem b n (rem b n y i) j = rem b n y (i + j) := by
  unfold rem
  rw [Nat.mod_mul_mod, Nat.mul_assoc, ← Nat.pow_add]
theorem rem_per {b n L y : Nat} (h : IsPer b n L) (hy : y < n) : rem b n y L = y := by
  unfold rem
  rw [Nat.mul_mod, h.2.1, ← Nat.mul_mod, Nat.mul_one, Nat.mod_eq_of_lt hy]
theorem orb_symm {b n L x y : Nat} (h : IsPer b n L) (hy : y < n) (o : InOrb b n L y x) : InOrb b n L x y := by
  obtain ⟨i, hi, e⟩ := o
  subst e
  rcases Nat.eq_zero_or_pos i with z | z
  · subst z
    exact ⟨0, h.1, by rw [rem_rem, rem_zero hy]⟩
  · exact ⟨L - i, by omega, by rw [rem_rem, show i + (L - i) = L by omega, rem_per h hy]⟩
theorem rem_cop {b n x : Nat} (g : Nat.gcd b n = 1) (gx : Nat.gcd x n = 1) (i : Nat) : Nat.gcd (rem b n x i) n = 1 := by
  unfold rem
  rw [← Nat.gcd_rec n (x * b ^ i), Nat.gcd_comm]
  exact Nat.Coprime.mul_left gx (cop_pow g i)
theorem not_top {b n L x : Nat} (g : Nat.gcd b n = 1) (h : IsPer b n L) (hx : x < n) (gx : Nat.gcd x n = 1) : topB b n L x = false ↔ ∃ y, y < x ∧ Nat.gcd y n = 1 ∧ InOrb b n L y x := by
  have hn : 1 ≤ n := by omega
  constructor
  · intro z
    have z' : ¬ topB b n L x = true := by rw [z]; decide
    rw [top_iff] at z'
    have : ∃ i, i < L ∧ rem b n x i < x := by
      apply Classical.byContradiction
      intro c
      exact z' ⟨gx, fun i hi => Nat.le_of_not_lt fun l => c ⟨i, hi, l⟩⟩
    obtain ⟨i, hi, l⟩ := this
    exact ⟨_, l, rem_cop g gx i, orb_symm h hx ⟨i, hi, rfl⟩⟩
  · rintro ⟨y, hy, gy, o⟩
    obtain ⟨j, hj, e⟩ := orb_symm h (by omega) o
    cases c : topB b n L x with
    | false => rfl
    | true =>
      have := (top_iff.mp c).2 j hj
      omega
/-- who has been met before x comes -/
def Met (b n L k r : Nat) : Prop := ∃ y, y < k ∧ Nat.gcd y n = 1 ∧ InOrb b n L y r
theorem met_top {b n L k r : Nat} (g : Nat.gcd b n = 1) (h : IsPer b n L) (hk : k ≤ n) : Met b n L k r ↔ ∃ y, y < k ∧ topB b n L y = true ∧ InOrb b n L y r := by
  constructor
  · rintro ⟨y, hy, gy, i, hi, e⟩
    -- the least of its row
    obtain ⟨m, hm, ⟨j, hj, ej⟩, q⟩ := least (fun z => ∃ j, j < L ∧ rem b n y j = z) y ⟨0, h.1, rem_zero (by omega)⟩
    have hjm : rem b n y j = m := ej
    refine ⟨m, by omega, top_iff.mpr ⟨?_, fun t ht => ?_⟩, ?_⟩
    · rw [← hjm]
      exact rem_cop g gy j
    · apply Nat.le_of_not_lt
      intro l
      refine q _ l ⟨(j + t) % L, Nat.mod_lt _ h.1, ?_⟩
      rw [← hjm, rem_rem]
      have := Nat.div_add_mod (j + t) L
      show rem b n y ((j + t) % L) = rem b n y (j + t)
      conv => rhs; rw [← this]
      rw [← rem_rem]
      congr 1
      unfold rem
      rw [Nat.mul_mod, h.mul, ← Nat.mul_mod, Nat.mul_one, Nat.mod_eq_of_lt (by omega)]
    · refine ⟨(L - j + i) % L, Nat.mod_lt _ h.1, ?_⟩
      have := Nat.div_add_mod (L - j + i) L
      rw [← e, ← hjm, rem_rem]
      have e2 : rem b n y (j + (L - j + i) % L) = rem b n y (j + (L - j + i)) := by
        conv => rhs; rw [← this]
        rw [show j + (L * ((L - j + i) / L) + (L - j + i) % L) = L * ((L - j + i) / L) + (j + (L - j + i) % L) by omega, ← rem_rem (i := L * ((L - j + i) / L))]
        congr 1
        unfold rem
        rw [Nat.mul_mod, h.mul, ← Nat.mul_mod, Nat.mul_one, Nat.mod_eq_of_lt (by omega)]
      rw [e2, show j + (L - j + i) = L + i by omega, ← rem_rem, rem_per h (by omega)]
  · rintro ⟨y, hy, t, o⟩
    exact ⟨y, hy, (top_iff.mp t).1, o⟩
theorem met_succ {b n L k r : Nat} : Met b n L (k + 1) r ↔ Met b n L k r ∨ (Nat.gcd k n = 1 ∧ InOrb b n L k r) := by
  constructor
  · rintro ⟨y, hy, gy, o⟩
    rcases Nat.lt_or_eq_of_le (show y ≤ k by omega) with z | z
    · exact .inl ⟨y, z, gy, o⟩
    · subst z
      exact .inr ⟨gy, o⟩
  · rintro (⟨y, hy, gy, o⟩ | ⟨gk, o⟩)
    · exact ⟨y, by omega, gy, o⟩
    · exact ⟨k, by omega, gk, o⟩
/-- a number whose least one stands before it brings nothing new -/
theorem met_skip {b n L k r : Nat} (g : Nat.gcd b n = 1) (h : IsPer b n L) (hk : k < n) (c : topB b n L k = false) : Met b n L (k + 1) r ↔ Met b n L k r := by
  rw [met_top g h (by omega), met_top g h (by omega)]
  constructor
  · rintro ⟨y, hy, t, o⟩
    rcases Nat.lt_or_eq_of_le (show y ≤ k by omega) with z | z
    · exact ⟨y, z, t, o⟩
    · subst z
      rw [c] at t
      cases t
  · rintro ⟨y, hy, t, o⟩
    exact ⟨y, by omega, t, o⟩
def rl (b n x L : Nat) : List Nat := (List.range L).map fun i => rem b n x i
theorem rl_len (b n x L : Nat) : (rl b n x L).length = L := by simp [rl]
theorem mem_rl {b n x L r : Nat} : r ∈ rl b n x L ↔ InOrb b n L x r := by
  unfold rl
  rw [List.mem_map]
  constructor
  · rintro ⟨i, hi, e⟩
    exact ⟨i, List.mem_range.mp hi, e⟩
  · rintro ⟨i, hi, e⟩
    exact ⟨i, List.mem_range.mpr hi, e⟩
theorem rl_lt {b n x L r : Nat} (hn : 1 ≤ n) (h : r ∈ rl b n x L) : r < n := by
  obtain ⟨i, _, rfl⟩ := mem_rl.mp h
  exact rem_lt hn
def copL (n : Nat) : List Nat := (List.range n).filter fun x => decide (Nat.gcd x n = 1)
theorem wl_take_succ {b n L k : Nat} (hk : k < n) : ((List.range n).take (k + 1)).filter (topB b n L) = ((List.range n).take k).filter (topB b n L) ++ (if topB b n L k = true then [k] else []) := by
  rw [List.take_succ_eq_append_getElem (by simpa using hk), List.filter_append, List.getElem_range, List.filter_cons]
  split <;> simp
end Wn
namespace Wn
open PySem PySem.Spec PyProof.Rows L2
theorem orb_trans {b n L x y r : Nat} (h : IsPer b n L) (hy : y < n) (o : InOrb b n L y x) (o2 : InOrb b n L x r) : InOrb b n L y r := by
  obtain ⟨i, hi, rfl⟩ := o
  obtain ⟨j, hj, rfl⟩ := o2
  refine ⟨(i + j) % L, Nat.mod_lt _ h.1, ?_⟩
  rw [rem_rem]
  have := Nat.div_add_mod (i + j) L
  show rem b n y ((i + j) % L) = rem b n y (i + j)
  conv => rhs; rw [← this]
  rw [← rem_rem]
  congr 1
  unfold rem
  rw [Nat.mul_mod, h.mul, ← Nat.mul_mod, Nat.mul_one, Nat.mod_eq_of_lt hy]
theorem asc_cop (n : Nat) : (copL n).Pairwise (· < ·) := List.Pairwise.filter _ List.pairwise_lt_range
theorem mem_cop {n x : Nat} : x ∈ copL n ↔ x < n ∧ Nat.gcd x n = 1 := by
  unfold copL
  rw [List.mem_filter, List.mem_range, decide_eq_true_eq]
theorem cop_len (n : Nat) : (copL n).length ≤ n := by
  unfold copL
  exact Nat.le_trans (List.length_filter_le _ _) (by simp)
theorem cop_take {n i y : Nat} (hi : i < (copL n).length) : y ∈ (copL n).take i ↔ y < (copL n)[i] ∧ Nat.gcd y n = 1 := by
  have hx := mem_cop.mp (List.getElem_mem hi)
  constructor
  · intro h
    obtain ⟨j, hj, rfl⟩ := List.mem_iff_getElem.mp h
    rw [List.length_take] at hj
    rw [List.getElem_take]
    exact ⟨List.pairwise_iff_getElem.mp (asc_cop n) j i (by omega) hi (by omega), (mem_cop.mp (List.getElem_mem _)).2⟩
  · rintro ⟨hl, hg⟩
    have hm : y ∈ copL n := mem_cop.mpr ⟨by omega, hg⟩
    obtain ⟨j, hj, rfl⟩ := List.mem_iff_getElem.mp hm
    rw [List.mem_iff_getElem]
    have hji : j < i := by
      rcases Nat.lt_trichotomy j i with z | z | z
      · exact z
      · subst z
        omega
      · have := List.pairwise_iff_getElem.mp (asc_cop n) i j hi hj z
        omega
    exact ⟨j, by rw [List.length_take]; omega, by rw [List.getElem_take]⟩
theorem cop_top (b n L : Nat) : (copL n).filter (topB b n L) = wl b n L := by
  unfold copL wl
  rw [List.filter_filter]
  congr 1
  funext x
  cases t : topB b n L x with
  | false => rfl
  | true => rw [decide_eq_true (top_iff.mp t).1]; rfl
theorem valV_mem : ∀ (l : List (Key × V)) (k : Key), (valV l k).isSome = true ↔ ∃ kv ∈ l, kv.1 = k
  | [], k => by simp [valV]
  | p :: r, k => by
    by_cases e : p.1 = k
    · rw [valV_pos e]
      simp [e]
    · rw [valV_neg e, valV_mem r]
      simp [e]
end Wn
/-! set(xs) of a list of whole numbers -/
namespace Wn
open PySem PySem.Spec PyProof.Rows L2
abbrev eSet (w : World) : Obj := { cls := .type "set", dict := none, data := .set #[] 0 (.fresh 0 0 (!w.params.followText "set-order")) }
section
variable {P : Program} {w : World} {A : Around} {E : Value → Shared → Prop} {z : Shared}
theorem set_lst {l : Addr} {us : Array Value} (ks : List Int) {Q : Value → Shared → Prop} (hh : A.handled = none) (hl : z.heap.IsList l us) (hu : IntsAre us.toList ks) (hb : ks.length + 1 < scanBound)
    (go : ∀ (hp : Heap) (tk c : Nat), SetR w hp z.heap.objs.size (fun j => decide (j ∈ ks)) c → (∀ b o, z.heap.get? b = some o → hp.get? b = some o) → Q (.ref z.heap.objs.size) { z with heap := hp, toks := tk }) :
    wpAny (model P w) A (call (.type "set") [.ref l]) Q E z := by
  have hsz : us.size = ks.length := Array.length_toList (xs := us) ▸ IntsAre.length hu
  obtain ⟨c0, t0, mr⟩ := F.called_set.mro
  have p1 := F.called_set.made; have p2 := F.called_set.sub
  refine wpAny_call (codeAny_of_tree (show wpAny _ _ (callAny (.type "set") _) _ _ _ from wpAny_pure ⟨Code.quiet_builtin _ (by decide +kernel), codeAny_builtin F.entry_type_call ?_⟩))
  rw [Around.under_plain (weight_type_call_type "set" [Value.ref l] []) rfl]
  have p3 := F.called_set.notType; have p4 := F.called_set.canCreate; have p5 := F.typeCall_set_1 (.ref l)
  repeat (any_goals (first | assumption | wp_step))
  refine codeAny_mono (code_set_led1 (.ref l) (E := E) (Q₁ := fun v s1 => v = .ref z.heap.objs.size ∧ s1 = { z with heap := z.heap.push (eSet w) }) ⟨rfl, rfl⟩) fun r s1 hr => ?_
  cases r with
  | error e => exact hr
  | ok fl =>
    cases fl with
    | ret v =>
      obtain ⟨rfl, rfl⟩ := hr
      have aS : (z.heap.push (eSet w)).get? z.heap.objs.size = some (eSet w) := Heap.get?_push_size _ rfl
      have tS : Shared.TypeIs { z with heap := z.heap.push (eSet w) } (.ref z.heap.objs.size) "set" := ⟨_, aS, rfl⟩
      have p6 := F.called_set.init.lookup; have p7 := F.called_set.init.bind (.ref z.heap.objs.size)
      repeat (any_goals (first | assumption | wp_step))
      refine codeAny_mono (codeAny_call_builtin (R := wants (fun r s2 => r = .none ∧ ∃ hp tk c, s2 = { z with heap := hp, toks := tk } ∧ SetR w hp z.heap.objs.size (fun j => decide (j ∈ ks)) c ∧ (∀ b o, z.heap.get? b = some o → hp.get? b = some o)) E)
        F.called_set.init.plain F.entry_set_init (check_set_init_1 tS ?_)) fun r2 s2 hr2 => ?_
      · obtain ⟨⟨oc, od, odata, osl⟩, ho, hc, nl, hd⟩ := hl
        simp only at hc hd; subst hc; subst hd
        have ho' : (z.heap.push (eSet w)).get? l = some { cls := .type "list", dict := od, data := .seq us nl, slots := osl } := Heap.get?_push_of_some _ ho
        have q1 := F.sub_list_set; have q2 := F.sub_list_frozenset
        have q3 : (Value.type "list" == Value.type "dict") = false := by decide
        have il : (z.heap.push (eSet w)).IsList l us := ⟨_, ho', rfl, nl, rfl⟩
        unfold Builtin.«set.__init__» noKeywords Builtin.Frozenset.updateFrom
        generalize eI : pyIter = PI; wp_walk; subst eI
        refine wpAny_pyIter_list il (wpAny_bind (wpAny_runValue ?_))
        have lt : l < z.heap.objs.size := Heap.lt_size ho
        have h3 : A.in1.in1.in1.handled = none := by simp [hh]
        have eI : (z.heap.push (eSet w)).objs.size = z.heap.objs.size + 1 := Heap.size_push ..
        have nI : l ≠ (z.heap.push (eSet w)).objs.size := by rw [eI]; exact Nat.ne_of_lt (Nat.lt_succ_of_lt lt)
        have nS : z.heap.objs.size ∉ [(z.heap.push (eSet w)).objs.size, l] := by
          rw [eI]; simp only [List.mem_cons, List.not_mem_nil, or_false]; exact fun h => h.elim (Nat.ne_of_lt (Nat.lt_succ_self _)) (Nat.ne_of_gt lt)
        have items : ∀ (i : Nat) (v : Value), us[i]? = some v → ∃ k t, ks[i]? = some k ∧ v = .int k t := fun i v hv => by
          have hi : i < ks.length := hsz ▸ (Array.getElem?_eq_some_iff.mp hv).1
          obtain ⟨t, e⟩ := PyProof.Rows.IntsAre.int_at hu i v (by simpa using hv)
          exact ⟨ks[i], t, by simp [hi], by rw [e]; simp [hi]⟩
        refine set_update_ints ((Walks.list h3 _ l nI us).toS) z.heap.objs.size nS ks hsz hb items (us.size - 0) 0 _ (by omega) (Nat.zero_le _) ⟨⟨_, Heap.get?_push_size _ rfl, rfl, rfl⟩, il.push _⟩ ⟨0, Nat.le_refl 0, setR_new_at (Heap.get?_push_of_some _ aS)⟩ fun s3 c3 mv hc3 R3 => ?_
        obtain ⟨h3', g3, d3, tk3, os3⟩ := s3
        have e1 : g3 = z.gens := mv.gens; have e2 : d3 = z.drawn := mv.drawn; have e3 : os3 = z.os := mv.os
        subst e1; subst e2; subst e3
        refine wpAny_pure (show wpAny _ _ (ret Value.none) _ _ _ from wpAny_pure ⟨rfl, h3', tk3, c3, rfl, R3, fun b o e => ?_⟩)
        have lb : b < z.heap.objs.size := Heap.lt_size e
        refine mv.heap b o ?_ (Heap.get?_push_of_some _ (Heap.get?_push_of_some _ e))
        simp only [List.mem_cons, List.not_mem_nil, or_false]; rw [eI]; exact fun h => h.elim (Nat.ne_of_lt lb) (Nat.ne_of_lt (Nat.lt_succ_of_lt lb))
      · cases r2 with
        | error e => exact hr2
        | ok fl2 =>
          cases fl2 with
          | ret r =>
            obtain ⟨rfl, hp, tk, c, rfl, R, kp⟩ := hr2
            repeat (any_goals (first | assumption | wp_step))
            exact go _ _ _ R kp
          | _ => exact hr2.elim
    | _ => exact hr.elim
end
theorem ints_vals : ∀ {ns : List Int} {us : List Value}, Vals (ns.map V.int) us → IntsAre us ns
  | [], _, .nil => .nil
  | _ :: _, _, .cons ⟨k, e⟩ t => e ▸ IntsAre.cons _ k (ints_vals t)
def rSetL (K : PySem.W.Frag) (w : World) : List V → Hp → VK → Prop := fun xs H Q => ∃ (l : Addr) (ns : List Int), xs = [V.ref l] ∧ SqL K H l (ns.map V.int) ∧ ns.length ≤ 4000 ∧
  ∀ (a : Addr) (ks : List Int), H a = none → ks.Nodup → (∀ k, k ∈ ks ↔ k ∈ ns) → Q (.ref a) (upd H a (SetO w a (fun j => decide (j ∈ ns)) ks.length))
theorem call_setL {X : Cx} (hc : X.calm = true) : CallR X (.type "set") (rSetL X.K X.w) := by
  intro pins s σ H xs us Q I r h
  obtain ⟨l, ns, rfl, hs, hz, q⟩ := h
  obtain ⟨its, rv, hl, _⟩ := I.list hs
  rw [Vals.ref1 r]
  refine set_lst ns (I.ok.hd hc) hl.isList (by simpa using ints_vals rv) (by unfold scanBound; omega) fun hp tk c R kp => ?_
  have R' := R
  obtain ⟨o, es, ep, t, _, _, _, _, nd, hm, _, _, hn, _⟩ := R
  have e : (es.toList.map keyOf).length = c := by rw [List.length_map, Array.length_toList, hn]
  have free := I.hok.fresh (Nat.le_refl s.heap.objs.size)
  have q' := q s.heap.objs.size (es.toList.map keyOf) free nd (fun k => by rw [← hm]; simp)
  rw [e] at q'
  exact ⟨.ref _, _, I.laid (t' := tk) kp (Nat.le_refl _) (setO_new R'), rfl, q'⟩
/-! ascending lists with the same members are one -/
theorem asc_eq : ∀ {xs ys : List Int}, xs.Pairwise (· < ·) → ys.Pairwise (· < ·) → (∀ k, k ∈ xs ↔ k ∈ ys) → xs = ys
  | [], [], _, _, _ => rfl
  | [], y :: ys, _, _, h => absurd ((h y).mpr List.mem_cons_self) (by simp)
  | x :: xs, [], _, _, h => absurd ((h x).mp List.mem_cons_self) (by simp)
  | x :: xs, y :: ys, hx, hy, h => by
    have hx' := List.pairwise_cons.mp hx
    have hy' := List.pairwise_cons.mp hy
    have e : x = y := by
      rcases List.mem_cons.mp ((h x).mp List.mem_cons_self) with z | z
      · exact z
      · rcases List.mem_cons.mp ((h y).mpr List.mem_cons_self) with z2 | z2
        · exact z2.symm
        · have h1 := hy'.1 x z
          have h2 := hx'.1 y z2
          omega
    subst e
    rw [asc_eq hx'.2 hy'.2 fun k => ?_]
    have hk := h k
    simp only [List.mem_cons] at hk
    constructor
    · intro z
      rcases hk.mp (.inr z) with z2 | z2
      · have := hx'.1 k z
        omega
      · exact z2
    · intro z
      rcases hk.mpr (.inr z) with z2 | z2
      · have := hy'.1 k z
        omega
      · exact z2
end Wn
/-! a tuple times any small number -/
namespace Wn
open PySem PySem.Spec PyProof.Rows L2
theorem tmul_same (l : Addr) (us : Array Value) (n : Nat) (dd : Option Addr) (sl : Array (Option Value)) (k : Int) (u : Tok) (c0 : (decide (k < -(2 ^ 63)) || decide (k ≥ 2 ^ 63)) = false) (c1 : (us.isEmpty || k == 1) = true) :
    Meets (Builtin.«tuple.__mul__» ⟨[.ref l, .int k u], []⟩) (fun _ R s => s.heap.get? l = some { cls := .type "tuple", dict := dd, data := .seq us n, slots := sl } ∧ R (.ok (.ret (Value.ref l))) s) :=
  .of_wp fun prog w A R s ⟨hl, go⟩ => by
    obtain ⟨hp, g, d, tk, os⟩ := s
    have f1 := AutoSeq1.idx_int
    wp_walk using wpAny_loadPart' hl
    repeat (first
      | (refine wpAny_ite_false (decide_eq_false (by rw [c0]; exact Bool.false_ne_true)) ?_; wp_walk using wpAny_loadPart' hl)
      | (refine wpAny_ite_true (decide_eq_true (by rw [c1])) ?_; wp_walk using wpAny_loadPart' hl))
    exact ⟨_, rfl, go⟩
theorem tmul_none (l : Addr) (us : Array Value) (n : Nat) (dd : Option Addr) (sl : Array (Option Value)) (k : Int) (u : Tok) (c0 : (decide (k < -(2 ^ 63)) || decide (k ≥ 2 ^ 63)) = false) (c1 : (us.isEmpty || k == 1) = false) (c2 : (decide (k ≤ 0) || us.isEmpty) = true) :
    Meets (Builtin.«tuple.__mul__» ⟨[.ref l, .int k u], []⟩) (fun _ R s => s.heap.get? l = some { cls := .type "tuple", dict := dd, data := .seq us n, slots := sl } ∧
      R (.ok (.ret (Value.ref s.heap.objs.size))) { s with heap := s.heap.push { cls := Value.type "tuple", data := Data.seq #[] }, toks := s.toks }) :=
  .of_wp fun prog w A R s ⟨hl, go⟩ => by
    obtain ⟨hp, g, d, tk, os⟩ := s
    have f1 := AutoSeq1.idx_int
    wp_walk using wpAny_loadPart' hl
    repeat (first
      | (refine wpAny_ite_false (decide_eq_false (by rw [c0]; exact Bool.false_ne_true)) ?_; wp_walk using wpAny_loadPart' hl)
      | (refine wpAny_ite_false (decide_eq_false (by rw [c1]; exact Bool.false_ne_true)) ?_; wp_walk using wpAny_loadPart' hl)
      | (refine wpAny_ite_true (decide_eq_true (by rw [c2])) ?_; wp_walk using wpAny_loadPart' hl))
    exact ⟨_, rfl, go⟩
def rRepG (K : PySem.W.Frag) : R2 := fun x y H Q => ∃ (l : Addr) (k : Int) (xs : List V), x = .ref l ∧ y = .int k ∧ SqT K H l xs ∧ (-1000 ≤ k ∧ k ≤ 1000 ∧ xs.length ≤ 1000) ∧
  ((k = 1 ∨ xs = []) → Q (.ref l) H) ∧ (k ≠ 1 → xs ≠ [] → ∀ p, H p = none → Q (.ref p) (upd H p (.tup (List.replicate k.toNat xs).flatten)))
theorem op_repG {X : Cx} : OpR X (binaryOp .Mult) (rRepG X.K) := by
  intro pins s σ H x y v u Q I rx ry h
  obtain ⟨l, k, xs, rfl, rfl, hT, ⟨h0, h1, hz⟩, q1, q2⟩ := h
  by_cases hb : 2 ≤ k ∧ xs ≠ []
  · exact op_repT pins s σ H _ _ _ _ _ I rx ry ⟨l, k, xs, rfl, rfl, hT, hb.2, hb.1, h1, hz, q2 (by omega) hb.2⟩
  cases rx
  obtain ⟨t, rfl⟩ := ry
  obtain ⟨its, r, ⟨⟨cls, dd, data, sl⟩, ho, hc, n, hd⟩, hs⟩ := I.tuple hT
  simp only at hc hd
  subst hc hd
  have c0 : (decide (k < -(2 ^ 63)) || decide (k ≥ 2 ^ 63)) = false := by
    rw [decide_eq_false (by omega), decide_eq_false (by omega)] <;> rfl
  have hne : its.toArray.isEmpty = true ↔ xs = [] := by
    cases r with
    | nil => exact ⟨fun _ => rfl, fun _ => rfl⟩
    | cons a b => exact ⟨fun z => by simp at z, fun z => by cases z⟩
  by_cases c1 : (its.toArray.isEmpty || k == 1) = true
  · have hk : k = 1 ∨ xs = [] := by
      rcases Bool.or_eq_true _ _ ▸ c1 with z | z
      · exact .inr (hne.mp z)
      · exact .inl (beq_iff_eq.mp z)
    refine wpAny_binaryOp_repeat_ref (T := "tuple") (U := "int") (by decide) ⟨_, ho, rfl⟩ (fun s' => typeIs_int s' k t) noFill_tuple_mul F.fills_int_mul F.slot_int_rmul repeat_tuple F.slot_int_index.lookup
      (call_meets F.slot_int_rmul (typeIs_int s k t) F.entry_int_rmul (F.args_int_rmul_2 _ _) (int_rmul_tuple k t l its.toArray n dd sl)
        ⟨ho, rfl, ⟨_, ho, rfl⟩, call_meets F.slot_tuple_mul ⟨_, ho, rfl⟩ F.entry_tuple_mul (F.args_tuple_mul_2 _ _) (tmul_same l its.toArray n dd sl k t c0 c1) ⟨ho, .ref l, H, I, rfl, q1 hk⟩⟩)
  · have c1' : (its.toArray.isEmpty || k == 1) = false := by simpa using c1
    rw [Bool.or_eq_false_iff] at c1'
    have hx : xs ≠ [] := fun z => by
      rw [hne.mpr z] at c1'
      cases c1'.1
    have hk1 : k ≠ 1 := fun z => by
      have := c1'.2
      rw [z] at this
      cases this
    have hk0 : k ≤ 0 := by
      rcases Int.lt_or_le 0 k with z | z
      · exact absurd ⟨by omega, hx⟩ hb
      · exact z
    have q3 := q2 hk1 hx s.heap.objs.size (I.hok.fresh (Nat.le_refl _))
    rw [show k.toNat = 0 by omega] at q3
    refine wpAny_binaryOp_repeat_ref (T := "tuple") (U := "int") (by decide) ⟨_, ho, rfl⟩ (fun s' => typeIs_int s' k t) noFill_tuple_mul F.fills_int_mul F.slot_int_rmul repeat_tuple F.slot_int_index.lookup
      (call_meets F.slot_int_rmul (typeIs_int s k t) F.entry_int_rmul (F.args_int_rmul_2 _ _) (int_rmul_tuple k t l its.toArray n dd sl)
        ⟨ho, rfl, ⟨_, ho, rfl⟩, call_meets F.slot_tuple_mul ⟨_, ho, rfl⟩ F.entry_tuple_mul (F.args_tuple_mul_2 _ _) (tmul_none l its.toArray n dd sl k t c0 (by rw [c1'.1, c1'.2]; rfl) (by rw [decide_eq_true hk0]; rfl)) ⟨ho, ?_⟩⟩)
    refine ⟨.ref s.heap.objs.size, _, I.laid (t' := s.toks) (o := .tup (List.replicate 0 xs).flatten) (fun b ob q => Heap.get?_push_of_some _ q) (Nat.le_refl _) ?_, rfl, q3⟩
    exact ⟨Nat.zero_le _, [], .nil, IsTup.new _ _⟩
end Wn
/-! rotations -/
namespace Wn
open PySem PySem.Spec PyProof.Rows L2
def rotL (ds : List Nat) (k : Nat) : List Nat := ds.drop k ++ ds.take k
theorem rotL_len (ds : List Nat) (k : Nat) : (rotL ds k).length = ds.length := by
  unfold rotL
  rw [List.length_append, List.length_drop, List.length_take]
  omega
theorem rotL_zero (ds : List Nat) : rotL ds 0 = ds := by simp [rotL]
theorem rotL_succ {ds : List Nat} {k : Nat} (h : k < ds.length) : (rotL ds k).drop 1 ++ (rotL ds k).take 1 = rotL ds (k + 1) := by
  unfold rotL
  rw [List.drop_eq_getElem_cons h]
  simp only [List.cons_append, List.drop_succ_cons, List.drop_zero, List.take_succ_cons, List.take_zero]
  rw [List.append_assoc, List.take_succ_eq_append_getElem h]
theorem mem_rotL {ds : List Nat} {k x : Nat} (h : x ∈ rotL ds k) : x ∈ ds := by
  unfold rotL at h
  rcases List.mem_append.mp h with z | z
  · exact List.mem_of_mem_drop z
  · exact List.mem_of_mem_take z
/-- the repeating digits -/
def dgl (b n x L : Nat) : List Nat := (List.range L).map fun i => rem b n x i * b / n
theorem dgl_len (b n x L : Nat) : (dgl b n x L).length = L := by simp [dgl]
theorem rem_cyc {b n x L : Nat} (h : IsPer b n L) (i : Nat) : rem b n x (i + L) = rem b n x i := by
  unfold rem
  rw [Nat.pow_add, ← Nat.mul_assoc, Nat.mul_mod, h.2.1, ← Nat.mul_mod, Nat.mul_one]
theorem dgl_rot {b n x L k : Nat} (h : IsPer b n L) (hk : k ≤ L) : rotL (dgl b n x L) k = dgl b n (rem b n x k) L := by
  unfold rotL
  apply List.ext_getElem
  · rw [List.length_append, List.length_drop, List.length_take, dgl_len, dgl_len]
    omega
  · intro i h1 h2
    rw [dgl_len] at h2
    rw [List.getElem_append]
    split
    · rename_i hi
      rw [List.length_drop, dgl_len] at hi
      rw [List.getElem_drop]
      simp only [dgl, List.getElem_map, List.getElem_range]
      rw [rem_rem]
    · rename_i hi
      rw [List.length_drop, dgl_len] at hi
      rw [List.getElem_take]
      simp only [dgl, List.getElem_map, List.getElem_range, List.length_drop, List.length_map, List.length_range]
      rw [rem_rem, show k + i = i - (L - k) + L by omega, rem_cyc h]
theorem dgl_inj {b n x y L : Nat} (hb : 2 ≤ b) (h : IsPer b n L) (hx : x < n) (hy : y < n) (e : dgl b n x L = dgl b n y L) : x = y := by
  have hn : 1 ≤ n := by omega
  have hd : ∀ i, i < L → rem b n x i * b / n = rem b n y i * b / n := fun i hi => by
    have h1 : (dgl b n x L)[i]'(by rw [dgl_len]; exact hi) = (dgl b n y L)[i]'(by rw [dgl_len]; exact hi) := by simp only [e]
    simp only [dgl, List.getElem_map, List.getElem_range] at h1
    exact h1
  have st : ∀ z i, rem b n z i * b = n * (rem b n z i * b / n) + rem b n z (i + 1) := fun z i => by
    rw [← rem_succ]
    exact (Nat.div_add_mod _ _).symm
  -- the difference grows by the base at each step
  have key : ∀ i, i ≤ L → (rem b n x i : Int) - rem b n y i = ((x : Int) - y) * (b : Int) ^ i := by
    intro i
    induction i with
    | zero =>
      intro _
      rw [rem_zero hx, rem_zero hy]
      simp
    | succ i ih =>
      intro hi
      have h1 := ih (by omega)
      have h2 := st x i
      have h3 := st y i
      rw [hd i (by omega)] at h2
      generalize rem b n y i * b / n = q at h2 h3
      have h4 : (rem b n x i : Int) * b = n * q + rem b n x (i + 1) := by exact_mod_cast h2
      have h5 : (rem b n y i : Int) * b = n * q + rem b n y (i + 1) := by exact_mod_cast h3
      rw [Int.pow_succ, ← Int.mul_assoc, ← h1, Int.sub_mul]
      omega
  have k := key L (Nat.le_refl _)
  rw [rem_per h hx, rem_per h hy] at k
  have hL := h.1
  have hp : (2 : Int) ≤ (b : Int) ^ L := by
    have : 2 ≤ b ^ L := Nat.le_trans hb (Nat.le_self_pow (by omega) b)
    exact_mod_cast this
  have : ((x : Int) - y) * ((b : Int) ^ L - 1) = 0 := by
    rw [Int.mul_sub, Int.mul_one]
    omega
  rcases Int.mul_eq_zero.mp this with z | z <;> omega
/-- among the first ones each comes once -/
theorem rem_once {b n x L i j : Nat} (g : Nat.gcd b n = 1) (gx : Nat.gcd x n = 1) (h : IsPer b n L) (hi : i < L) (hj : j < L) (e : rem b n x i = rem b n x j) : i = j := by
  have key : ∀ {i j : Nat}, i < j → j < L → rem b n x i = rem b n x j → False := fun {i j} hij hj e => by
    have e1 : b ^ i % n = b ^ j % n := mod_cancel gx e
    have e2 : b ^ (j - i) % n = 1 % n := by
      refine mod_cancel (cop_pow g i) ?_
      rw [← Nat.pow_add, show i + (j - i) = j by omega, Nat.mul_one]
      exact e1.symm
    exact h.2.2 (j - i) (by omega) (by omega) e2
  rcases Nat.lt_trichotomy i j with z | z | z
  · exact (key z hj e).elim
  · exact z
  · exact (key z hi e.symm).elim
/-- the first place from which y comes; the period where there is none -/
def topI (b n x y L : Nat) : Nat := ((List.range L).find? fun i => decide (rem b n x i = y)).getD L
theorem topI_hit {b n x y L i : Nat} (hi : i < L) (e : rem b n x i = y) (no : ∀ j, j < i → rem b n x j ≠ y) : topI b n x y L = i := by
  unfold topI
  have : (List.range L).find? (fun i => decide (rem b n x i = y)) = some i := by
    rw [List.find?_range_eq_some]
    refine ⟨decide_eq_true e, List.mem_range.mpr hi, fun j hj => ?_⟩
    simp only [Bool.not_eq_true', decide_eq_false_iff_not]
    exact no j hj
  rw [this]
  rfl
theorem topI_miss {b n x y L : Nat} (no : ∀ j, j < L → rem b n x j ≠ y) : topI b n x y L = L := by
  unfold topI
  have : (List.range L).find? (fun i => decide (rem b n x i = y)) = none := by
    rw [List.find?_eq_none]
    intro i hi
    rw [decide_eq_true_eq]
    exact no i (List.mem_range.mp hi)
  rw [this]
  rfl
theorem topI_cases (b n x y L : Nat) : (topI b n x y L < L ∧ rem b n x (topI b n x y L) = y ∧ ∀ j, j < topI b n x y L → rem b n x j ≠ y) ∨ (topI b n x y L = L ∧ ∀ j, j < L → rem b n x j ≠ y) := by
  by_cases h : ∃ i, i < L ∧ rem b n x i = y
  · obtain ⟨i, hi, e⟩ := h
    obtain ⟨m, hm, pm, q⟩ := least (fun i => rem b n x i = y) i e
    have e1 := topI_hit (L := L) (show m < L by omega) pm (fun j hj z => q j hj z)
    rw [e1]
    exact .inl ⟨by omega, pm, fun j hj z => q j hj z⟩
  · have no : ∀ j, j < L → rem b n x j ≠ y := fun j hj z => h ⟨j, hj, z⟩
    exact .inr ⟨topI_miss no, no⟩
end Wn
/-! values of digits and of their rotations; multipliers -/
namespace Wn
open PySem PySem.Spec PyProof.Rows L2
theorem wrt_from (b : Nat) : ∀ (ds : List Nat) (f : Nat), ds.foldl (fun f d => f * b + d) f = f * b ^ ds.length + wrt b ds
  | [], f => by simp [wrt]
  | d :: r, f => by
    have h1 := wrt_from b r (f * b + d)
    have h2 := wrt_from b r (0 * b + d)
    unfold wrt at h1 h2 ⊢
    simp only [List.foldl_cons, List.length_cons]
    rw [h1, h2, Nat.pow_succ, Nat.add_mul, Nat.zero_mul, Nat.zero_add, Nat.mul_assoc, Nat.mul_comm b]
    omega
theorem wrt_cons (b x : Nat) (r : List Nat) : wrt b (x :: r) = x * b ^ r.length + wrt b r := by
  have := wrt_from b r (0 * b + x)
  rw [Nat.zero_mul, Nat.zero_add] at this
  rw [← this]
  simp [wrt]
theorem wrt_append (b : Nat) (xs ys : List Nat) : wrt b (xs ++ ys) = wrt b xs * b ^ ys.length + wrt b ys := by
  rw [← wrt_from b ys (wrt b xs)]
  simp [wrt, List.foldl_append]
theorem wrt_lt {b : Nat} : ∀ {ds : List Nat}, (∀ d ∈ ds, d < b) → wrt b ds < b ^ ds.length
  | [], _ => by simp [wrt]
  | x :: r, h => by
    have ih := wrt_lt (ds := r) fun d hd => h d (List.mem_cons_of_mem _ hd)
    have hx := h x List.mem_cons_self
    rw [wrt_cons, List.length_cons, Nat.pow_succ, Nat.mul_comm (b ^ r.length)]
    have : (x + 1) * b ^ r.length ≤ b * b ^ r.length := Nat.mul_le_mul_right _ hx
    rw [Nat.succ_mul] at this
    omega
theorem rot_at {ds : List Nat} {i : Nat} (h : i < ds.length) : rotL ds i = ds[i] :: (ds.drop (i + 1) ++ ds.take i) := by
  unfold rotL
  rw [List.drop_eq_getElem_cons h]
  rfl
theorem wrt_rot {b : Nat} {ds : List Nat} {i : Nat} (h : i < ds.length) (hb : 1 ≤ b) : ((wrt b (rotL ds i) : Nat) : Int) * (b : Int) - ((ds[i] : Nat) : Int) * (((b ^ ds.length : Nat) : Int) - 1) = ((wrt b (rotL ds (i + 1)) : Nat) : Int) := by
  have e : rotL ds (i + 1) = (ds.drop (i + 1) ++ ds.take i) ++ [ds[i]] := by
    rw [← rotL_succ h, rot_at h]
    rfl
  have hl : (ds.drop (i + 1) ++ ds.take i).length + 1 = ds.length := by
    rw [List.length_append, List.length_drop, List.length_take]
    omega
  rw [rot_at h, e, wrt_cons, wrt_snoc, ← hl]
  generalize ds.drop (i + 1) ++ ds.take i = r
  generalize wrt b r = w
  generalize ds[i] = x
  rw [Nat.pow_succ]
  generalize b ^ r.length = p
  push_cast
  rw [Int.add_mul, Int.mul_sub, Int.mul_one, Int.mul_assoc (x : Int) (p : Int) (b : Int)]
  omega
/-- k times their value is that of a rotation -/
def IsMul (b : Nat) (ds : List Nat) (k : Nat) : Prop := ∃ j, j < ds.length ∧ wrt b (rotL ds j) = k * wrt b ds
/-- those met among the first i rotations -/
def mulL (b : Nat) (ds : List Nat) (i : Nat) : List Nat := ((List.range i).filter fun j => decide (wrt b (rotL ds j) % wrt b ds = 0)).map fun j => wrt b (rotL ds j) / wrt b ds
theorem mulL_succ (b : Nat) (ds : List Nat) (i : Nat) : mulL b ds (i + 1) = mulL b ds i ++ (if wrt b (rotL ds i) % wrt b ds = 0 then [wrt b (rotL ds i) / wrt b ds] else []) := by
  unfold mulL
  rw [List.range_succ, List.filter_append, List.map_append]
  congr 1
  by_cases h : wrt b (rotL ds i) % wrt b ds = 0
  · rw [if_pos h, List.filter_cons_of_pos (by simpa using h)]
    rfl
  · rw [if_neg h, List.filter_cons_of_neg (by simpa using h)]
    rfl
theorem mulL_len (b : Nat) (ds : List Nat) (i : Nat) : (mulL b ds i).length ≤ i := by
  unfold mulL
  rw [List.length_map]
  exact Nat.le_trans (List.length_filter_le _ _) (by simp)
theorem mem_mulL {b : Nat} {ds : List Nat} {k i : Nat} (hv : 1 ≤ wrt b ds) : k ∈ mulL b ds i ↔ ∃ j, j < i ∧ wrt b (rotL ds j) = k * wrt b ds := by
  unfold mulL
  rw [List.mem_map]
  constructor
  · rintro ⟨j, hj, rfl⟩
    rw [List.mem_filter, List.mem_range, decide_eq_true_eq] at hj
    exact ⟨j, hj.1, (Nat.div_mul_cancel (Nat.dvd_of_mod_eq_zero hj.2)).symm⟩
  · rintro ⟨j, hj, e⟩
    refine ⟨j, ?_, ?_⟩
    · rw [List.mem_filter, List.mem_range, decide_eq_true_eq, e]
      exact ⟨hj, Nat.mul_mod_left _ _⟩
    · rw [e, Nat.mul_div_cancel _ hv]
/-- there are few of them -/
def Few (b : Nat) (ds : List Nat) : Prop := ∀ ks : List Nat, ks.Nodup → (∀ k ∈ ks, IsMul b ds k) → ks.length < 64
theorem nodup_sub {xs : List Nat} : ∀ {ys : List Nat}, xs.Nodup → (∀ x ∈ xs, x ∈ ys) → xs.length ≤ ys.length := by
  intro ys
  induction ys generalizing xs with
  | nil =>
    intro _ h
    cases xs with
    | nil => exact Nat.le_refl _
    | cons x r => exact absurd (h x List.mem_cons_self) (by simp)
  | cons y ys ih =>
    intro nd h
    have h1 := ih (nd.erase y) fun x hx => by
      have hm := List.mem_of_mem_erase hx
      rcases List.mem_cons.mp (h x hm) with e | e
      · subst e
        exact absurd hx (List.Nodup.not_mem_erase nd)
      · exact e
    rw [List.length_cons]
    by_cases hy : y ∈ xs
    · rw [List.length_erase_of_mem hy] at h1
      omega
    · rw [List.erase_of_not_mem hy] at h1
      omega
theorem few_of {b p : Nat} {ds : List Nat} (hv : 1 ≤ wrt b ds) (hp : p < 64) (h : ∀ j, j < ds.length → ∃ i, i < p ∧ rotL ds j = rotL ds i) : Few b ds := fun ks nd hk => by
  have := nodup_sub (ys := (List.range p).map fun i => wrt b (rotL ds i) / wrt b ds) nd fun k hm => by
    obtain ⟨j, hj, e⟩ := hk k hm
    obtain ⟨i, hi, e2⟩ := h j hj
    exact List.mem_map.mpr ⟨i, List.mem_range.mpr hi, by rw [← e2, e, Nat.mul_div_cancel _ hv]⟩
  rw [List.length_map, List.length_range] at this
  omega
theorem few_len {b : Nat} {ds : List Nat} (hv : 1 ≤ wrt b ds) (h : ds.length < 64) : Few b ds := few_of hv h fun j hj => ⟨j, hj, rfl⟩
/-- digits twice over -/
theorem rot_twice {ds : List Nat} {j : Nat} (h1 : ds.length ≤ j) (h2 : j < (ds ++ ds).length) : rotL (ds ++ ds) j = rotL (ds ++ ds) (j - ds.length) := by
  unfold rotL
  rw [List.length_append] at h2
  rw [List.drop_append, List.take_append, List.drop_append, List.take_append, List.drop_eq_nil_of_le h1, List.take_of_length_le h1, show j - ds.length - ds.length = 0 by omega]
  simp only [List.nil_append, List.drop_zero, List.take_zero, List.append_nil, List.append_assoc]
theorem few_twice {b : Nat} {ds : List Nat} (hv : 1 ≤ wrt b (ds ++ ds)) (h : ds.length < 64) : Few b (ds ++ ds) := few_of hv h fun j hj => by
  rcases Nat.lt_or_ge j ds.length with z | z
  · exact ⟨j, z, rfl⟩
  · refine ⟨j - ds.length, ?_, rot_twice z hj⟩
    rw [List.length_append] at hj
    omega
/-- a number up to 1000 has no common divisor with one of two primes -/
theorem gcd_prime {b p : Nat} (hp : ∀ g, g ≤ p → g ∣ p → g = 1 ∨ g = p) (h0 : 1 ≤ p) (h : Nat.gcd b p ≠ 1) : p ∣ b := by
  rcases hp _ (Nat.le_of_dvd h0 (Nat.gcd_dvd_right b p)) (Nat.gcd_dvd_right b p) with e | e
  · exact absurd e h
  · rw [← e]
    exact Nat.gcd_dvd_left b p
theorem cop_two {b p q : Nat} (hb : 1 ≤ b) (hp : ∀ g, g ≤ p → g ∣ p → g = 1 ∨ g = p) (hq : ∀ g, g ≤ q → g ∣ q → g = 1 ∨ g = q) (p0 : 1 ≤ p) (q0 : 1 ≤ q) (c : Nat.gcd p q = 1) (hl : b < p * q) : Nat.gcd b p = 1 ∨ Nat.gcd b q = 1 := by
  by_cases h1 : Nat.gcd b p = 1
  · exact .inl h1
  · by_cases h2 : Nat.gcd b q = 1
    · exact .inr h2
    · have := Nat.le_of_dvd hb (Nat.Coprime.mul_dvd_of_dvd_of_dvd c (gcd_prime hp p0 h1) (gcd_prime hq q0 h2))
      omega
theorem cop_43_47 {b : Nat} (h1 : 1 ≤ b) (h2 : b ≤ 1000) : Nat.gcd b 43 = 1 ∨ Nat.gcd b 47 = 1 := cop_two h1 (by decide) (by decide) (by decide) (by decide) (by decide) (by omega)
/-- two ascending rows of numbers with the same members -/
theorem ascN_eq {xs ys : List Nat} (hx : xs.Pairwise (· < ·)) (hy : ys.Pairwise (· < ·)) (h : ∀ k, k ∈ xs ↔ k ∈ ys) : xs = ys := by
  have key : ∀ {zs : List Nat}, zs.Pairwise (· < ·) → (ni zs).Pairwise (· < ·) := fun hz => List.Pairwise.map _ (fun a b h => by omega) hz
  have := asc_eq (key hx) (key hy) fun k => by
    unfold ni
    rw [List.mem_map, List.mem_map]
    exact ⟨fun ⟨a, ha, e⟩ => ⟨a, (h a).mp ha, e⟩, fun ⟨a, ha, e⟩ => ⟨a, (h a).mpr ha, e⟩⟩
  unfold ni at this
  exact (List.map_inj_right (fun a b e => by omega)).mp this
/-- rows of whole numbers whose members are natural ones -/
theorem ni_of : ∀ {zs : List Int}, (∀ k ∈ zs, 0 ≤ k) → ∃ xs : List Nat, zs = ni xs
  | [], _ => ⟨[], rfl⟩
  | z :: zs, h => by
    obtain ⟨xs, e⟩ := ni_of (zs := zs) fun k hk => h k (List.mem_cons_of_mem _ hk)
    have := h z List.mem_cons_self
    exact ⟨z.toNat :: xs, by rw [e]; show z :: ni xs = ((z.toNat : Nat) : Int) :: ni xs; rw [Int.toNat_of_nonneg this]⟩
theorem mem_ni {xs : List Nat} {k : Nat} : ((k : Nat) : Int) ∈ ni xs ↔ k ∈ xs := by
  unfold ni
  rw [List.mem_map]
  constructor
  · rintro ⟨a, ha, e⟩
    rw [show k = a by omega]
    exact ha
  · exact fun h => ⟨k, h, rfl⟩
end Wn
open PySem PySem.W PySem.Calls PyProof.Rows Builtin
open L2
namespace Wn
/-! counts by keys -/
def kvP (ps : List (Nat × Nat)) : List (Key × V) := ps.map fun p => ((Sum.inl ((p.1 : Nat) : Int) : Key), V.int (p.2 : Nat))
structure Cnt (g : Nat → Nat) (ps : List (Nat × Nat)) : Prop where
  nd : (ps.map Prod.fst).Nodup
  mem : ∀ q c, (q, c) ∈ ps ↔ g q = c ∧ 1 ≤ c
theorem Cnt.nil : Cnt (fun _ => 0) [] := ⟨List.nodup_nil, fun q c => ⟨fun h => (by cases h), fun ⟨h1, h2⟩ => by omega⟩⟩
theorem Cnt.congr {g g' : Nat → Nat} {ps : List (Nat × Nat)} (h : Cnt g ps) (e : ∀ q, g q = g' q) : Cnt g' ps := ⟨h.nd, fun q c => by rw [h.mem, e]⟩
theorem kvP_key {ps : List (Nat × Nat)} {q : Nat} {kv : Key × V} (h : kv ∈ kvP ps) (e : kv.1 = (Sum.inl ((q : Nat) : Int) : Key)) : ∃ c, (q, c) ∈ ps ∧ kv.2 = .int (c : Nat) := by
  obtain ⟨⟨q', c⟩, hp, rfl⟩ := List.mem_map.mp h
  have e2 : ((q' : Nat) : Int) = (q : Int) := Sum.inl.inj e
  have : q' = q := by omega
  subst this
  exact ⟨c, hp, rfl⟩
theorem Cnt.get {g : Nat → Nat} {ps : List (Nat × Nat)} (h : Cnt g ps) (q : Nat) : valV (kvP ps) (Sum.inl ((q : Nat) : Int) : Key) = if g q = 0 then none else some (.int (g q : Nat)) := by
  unfold valV
  cases e : (kvP ps).find? fun kv => decide (kv.1 = (Sum.inl ((q : Nat) : Int) : Key)) with
  | none =>
    by_cases g0 : g q = 0
    · rw [if_pos g0]
      rfl
    · exfalso
      have hm := (h.mem q (g q)).mpr ⟨rfl, by omega⟩
      have := List.find?_eq_none.mp e _ (List.mem_map.mpr ⟨_, hm, rfl⟩)
      simp at this
  | some kv =>
    have h1 := List.mem_of_find?_eq_some e
    have h2 := List.find?_some e
    obtain ⟨c, hc, hv⟩ := kvP_key h1 (of_decide_eq_true h2)
    obtain ⟨h3, h4⟩ := (h.mem q c).mp hc
    rw [if_neg (by omega), h3]
    exact congrArg some hv
theorem Cnt.put {g : Nat → Nat} {ps : List (Nat × Nat)} (h : Cnt g ps) (q d : Nat) (hd : 1 ≤ d) :
    ∃ ps', putK (kvP ps) (Sum.inl ((q : Nat) : Int) : Key) (.int ((g q + d : Nat) : Int)) = kvP ps' ∧ Cnt (fun z => g z + if z = q then d else 0) ps' := by
  by_cases g0 : g q = 0
  · refine ⟨ps ++ [(q, g q + d)], ?_, ?_, fun q' c => ?_⟩
    · rw [putK_new _ (by rw [h.get, if_pos g0])]
      unfold kvP
      rw [List.map_append]
      rfl
    · rw [List.map_append, List.nodup_append]
      refine ⟨h.nd, by simp, ?_⟩
      intro x hx y hy e
      rw [List.map_cons, List.map_nil, List.mem_singleton] at hy
      obtain ⟨⟨q', c⟩, hp, e3⟩ := List.mem_map.mp hx
      obtain ⟨h3, h4⟩ := (h.mem q' c).mp hp
      have e4 : q' = q := (show q' = x from e3).trans (e.trans hy)
      rw [e4] at h3
      omega
    · rw [List.mem_append, List.mem_singleton, h.mem]
      by_cases e : q' = q
      · subst e
        rw [if_pos rfl]
        constructor
        · rintro (⟨h1, h2⟩ | h1)
          · omega
          · have := (Prod.mk.inj h1).2
            omega
        · rintro ⟨h1, h2⟩
          exact .inr (by rw [h1])
      · rw [if_neg e, Nat.add_zero]
        constructor
        · rintro (h1 | h1)
          · exact h1
          · exact absurd (Prod.mk.inj h1).1 e
        · exact fun h1 => .inl h1
  · have hm := (h.mem q (g q)).mpr ⟨rfl, by omega⟩
    refine ⟨ps.map fun p => if p.1 = q then (p.1, g q + d) else p, ?_, ?_, fun q' c => ?_⟩
    · unfold putK
      rw [if_pos]
      · unfold kvP
        rw [List.map_map, List.map_map]
        refine List.map_congr_left fun p _ => ?_
        show (if (Sum.inl ((p.1 : Nat) : Int) : Key) = Sum.inl ((q : Nat) : Int) then _ else _) = _
        by_cases e : p.1 = q
        · rw [if_pos (by rw [e])]
          show _ = (fun p : Nat × Nat => ((Sum.inl ((p.1 : Nat) : Int) : Key), V.int (p.2 : Nat))) (if p.1 = q then (p.1, g q + d) else p)
          rw [if_pos e]
        · rw [if_neg (fun z => e (by have := Sum.inl.inj z; omega))]
          show _ = (fun p : Nat × Nat => ((Sum.inl ((p.1 : Nat) : Int) : Key), V.int (p.2 : Nat))) (if p.1 = q then (p.1, g q + d) else p)
          rw [if_neg e]
      · rw [List.any_eq_true]
        exact ⟨_, List.mem_map.mpr ⟨_, hm, rfl⟩, decide_eq_true rfl⟩
    · rw [List.map_map, show ps.map (Prod.fst ∘ fun p => if p.1 = q then (p.1, g q + d) else p) = ps.map Prod.fst from List.map_congr_left fun p _ => by
        show (if p.1 = q then (p.1, g q + d) else p).1 = p.1
        split <;> rfl]
      exact h.nd
    · rw [List.mem_map]
      by_cases e : q' = q
      · subst e
        rw [if_pos rfl]
        constructor
        · rintro ⟨⟨q2, c2⟩, hp, e2⟩
          by_cases e3 : q2 = q'
          · rw [if_pos e3] at e2
            have := (Prod.mk.inj e2).2
            omega
          · rw [if_neg e3] at e2
            exact absurd (Prod.mk.inj e2).1 e3
        · rintro ⟨h1, h2⟩
          refine ⟨_, hm, ?_⟩
          rw [if_pos rfl, h1]
      · rw [if_neg e, Nat.add_zero, ← h.mem]
        constructor
        · rintro ⟨⟨q2, c2⟩, hp, e2⟩
          by_cases e3 : q2 = q
          · rw [if_pos e3] at e2
            exact absurd ((Prod.mk.inj e2).1.symm.trans e3) e
          · rw [if_neg e3] at e2
            rw [← e2]
            exact hp
        · intro hp
          exact ⟨_, hp, if_neg e⟩
/-- all keys are values of a list -/
theorem Cnt.len {g : Nat → Nat} {ps : List (Nat × Nat)} {ks : List Nat} (h : Cnt g ps) (hk : ∀ q, 1 ≤ g q → q ∈ ks) : ps.length ≤ ks.length := by
  have := nodup_sub (ys := ks) h.nd fun x hx => by
    obtain ⟨⟨q, c⟩, hp, rfl⟩ := List.mem_map.mp hx
    obtain ⟨h1, h2⟩ := (h.mem q c).mp hp
    exact hk q (by omega)
  rwa [List.length_map] at this
/-- the keys in their order -/
def IsKeys (g : Nat → Nat) (ks : List Nat) : Prop := ks.Pairwise (· < ·) ∧ ∀ q, q ∈ ks ↔ 1 ≤ g q
theorem IsKeys.uniq {g : Nat → Nat} {ks ks' : List Nat} (h : IsKeys g ks) (h' : IsKeys g ks') : ks = ks' := ascN_eq h.1 h'.1 fun k => (h.2 k).trans (h'.2 k).symm
def prs (g : Nat → Nat) (ks : List Nat) : List (Nat × Nat) := ks.map fun q => (q, g q)
/-- a list of the pairs, ascending -/
theorem Cnt.sorted {g : Nat → Nat} {ps ys : List (Nat × Nat)} (h : Cnt g ps) (hp : ys.Perm ps) (hs : ys.Pairwise fun x y => ¬ (y.1 < x.1)) : IsKeys g (ys.map Prod.fst) ∧ ys = prs g (ys.map Prod.fst) := by
  have nd : (ys.map Prod.fst).Nodup := (hp.map Prod.fst).nodup_iff.mpr h.nd
  refine ⟨⟨?_, fun q => ?_⟩, ?_⟩
  · rw [List.pairwise_map]
    rw [List.nodup_iff_pairwise_ne, List.pairwise_map] at nd
    exact (hs.and nd).imp fun ⟨h1, h2⟩ => by omega
  · rw [List.mem_map]
    constructor
    · rintro ⟨⟨q', c⟩, hm, rfl⟩
      obtain ⟨h1, h2⟩ := (h.mem q' c).mp (hp.mem_iff.mp hm)
      show 1 ≤ g q'
      omega
    · intro hq
      exact ⟨(q, g q), hp.mem_iff.mpr ((h.mem q (g q)).mpr ⟨rfl, hq⟩), rfl⟩
  · unfold prs
    rw [List.map_map]
    conv => lhs; rw [← List.map_id ys]
    refine List.map_congr_left fun p hm => ?_
    obtain ⟨q, c⟩ := p
    obtain ⟨h1, h2⟩ := (h.mem q c).mp (hp.mem_iff.mp hm)
    show (q, c) = (q, g q)
    rw [h1]
def cntQ (f : Nat → Nat) (ms : List Nat) (q : Nat) : Nat := (ms.filter fun x => decide (f x = q)).length
theorem cntQ_perm {f : Nat → Nat} {ms ms' : List Nat} (h : ms.Perm ms') (q : Nat) : cntQ f ms q = cntQ f ms' q := (h.filter _).length_eq
theorem cntQ_app (f : Nat → Nat) (ms ms' : List Nat) (q : Nat) : cntQ f (ms ++ ms') q = cntQ f ms q + cntQ f ms' q := by
  unfold cntQ
  rw [List.filter_append, List.length_append]
theorem cntQ_const {f : Nat → Nat} {ms : List Nat} {q0 : Nat} (h : ∀ x ∈ ms, f x = q0) (q : Nat) : cntQ f ms q = if q = q0 then ms.length else 0 := by
  unfold cntQ
  by_cases e : q = q0
  · rw [if_pos e, List.filter_eq_self.mpr fun x hx => decide_eq_true (by rw [h x hx, e])]
  · rw [if_neg e, List.filter_eq_nil_iff.mpr fun x hx => by
      rw [decide_eq_true_eq, h x hx]
      exact fun z => e z.symm]
    rfl
theorem cntQ_pos {f : Nat → Nat} {ms : List Nat} {q : Nat} (h : 1 ≤ cntQ f ms q) : q ∈ ms.map f := by
  unfold cntQ at h
  obtain ⟨x, hx⟩ := List.exists_mem_of_length_pos h
  obtain ⟨h1, h2⟩ := List.mem_filter.mp hx
  rw [decide_eq_true_eq] at h2
  exact List.mem_map.mpr ⟨x, h1, h2⟩
end Wn
namespace Wn
open PySem PySem.Spec PyProof.Rows L2
theorem rem_pow (b n x k j : Nat) : rem (b ^ k) n x j = rem b n x (k * j) := by
  unfold rem
  rw [Nat.pow_mul]
theorem IsPer.pow {b n k c : Nat} (h : IsPer b n (k * c)) (hk : 1 ≤ k) (hc : 1 ≤ c) : IsPer (b ^ k) n c := by
  obtain ⟨h1, h2, h3⟩ := h
  refine ⟨hc, by rw [← Nat.pow_mul]; exact h2, fun j hj1 hj2 => ?_⟩
  rw [← Nat.pow_mul]
  exact h3 (k * j) (Nat.mul_pos hk hj1) ((Nat.mul_lt_mul_left hk).mpr hj2)
theorem restSum_rl (b n x k c : Nat) : restSum b n x k c = (rl (b ^ k) n x c).sum := by
  unfold restSum rl
  refine congrArg List.sum (List.map_congr_left fun i _ => ?_)
  rw [rem_pow]
theorem rest_shift (b n x k : Nat) : ∀ m, restSum b n (rem b n x k) k m + rem b n x 0 = restSum b n x k (m + 1)
  | 0 => by
    rw [restSum_succ]
    simp [restSum]
  | m + 1 => by
    rw [restSum_succ, restSum_succ b n x k (m + 1), ← rest_shift b n x k m, rem_rem, show k + k * m = k * (m + 1) by rw [Nat.mul_succ, Nat.add_comm]]
    omega
theorem rest_next {b n x k c : Nat} (h : IsPer b n (k * c)) : restSum b n (rem b n x k) k c = restSum b n x k c := by
  have h1 := rest_shift b n x k c
  rw [restSum_succ, show rem b n x (k * c) = rem b n x 0 from by have := rem_cyc (x := x) h 0; rwa [Nat.zero_add] at this] at h1
  omega
theorem rest_orb {b n x k c : Nat} (h : IsPer b n (k * c)) (hx : x < n) : ∀ i, restSum b n (rem b n x (k * i)) k c = restSum b n x k c
  | 0 => by rw [Nat.mul_zero, rem_zero hx]
  | i + 1 => by
    rw [Nat.mul_succ, ← rem_rem, rest_next h]
    exact rest_orb h hx i
theorem rest_mem {b n x k c r : Nat} (h : IsPer b n (k * c)) (hx : x < n) (hr : r ∈ rl (b ^ k) n x c) : restSum b n r k c = restSum b n x k c := by
  obtain ⟨i, _, e⟩ := mem_rl.mp hr
  rw [← e, rem_pow]
  exact rest_orb h hx i
theorem rest_bal {b n k c x : Nat} (h : bal b n k c = true) : restSum b n x k c % n = 0 := by
  unfold bal at h
  rw [decide_eq_true_eq, restSum_mod, Nat.one_mul] at h
  rw [restSum_mod, Nat.mul_mod, h, Nat.mul_zero, Nat.zero_mod]
/-- the sum of the pieces is nines times the sum of the remainders over n -/
theorem pcs_div {b n x k c : Nat} (hb : 2 ≤ b) (hk : 1 ≤ k) (hn : 1 ≤ n) (h : IsPer b n (k * c)) : ((pcs b n x k c).sum % (b ^ k - 1) = 0 ↔ restSum b n x k c % n = 0) ∧ (restSum b n x k c % n = 0 → (pcs b n x k c).sum / (b ^ k - 1) = restSum b n x k c / n) := by
  have e := pcs_all (b := b) (n := n) (x := x) (k := k) (c := c) (by omega) (by have := rem_cyc (x := x) h 0; rwa [Nat.zero_add] at this)
  have b2 : 2 ≤ b ^ k := Nat.le_trans (by simpa using hb) (Nat.pow_le_pow_right (by omega) hk)
  have b1 : 1 ≤ b ^ k - 1 := by omega
  generalize b ^ k - 1 = m at e b1
  generalize (pcs b n x k c).sum = S at e
  generalize restSum b n x k c = R at e
  have h1 : ∀ t, R = n * t → S = m * t := fun t z => by
    rw [z] at e
    have : n * S = n * (m * t) := by
      rw [e]
      exact Nat.mul_left_comm m n t
    exact Nat.eq_of_mul_eq_mul_left hn this
  have h2 : ∀ t, S = m * t → R = n * t := fun t z => by
    rw [z] at e
    have : m * R = m * (n * t) := by
      rw [← e]
      exact Nat.mul_left_comm n m t
    exact Nat.eq_of_mul_eq_mul_left b1 this
  refine ⟨⟨fun z => ?_, fun z => ?_⟩, fun z => ?_⟩
  · obtain ⟨t, ht⟩ := Nat.dvd_of_mod_eq_zero z
    rw [h2 t ht, Nat.mul_mod_right]
  · obtain ⟨t, ht⟩ := Nat.dvd_of_mod_eq_zero z
    rw [h1 t ht, Nat.mul_mod_right]
  · obtain ⟨t, ht⟩ := Nat.dvd_of_mod_eq_zero z
    rw [h1 t ht, ht, Nat.mul_div_cancel_left _ b1, Nat.mul_div_cancel_left _ hn]
/-! the members of the orbits of the least ones -/
def msQ (B n c i : Nat) : List Nat := ((List.range i).filter (topB B n c)).flatMap fun y => rl B n y c
theorem msQ_succ (B n c i : Nat) : msQ B n c (i + 1) = msQ B n c i ++ (if topB B n c i = true then rl B n i c else []) := by
  unfold msQ
  rw [List.range_succ, List.filter_append, List.flatMap_append]
  by_cases h : topB B n c i = true
  · rw [if_pos h, List.filter_cons, if_pos h]
    simp
  · rw [if_neg h, List.filter_cons, if_neg h]
    simp
theorem mem_msQ {B n c i r : Nat} (g : Nat.gcd B n = 1) (h : IsPer B n c) (hi : i ≤ n) : r ∈ msQ B n c i ↔ Met B n c i r := by
  rw [met_top g h hi]
  unfold msQ
  rw [List.mem_flatMap]
  constructor
  · rintro ⟨y, hy, hr⟩
    obtain ⟨h1, h2⟩ := List.mem_filter.mp hy
    exact ⟨y, List.mem_range.mp h1, h2, mem_rl.mp hr⟩
  · rintro ⟨y, h1, h2, h3⟩
    exact ⟨y, List.mem_filter.mpr ⟨List.mem_range.mpr h1, h2⟩, mem_rl.mpr h3⟩
theorem rl_nodup {B n c x : Nat} (g : Nat.gcd B n = 1) (h : IsPer B n c) (gx : Nat.gcd x n = 1) : (rl B n x c).Nodup := by
  unfold rl
  rw [List.nodup_iff_pairwise_ne, List.pairwise_map, List.pairwise_iff_getElem]
  intro u v hu hv huv e
  rw [List.getElem_range, List.getElem_range] at e
  rw [List.length_range] at hu hv
  have := rem_once g gx h hu hv e
  omega
theorem msQ_nodup {B n c : Nat} (g : Nat.gcd B n = 1) (h : IsPer B n c) : ∀ i, i ≤ n → (msQ B n c i).Nodup
  | 0, _ => by simp [msQ]
  | i + 1, hi => by
    rw [msQ_succ]
    by_cases ht : topB B n c i = true
    · rw [if_pos ht]
      have gi := (top_iff.mp ht).1
      refine List.nodup_append.mpr ⟨msQ_nodup g h i (by omega), rl_nodup g h gi, fun x hx y hy e => ?_⟩
      subst e
      obtain ⟨y, h1, h2, h3⟩ := (mem_msQ g h (by omega)).mp hx
      have back := orb_symm h (by omega) (mem_rl.mp hy)
      have := orb_trans h (by omega) h3 back
      have nt := (not_top g h (by omega) gi).mpr ⟨y, h1, h2, this⟩
      rw [nt] at ht
      cases ht
    · rw [if_neg ht, List.append_nil]
      exact msQ_nodup g h i (by omega)
theorem filt_len {xs ys : List Nat} {p : Nat → Bool} (hx : xs.Nodup) (hy : ys.Nodup) (h : ∀ r, r ∈ xs ↔ r ∈ ys) : (xs.filter p).length = (ys.filter p).length := by
  refine Nat.le_antisymm (nodup_sub (hx.filter _) fun r hr => ?_) (nodup_sub (hy.filter _) fun r hr => ?_)
  · obtain ⟨h1, h2⟩ := List.mem_filter.mp hr
    exact List.mem_filter.mpr ⟨(h r).mp h1, h2⟩
  · obtain ⟨h1, h2⟩ := List.mem_filter.mp hr
    exact List.mem_filter.mpr ⟨(h r).mpr h1, h2⟩
/-- in the end all that have no common divisor with n -/
theorem met_all {B n c r : Nat} (hn : 1 ≤ n) (g : Nat.gcd B n = 1) (h : IsPer B n c) : Met B n c n r ↔ r < n ∧ Nat.gcd r n = 1 := by
  constructor
  · rintro ⟨y, h1, h2, i, h3, rfl⟩
    exact ⟨rem_lt hn, rem_cop g h2 i⟩
  · rintro ⟨h1, h2⟩
    exact ⟨r, h1, h2, 0, h.1, rem_zero h1⟩
theorem cnt_all {B n c : Nat} {f : Nat → Nat} {ts : List Nat} (hn : 1 ≤ n) (g : Nat.gcd B n = 1) (h : IsPer B n c) (ht : ts.Nodup) (hm : ∀ r, r ∈ ts ↔ r < n ∧ Nat.gcd r n = 1) (q : Nat) : cntQ f (msQ B n c n) q = cntQ f ts q :=
  filt_len (msQ_nodup g h n (Nat.le_refl _)) ht fun r => ((mem_msQ g h (Nat.le_refl _)).trans (met_all hn g h)).trans (hm r).symm
end Wn
/-! counts from both ends; how many there are -/
namespace Wn
open PySem PySem.Spec PyProof.Rows L2
theorem cnt_sum {f : Nat → Nat} {ks : List Nat} (nd : ks.Nodup) : ∀ ms : List Nat, (∀ x ∈ ms, f x ∈ ks) → (ks.map fun q => cntQ f ms q).sum = ms.length
  | [], hh => by
    clear hh
    induction ks with
    | nil => rfl
    | cons k r ih =>
      rw [List.map_cons, List.sum_cons, ih (List.nodup_cons.mp nd).2]
      rfl
  | x :: ms, h => by
    have ih := cnt_sum nd ms fun y hy => h y (List.mem_cons_of_mem _ hy)
    have one : ∀ q, cntQ f (x :: ms) q = (if f x = q then 1 else 0) + cntQ f ms q := fun q => by
      unfold cntQ
      rw [List.filter_cons]
      by_cases e : f x = q
      · rw [if_pos (decide_eq_true e), if_pos e, List.length_cons, Nat.add_comm]
      · rw [if_neg (by simpa using e), if_neg e, Nat.zero_add]
    have split : ∀ l : List Nat, (l.map fun q => cntQ f (x :: ms) q).sum = (l.map fun q => if f x = q then 1 else 0).sum + (l.map fun q => cntQ f ms q).sum := fun l => by
      induction l with
      | nil => rfl
      | cons a r ih =>
        rw [List.map_cons, List.map_cons, List.map_cons, List.sum_cons, List.sum_cons, List.sum_cons, ih, one]
        omega
    have hit : ∀ l : List Nat, l.Nodup → (l.map fun q => if f x = q then 1 else 0).sum = if f x ∈ l then 1 else 0 := fun l nl => by
      induction l with
      | nil => rfl
      | cons a r ih =>
        obtain ⟨n1, n2⟩ := List.nodup_cons.mp nl
        rw [List.map_cons, List.sum_cons, ih n2]
        by_cases e : f x = a
        · rw [if_pos e, if_neg (by rw [e]; exact n1), if_pos (by rw [e]; simp)]
        · rw [if_neg e]
          by_cases m : f x ∈ r
          · rw [if_pos m, if_pos (by simp [m])]
          · rw [if_neg m, if_neg (by simp [m, e])]
    rw [split, hit ks nd, if_pos (h x (by simp)), ih, List.length_cons, Nat.add_comm]
/-- the remainder of the other end -/
theorem rem_neg {b n x i : Nat} (hx : 1 ≤ x) (hxn : x < n) (g : Nat.gcd b n = 1) (gx : Nat.gcd x n = 1) (hn : 2 ≤ n) : rem b n (n - x) i + rem b n x i = n := by
  have h1 : (rem b n (n - x) i + rem b n x i) % n = 0 := by
    unfold rem
    rw [← Nat.add_mod, ← Nat.add_mul, Nat.sub_add_cancel (by omega), Nat.mul_mod_right]
  have h2 := rem_lt (b := b) (n := n) (x := x) (i := i) (by omega)
  have h3 := rem_lt (b := b) (n := n) (x := n - x) (i := i) (by omega)
  have h4 : 1 ≤ rem b n x i := by
    rcases Nat.eq_zero_or_pos (rem b n x i) with z | z
    · have := rem_cop g gx i
      rw [z, Nat.gcd_zero_left] at this
      omega
    · exact z
  obtain ⟨t, ht⟩ := Nat.dvd_of_mod_eq_zero h1
  have : t = 1 := by
    rcases Nat.lt_or_ge t 2 with z | z
    · have : t ≠ 0 := fun z => by
        rw [z, Nat.mul_zero] at ht
        omega
      omega
    · have : n * 2 ≤ n * t := Nat.mul_le_mul_left _ z
      omega
  rw [this, Nat.mul_one] at ht
  exact ht
theorem rest_neg {b n x k : Nat} (hx : 1 ≤ x) (hxn : x < n) (g : Nat.gcd b n = 1) (gx : Nat.gcd x n = 1) (hn : 2 ≤ n) : ∀ c, restSum b n (n - x) k c + restSum b n x k c = n * c
  | 0 => by simp [restSum]
  | c + 1 => by
    have e1 := rest_neg (b := b) (k := k) hx hxn g gx hn c
    have e2 := rem_neg (b := b) (i := k * c) hx hxn g gx hn
    rw [restSum_succ, restSum_succ, Nat.mul_succ]
    omega
theorem rest_pos {b n x k c : Nat} (hx : 1 ≤ x) (hxn : x < n) (g : Nat.gcd b n = 1) (gx : Nat.gcd x n = 1) (hn : 2 ≤ n) (hc : 1 ≤ c) : 1 ≤ restSum b n x k c := by
  obtain ⟨c, rfl⟩ : ∃ d, c = d + 1 := ⟨c - 1, by omega⟩
  rw [restSum_succ]
  have h4 : 1 ≤ rem b n x (k * c) := by
    rcases Nat.eq_zero_or_pos (rem b n x (k * c)) with z | z
    · have := rem_cop g gx (k * c)
      rw [z, Nat.gcd_zero_left] at this
      omega
    · exact z
  omega
/-- the quotient of the other end -/
theorem quo_neg {b n x k c : Nat} (hx : 1 ≤ x) (hxn : x < n) (g : Nat.gcd b n = 1) (gx : Nat.gcd x n = 1) (hn : 2 ≤ n) (h : restSum b n x k c % n = 0) : restSum b n (n - x) k c / n + restSum b n x k c / n = c := by
  have e := rest_neg (b := b) (k := k) hx hxn g gx hn c
  obtain ⟨t, ht⟩ := Nat.dvd_of_mod_eq_zero h
  rw [ht] at e ⊢
  have hle : n * t ≤ n * c := by omega
  have htc : t ≤ c := Nat.le_of_mul_le_mul_left hle (by omega)
  have e2 : restSum b n (n - x) k c = n * (c - t) := by
    rw [Nat.mul_sub]
    omega
  rw [e2, Nat.mul_div_cancel_left _ (by omega), Nat.mul_div_cancel_left _ (by omega)]
  omega
theorem neg_cop {n x : Nat} (hx : x ≤ n) (g : Nat.gcd x n = 1) : Nat.gcd (n - x) n = 1 := by
  have h := Nat.gcd_dvd_left (n - x) n
  have h2 := Nat.gcd_dvd_right (n - x) n
  have h3 : Nat.gcd (n - x) n ∣ x := by
    have := Nat.dvd_sub h2 h
    rwa [show n - (n - x) = x by omega] at this
  have := Nat.dvd_gcd h3 h2
  rw [g] at this
  exact Nat.dvd_one.mp this
end Wn
namespace Wn
open PySem PySem.Spec PyProof.Rows L2
/-! list.count of flat items -/
theorem count_vals {y : V} : ∀ {ys : List V} {its : List Value}, Vals ys its → ys.all flatV = true → its.countP (eqU y) = ys.countP fun z => eqV z y
  | [], _, h, _ => by cases h; rfl
  | z :: ys, _, h, f => by
    cases h with
    | cons rz rt =>
      rw [List.all_cons, Bool.and_eq_true] at f
      rw [List.countP_cons, List.countP_cons, count_vals rt f.2, eqU_of rz f.1]
section
variable {X : Cx}
def rCount (K : PySem.W.Frag) : V → List V → Hp → VK → Prop := fun x xs H Q => ∃ (a : Addr) (ys : List V) (y : V), x = V.ref a ∧ xs = [y] ∧ SqL K H a ys ∧ flatV y = true ∧ ys.all flatV = true ∧ Q (.int ((ys.countP fun z => eqV z y : Nat) : Int)) H
theorem mt_count : MtR X "list.count" (rCount X.K) := by
  intro pins s σ H x xs v us Q I rx rxs h
  obtain ⟨a, ys, y, rfl, rfl, hs, fy, fys, q⟩ := h
  cases rx
  cases rxs with
  | cons ry rt =>
    rename_i uy ut
    cases rt
    obtain ⟨its, rv, ⟨⟨cls, dd, data, sl⟩, n, ho, hc, hdn, hd⟩, hlen⟩ := I.list hs
    simp only at hc hd
    subst hc hd
    refine call_meets PySem.F.slot_list_count ⟨_, ho, rfl⟩ PySem.F.entry_list_count (PySem.F.args_list_count_2 _ _)
      (SeqAt.list_countAt a its.toArray n dd sl uy (eqU y)) ⟨ho, fun u' hu' => mem_eqAt ry fy rv fys u' (by simpa using hu'), ?_⟩
    rw [← count_vals rv fys] at q
    exact ⟨.int (its.countP (eqU y) : Nat), H, I.tok _, ⟨_, rfl⟩, q⟩
variable {T : String} {name id : Str} {r : V → List V → Hp → VK → Prop} {o e : Expr} {es : List Expr} {to : TE} {t : TA} {apos cpos : Pos}
theorem pe_bmC {K' : PySem.W.Frag} {idn : String} {nm : Str} (pa : PlainAttrs T) (slot : Slot T nm idn) (hty : typeOf (.builtin idn) = pure (.type "method_descriptor")) (hm : MtR X idn r) (ho : PE X o to) (ha : PA X (e :: es) t) (hK : X.K = K')
    (hbase : attributeBase o nm X.env (eval o X.env) = eval o X.env := by rfl)
    (hfew : ((backTo cpos (starEach (e :: es) X.env)).all (fun x => !x.1) && (backToKw cpos (keywordEach [] X.env)).all (fun x => x.1.isSome)
      && decide ((e :: es).length + ([] : List Keyword).length + (if ([] : List Keyword).isEmpty then 0 else 1) < 30)) = true := by rfl)
    (hline : (apos.endLine == cpos.line) = true := by rfl) (hs : starEach (e :: es) X.env = (false, eval e X.env) :: starEach es X.env := by rfl) (hplain : (backTo cpos (starEach es X.env)).any (·.1) = false := by rfl) :
    PE X (.Call (.Attribute o nm apos) (e :: es) [] cpos) (tBM K' T r to t) := hK ▸ pe_bm pa slot hty hm ho ha hbase hfew hline hs hplain
end
end Wn
/-! errors of one's own, over any built-in one: made, kept as values, looked at -/
namespace Wn
open PySem PySem.Spec PyProof.Rows L2
/-! the first store to such an error -/
section
open PySem.W PySem.HandSPX Builtin Builtin.ObjectAttr
variable {prog : Program} {w : World} {A : Around} {E : Value → Shared → Prop} {s : Shared} {K : PySem.W.Frag} {C : Addr} {B : String} {bmB : List Value}
theorem osa_one {x t : Addr} {name : Str} {tk : Tok} {v : Value} {R : Result → Shared → Prop} (SF : StoreFacts B bmB "object.__setattr__" "object") (X : K.In s.heap) (hx : s.heap.get? x = some (PySem.W.excObj C t none .none))
    (hp : PySem.W.excOver K C bmB = true) (ht : PySem.W.takerIn K C name = some none) (hh : PySem.W.hasDictIn K C = true)
    (h : ∀ dx h' tk', (∀ b o, b ≠ x → s.heap.get? b = some o → h'.get? b = some o) → s.heap.objs.size ≤ dx → dx ≠ x → h'.get? x = some (PySem.W.excObj C t (some dx) .none) → h'.Ns1 dx (fun y => if y = name then some v else none) → R (.ok (.ret .none)) { s with heap := h', toks := tk' }) :
    codeAny (model prog w) A (.call (.builtin "object.__setattr__") ⟨[.ref x, .str name tk, v], []⟩) R s := by
  have hlt := Heap.lt_size hx
  have hne : s.heap.objs.size ≠ x := Nat.ne_of_gt hlt
  refine osa_openX (od := none) SF X ⟨hx, rfl, rfl, trivial⟩ hp ht fun b => ?_
  obtain ⟨cd, hc, hd⟩ := any_some hh
  refine wpAny_bind (wpAny_pure (wpAny_bind (instanceDict_exc hx (looks_clsIn X hc) hd ?_)))
  have e1 : (s.heap.push (dictOf [] 0)).get? x = some (PySem.W.excObj C t none .none) := Heap.get?_push_of_some _ hx
  obtain ⟨G, hG⟩ : ∃ G, G = (s.heap.push (dictOf [] 0)).update x (fun o => { o with dict := some s.heap.objs.size }) := ⟨_, rfl⟩
  have gx : G.get? x = some (PySem.W.excObj C t (some s.heap.objs.size) .none) := by
    rw [hG]
    exact Heap.get?_update_self _ e1 rfl
  have go : ∀ b, b ≠ x → G.get? b = (s.heap.push (dictOf [] 0)).get? b := fun b hb => by
    rw [hG]
    exact Heap.get?_update_ne _ _ _ _ hb
  have gd : G.Ns s.heap.objs.size (fun _ => none) := by
    refine ⟨_, #[], 0, (go _ hne).trans (Heap.get?_push_size _ rfl), rfl, fun e he => ?_, fun _ => rfl⟩
    exact absurd he (by simp)
  rw [← hG]
  show wpAny (model prog w) A.in1 (storeInDict s.heap.objs.size (.str name tk) name v) _ _ { s with heap := G }
  obtain ⟨hp0, g, d, tt, os⟩ := s
  refine store_in_new gd fun h' tk' hn hs => ?_
  refine h _ h' tk' (fun b o hb e => ?_) (Nat.le_refl _) hne ((hs.2 x hne.symm).trans gx) hn
  have hbs : b ≠ hp0.objs.size := Nat.ne_of_lt (Heap.lt_size e)
  exact (hs.2 b hbs).trans ((go b hb).trans (Heap.get?_push_of_some _ e))
end
/-- what the text says of an error's class: C, over the built-in B, with the field f and its own __init__ at fI -/
structure ErrC (K : PySem.W.Frag) (C fI : Addr) (f : Str) (B newId initId : String) (bmB : List Value) : Prop where
  F : ExcBaseFacts B newId initId bmB
  SF : StoreFacts B bmB "object.__setattr__" "object"
  ini : PySem.W.excInitIn K C bmB newId = true
  ov : PySem.W.excOver K C bmB = true
  hd : PySem.W.hasDictIn K C = true
  sa : PySem.W.findIn K (.ref C) "__setattr__" = some (some (.builtin "object.__setattr__"))
  exC : PySem.W.subIn K (.ref C) (.type "BaseException") = some true
  tyC : PySem.W.typeIn K (.ref C) = some (.type "type")
  kC : PySem.W.keepIn K (.ref C) = true
  tk : PySem.W.takerIn K C f = some none
  no : PySem.W.findIn K (.ref C) f = some none
  iC : PySem.W.findIn K (.ref C) "__init__" = some (some (.ref fI))
  tI : PySem.W.typeIn K (.ref fI) = some (.type "function")
  ga : PySem.W.findIn K (.ref C) "__getattribute__" = some (some (.builtin "BaseException.__getattribute__"))
  gg : PySem.W.findIn K (.ref C) "__getattr__" = some none
  ha : PySem.W.findIn K (.ref C) "__class__" = some (some (.builtin "object.__class__"))
  mr : PySem.W.mroIn K C (.type "object") = some true
section
variable {X : Cx} {pins : List (Addr × Obj)} {σ : L2.St} {H : Hp} {s : Shared} {a C fI dx : Addr} {f : Str} {y : V} {u : Value} {B newId initId : String} {bmB : List Value} {A : Around} {E : Value → Shared → Prop}
theorem ErrC.xf {K : PySem.W.Frag} (T : ErrC K C fI f B newId initId bmB) : XfC K C := ⟨T.ga, T.gg, T.exC, T.hd⟩
/-- self.f = y, the first one -/
theorem ostE {Q : Unit → Shared → Prop} (T : ErrC X.K C fI f B newId initId bmB) (I : Inv X pins σ H s) (e : H a = some (exo a C none)) (ry : RelV y u)
    (h : ∀ dx s', H dx = none → dx ≠ a → Inv X pins σ (upd (upd H dx (exd dx [(f, y)])) a (exo a C (some dx))) s' → Q () s') : wpAny (model X.prog X.w) A (setAttr (.ref a) f u) Q E s := by
  obtain ⟨t1, ho⟩ := exo_at I.hok e
  refine PySem.W.set_plain I.kIn (od := none) ⟨ho, rfl, rfl, trivial⟩ T.sa ?_
  refine osa_one (s := { s with toks := s.toks + 1 }) T.SF I.kIn ho T.ov T.tk T.hd fun d2 G tk2 keep lo ne gx gn => ?_
  have free2 : H d2 = none := I.hok.fresh lo
  have lt2 : ∀ {b : Addr} {o : Obj}, s.heap.get? b = some o → b ≠ d2 := fun z => Nat.ne_of_lt (Nat.lt_of_lt_of_le (Heap.lt_size z) lo)
  have nA : ∀ {b : Addr}, H b = none → b ≠ a := fun z w => by
    rw [w, e] at z
    cases z
  have un : Un X.fs [] H (upd (upd H d2 (exd d2 [(f, y)])) a (exo a C (some d2))) s.heap G := by
    constructor
    · exact fun b o q n _ _ => keep b o (nA n) q
    · exact fun b o q n _ _ => ⟨o.slots, keep b o (nA n) q⟩
    · intro b o q n _
      rw [upd_ne (nA n), upd_ne (lt2 q)]
      exact n
    · intro b o q _
      by_cases w : b = a
      · subst w
        exact ⟨_, gx⟩
      · exact ⟨o, keep b o w q⟩
    · intro b xs q
      rw [upd_ne (at_ne e q exo_tup), upd_ne (ne_of_none q free2)]
      exact q
    · intro b o v q
      rw [upd_ne (at_ne e q exo_frz), upd_ne (ne_of_none q free2)]
      exact q
    · intro b ps q
      refine ⟨#[], ?_⟩
      rw [upd_ne (at_ne e q exo_tbl), upd_ne (ne_of_none q free2), q]
      simp
  refine h d2 _ free2 ne (I.un (t' := tk2) un fun b o q => ?_)
  by_cases w : b = a
  · subst w
    rw [upd_same] at q
    cases q
    exact exo_ok gx
  rw [upd_ne w] at q
  by_cases w2 : b = d2
  · subst w2
    rw [upd_same] at q
    cases q
    exact exd_ok gn (relO_put (fs := []) ry fun g => True.intro)
  rw [upd_ne w2] at q
  refine (I.hok b o q).stay (fun c v hc z => keep c v ?_ z) (fun c hc => ?_) (fun c xs hc => ?_)
  · rcases hc with hc | hc
    · rw [hc]
      exact w
    · exact at_ne e hc exo_own
  · rw [upd_ne (at_ne e hc exo_own), upd_ne (ne_of_none hc free2)]
    exact hc
  · rw [upd_ne (at_ne e hc exo_tup), upd_ne (ne_of_none hc free2)]
    exact hc
/-- the built-in's __init__: nothing of it is told -/
theorem oinitE {us : List Value} {Q : Value → Shared → Prop} (T : ErrC X.K C fI f B newId initId bmB) (I : Inv X pins σ H s) (e : H a = some (exo a C none)) (hl : us.length ≤ sizeLine) (h : ∀ s', Inv X pins σ H s' → Q .none s') :
    wpAny (model X.prog X.w) A (call (.builtin initId) (.ref a :: us)) Q E s := by
  obtain ⟨t1, ho⟩ := exo_at I.hok e
  obtain ⟨nm, N, qn, bs, bm, hdct, sn, sub, ab, col, dd, k0, k1, k2, k3, k5, hC, hT⟩ := PySem.W.excInit_of I.kIn T.ini
  obtain ⟨hp, g, d, t, os⟩ := s
  refine wpAny_call (PySem.HandSPX.init_base T.F hT hC ho hl fun G t2 k gx => ?_)
  have J := I.write (t' := t) (x := a) (e := a) (o := exo a C none) (by rw [e]; exact True.intro) (.inl rfl) k ⟨_, gx⟩ (exo_ok gx)
  rw [show upd H a (exo a C none) = H from funext fun b => by
    by_cases w : b = a
    · rw [w, upd_same, e]
    · rw [upd_ne w]] at J
  exact h _ J
end
/-- W.__init__(self, ..), W one's own class or a built-in one -/
def tInitE (K : PySem.W.Frag) (C : Addr) (ta : TA) : TE := fun σ H Q => ta σ H fun vs H1 => ∃ (a : Addr) (ws : List V), vs = .ref a :: ws ∧ ws.length ≤ 1000 ∧ H1 a = some (exo a C none) ∧ Q .non H1
/-- self.f = e -/
def tOstE (K : PySem.W.Frag) (C : Addr) (f : Str) (to te : TE) : TS := fun D σ H => te σ H fun y H1 => to σ H1 fun x H2 => ∃ a : Addr, x = .ref a ∧ H2 a = some (exo a C none) ∧ ∀ dx, H2 dx = none → dx ≠ a → D.nx σ (upd (upd H2 dx (exd dx [(f, y)])) a (exo a C (some dx)))
section
variable {X : Cx} {o e : Expr} {es : List Expr} {to te : TE} {ta : TA} {f : Str} {p p' p1 p2 pos : Pos} {C fI W : Addr} {B newId initId : String} {bmB : List Value} {mc : Value} {wn : Str}
theorem call_initE {pl : Sem Bool} (T : ErrC X.K C fI f B newId initId bmB) (ha : PA X (e :: es) ta) {pins : List (Addr × Obj)} {s : Shared} {σ : L2.St} {H : Hp} {Q : VK} (I : Inv X pins σ H s) (h : tInitE X.K C ta σ H Q)
    (he : starEach (e :: es) X.env = (false, eval e X.env) :: starEach es X.env := by rfl) (hpl : (backTo pos (starEach es X.env)).any (·.1) = false := by rfl) :
    wpAny (model X.prog X.w) X.A (callWith pos (Value.builtin initId) [] (backTo pos (starEach (e :: es) X.env)) []) (EP X pins σ Q) X.xe s := by
  refine PyProof.Rows.callWith_method1 (thn (ha.run pos pins s σ H _ I h) fun us s1 ⟨vs, H1, I1, r1, a, ws, ev, hl, ea, q⟩ => ?_) he hpl
  subst ev
  cases r1 with
  | @cons _ u0 _ ur ra rw' =>
    obtain rfl : u0 = Value.ref a := ra
    have hlen : ur.length ≤ sizeLine := by
      rw [← Paired.length rw', sizeLine_eq]
      omega
    exact oinitE T I1 ea hlen fun s' J => ⟨.non, H1, J, rfl, q⟩
/-- a class of one's own: its name holds W, whose __init__ is the built-in's -/
theorem pe_initW {pl : Sem Bool} (T : ErrC X.K C fI f B newId initId bmB) (hg : Gl X wn) (hm : X.mg wn = some (.ref W)) (r : ClX.CRead X.K W mc) (at_ : PySem.W.findCls X.K (.ref W) mc "__init__" = some (.val (.builtin initId))) (hh : PySem.W.handedIn (.builtin initId) = true) (ha : PA X (e :: es) ta)
    (hc : eval (.Call (.Attribute (.Name wn p1) "__init__" p2) (e :: es) [] pos) X.env = (do
      let ov ← eval (.Name wn p1) X.env
      standAt p2.atName
      let (f, first) ← holding [ov] (getMethod ov "__init__" pl)
      callWith pos f first (backTo pos (starEach (e :: es) X.env)) (backToKw pos (keywordEach [] X.env))) := by rfl)
    (hdb : (wn == ("__debug__" : Str)) = false := by decide)
    (he : starEach (e :: es) X.env = (false, eval e X.env) :: starEach es X.env := by rfl) (hpl : (backTo pos (starEach es X.env)).any (·.1) = false := by rfl) :
    PE X (.Call (.Attribute (.Name wn p1) "__init__" p2) (e :: es) [] pos) (tInitE X.K C ta) := by
  refine ⟨fun pins s σ H Q I h => ?_⟩
  refine PySem.W.methodCall_KW (ld_glob I hg hm ?_ hdb) hc
  refine PySem.W.method_cls I.kIn r.ga ?_
  refine PySem.W.cls_value I.kIn r.rd at_ hh ?_
  show wpAny _ _ (callWith pos (Value.builtin initId) [] (backTo pos (starEach (e :: es) X.env)) []) _ _ _
  exact call_initE (pl := pl) T ha (I.tok _) h he hpl
end
end Wn
namespace Wn
open PySem PySem.Spec PyProof.Rows L2
/-! C(e): the error made by its own __init__, which keeps sp -/
section
variable {X : Cx} {e : Expr} {es : List Expr} {ta : TA} {f : Str} {p pos : Pos} {C fI : Addr} {B newId initId : String} {bmB : List Value}
theorem pmkE {CX : CXT} {x : Str} {k : Nat} {fd : FuncData} {ps : List Str} {sp : Sp} (T : ErrC X.K C fI f B newId initId bmB) (F1 : FnOk X.prog X.w X.K X.mg X.base CX k fI fd ps sp) (hr : Room (k + 1) X.A) (hb : Binds X.K fd ps []) (hx : Passes CX X (fun _ _ _ => False))
    (hg : Gl X x) (hm : X.mg x = some (.ref C)) (ha : PA X (e :: es) ta)
    (hdb : (x == ("__debug__" : Str)) = false := by decide) (he : starEach (e :: es) X.env = (false, eval e X.env) :: starEach es X.env := by rfl) (hpl : (backTo pos (starEach es X.env)).any (·.1) = false := by rfl) :
    PMk X (.Call (.Name x p) (e :: es) [] pos) (tMkO C sp [] ta) := by
  intro pins s σ H Q I h
  refine wpAny_Call_Name_kw (ld_glob I hg hm ?_ hdb)
  refine PySem.W.callWith_K (h₀ := X.base) I.ok.mod.kin T.kC (thn (ha.run pos pins s σ H _ I h) fun us s1 hh => ?_) he hpl
  obtain ⟨vs, H1, I1, r1, hz, q1⟩ := hh
  refine ⟨I1.kIn, ?_⟩
  show wpAny _ _ (call (.ref C) us) _ _ _
  obtain ⟨nm, N, qn, bs, bm, hdct, sn, sub, ab, col, dd, k0, k1, k2, k3, k5, hC, hT⟩ := PySem.W.excInit_of I1.kIn T.ini
  obtain ⟨h0, g, dr, tk, os⟩ := s1
  obtain ⟨a, haa⟩ : ∃ a, a = h0.objs.size + 1 := ⟨_, rfl⟩
  have lo : h0.objs.size ≤ a := by rw [haa]; exact Nat.le_succ _
  have fresh : H1 a = none := I1.hok.fresh lo
  obtain ⟨G, hG⟩ : ∃ G, G = (h0.push (PySem.W.kdv_tup us)).push (PySem.HandSPX.excO C h0.objs.size) := ⟨_, rfl⟩
  have keep : ∀ b o, h0.get? b = some o → G.get? b = some o := fun b o z => by
    rw [hG]
    exact Heap.get?_push_of_some _ (Heap.get?_push_of_some _ z)
  have gA : G.get? a = some (PySem.HandSPX.excO C h0.objs.size) := by
    rw [hG, haa]
    heap_get
  have I2 : Inv X pins σ (upd H1 a (exo a C none)) ⟨G, g, dr, tk, os⟩ := I1.laid (t' := tk) (a := a) (o := exo a C none) (h' := G) keep lo (exo_ok gA)
  have want := q1 a fresh
  have r2 : Vals (V.ref a :: (vs ++ [])) (Value.ref a :: us) := .cons rfl (by rw [List.append_nil]; exact r1)
  have cnt : (Value.ref a :: us ++ []).length = ps.length := by
    rw [← F1.len _ _ _ _ want, List.append_nil]
    exact r2.length.symm
  have b2 := hb ⟨G, g, dr, tk, os⟩ (Value.ref a :: us) I2.kIn cnt
  rw [List.append_nil] at b2
  have few : us.length ≤ sizeLine := by
    rw [← Paired.length r1, sizeLine_eq]
    omega
  refine wpAny_call (PySem.HandSPX.call_own T.F hT hC (PySem.W.looks_findIn I1.kIn T.iC) (fun self => PySem.W.bind_fn I1.kIn self T.tI) few ?_)
  rw [← hG, ← haa]
  refine codeAny_mono (F1.run _ X.stack _ _ ⟨Value.ref a :: us, []⟩ (Value.ref a :: us) _ _ (fun _ _ _ => False) (hr.make C us []) (I2.env0.make C us []) b2 r2 want) fun r s' back => ?_
  match r, back with
  | .error er, back => exact hx pins σ _ _ er s' I2 back
  | .ok .next, back => exact back.elim
  | .ok .brk, back => exact back.elim
  | .ok .cont, back => exact back.elim
  | .ok (.ret u), back =>
    obtain ⟨v, H2, os2, bare2, un2, hok2, rv, ev, d, fs, ea, ed, hd1, q2⟩ := back
    subst ev
    obtain ⟨h2, g2, d2, t2, os'⟩ := s'
    exact ⟨rv, mk_end (raises_own T.exC T.tyC) I1 lo keep un2 hok2 os2 bare2 ea ed hd1 q2⟩
end
/-! an error kept as a value: its class, its own dict -/
def ExV (cls : Value) (d : Option Addr) (a : Addr) : HO := .ext fun h => ∃ (oe : Obj) (vs : Array Value), h.get? a = some oe ∧ Zc cls d oe ∧ oe.data = .fields vs
theorem exV_ok {P : Program} {w : World} {H : Hp} {h : Heap} {a : Addr} {cls : Value} {d : Option Addr} {oe : Obj} {vs : Array Value} (e : h.get? a = some oe) (z : Zc cls d oe) (hd : oe.data = .fields vs) : ObjOk P w H h a (ExV cls d a) :=
  ⟨⟨oe, vs, e, z, hd⟩, ⟨oe, e⟩, fun _ _ ⟨o, v, q, r⟩ k => ⟨o, v, k o q, r⟩⟩
theorem exV_at {P : Program} {w : World} {H : Hp} {h : Heap} {a : Addr} {cls : Value} {d : Option Addr} (hok : HOk P w H h) (e : H a = some (ExV cls d a)) : ∃ (oe : Obj) (vs : Array Value), h.get? a = some oe ∧ Zc cls d oe ∧ oe.data = .fields vs := by
  have x : ObjOk P w H h a (.ext fun h => ∃ (oe : Obj) (vs : Array Value), h.get? a = some oe ∧ Zc cls d oe ∧ oe.data = .fields vs) := hok a _ e
  exact x.1
section
variable {X : Cx} {pins : List (Addr × Obj)} {σ σ0 : L2.St} {H H0 : Hp} {s s0 : Shared} {a : Addr} {o : HO}
/-- what stands there, and was not there before, is tracked from now on -/
theorem track (I : Inv X pins σ H s) (I0 : Inv X pins σ0 H0 s0) (n0 : s0.heap.get? a = none) (hn : H a = none) (new : ObjOk X.prog X.w (upd H a o) s.heap a o) : Inv X pins σ (upd H a o) s := by
  have nb : ∀ {b : Addr} {u : Obj}, s0.heap.get? b = some u → b ≠ a := fun z w => by
    rw [w, n0] at z
    cases z
  have nt : ∀ {b : Addr} {u : HO}, H b = some u → b ≠ a := fun z => ne_of_none z hn
  refine ⟨I.ok, I.os, I.bare, ⟨I.base.keep, I.base.slot, fun b u z n hx => ?_, I.base.there, fun b xs z => ?_, fun b u v z => ?_, fun b ps z => ?_⟩, I.loc, I.cell, ?_, fun x c z => ?_, fun p hp => ?_, fun b u z => ?_, I.len⟩
  · obtain ⟨u', z'⟩ := I0.base.there b u z hx
    rw [upd_ne (nb z')]
    exact I.base.free b u z n hx
  · have := I.base.tups b xs z
    rw [upd_ne (nt this)]
    exact this
  · have := I.base.frzs b u v z
    rw [upd_ne (nt this)]
    exact this
  · obtain ⟨more, this⟩ := I.base.tbls b ps z
    exact ⟨more, by rw [upd_ne (nt this)]; exact this⟩
  · obtain ⟨m, hm, _⟩ := I0.loc
    obtain ⟨ob, _, _, e, _⟩ := hm
    rw [upd_ne (nb e)]
    exact I.free
  · obtain ⟨v, ob, e, _⟩ := I0.cell x c z
    rw [upd_ne (nb e)]
    exact I.freeC x c z
  · obtain ⟨h1, h2, h3⟩ := I.pin p hp
    exact ⟨h1, by rw [upd_ne (nb (I0.pin p hp).1)]; exact h2, h3⟩
  · by_cases w : b = a
    · subst w
      rw [upd_same] at z
      cases z
      exact new
    · rw [upd_ne w] at z
      exact (I.hok b u z).stay (fun c v hc q => q) (fun c hc => by rw [upd_ne (nt hc)]; exact hc) fun c xs hc => by rw [upd_ne (nt hc)]; exact hc
end
/-- C(e) as a value -/
def tVal (t : L2.St → Hp → XK → Prop) : TE := fun σ H Q => t σ H fun cls d H' => ∀ a, H' a = none → Q (.ref a) (upd H' a (ExV cls d a))
theorem pe_mkV {X : Cx} {e : Expr} {t : L2.St → Hp → XK → Prop} (he : PMk X e t) : PE X e (tVal t) := by
  refine ⟨fun pins s σ H Q I h => thn (he pins s σ H _ I h) fun u s1 hh => ?_⟩
  obtain ⟨a, oe, vs, sI, H', cls, d, eu, J, keep, n0, ha, hz, hd, h1, na, os, ag, r, q⟩ := hh
  have J1 := J.landed (B := sI.heap) (fun _ _ z _ => z) keep (Heap.UpToSlots.of_keeps keep) os ag
  subst eu
  exact ⟨.ref a, _, track J1 J n0 na (exV_ok ha hz hd), rfl, q a na⟩
/-! its field, its class -/
def tFldE (K : PySem.W.Frag) (f : Str) (te : TE) : TE := fun σ H Q => te σ H fun x H1 => ∃ (a C d : Addr) (fs : List (Str × V)) (v : V), x = .ref a ∧ XfC K C ∧ PySem.W.findIn K (.ref C) f = some none ∧ H1 a = some (ExV (.ref C) (some d) a) ∧ H1 d = some (.xd fs) ∧ fs.lookup f = some v ∧ Q v H1
theorem pe_fldE {X : Cx} {e : Expr} {te : TE} {pos : Pos} {n : Str} (he : PE X e te) (hb : attributeBase e n X.env (eval e X.env) = eval e X.env := by rfl) : PE X (.Attribute e n pos) (tFldE X.K n te) := by
  refine ⟨fun pins s σ H Q I h => attr_of hb (thn (he.run pins s σ H _ I h) fun u s1 hh => ?_)⟩
  obtain ⟨x, H1, I1, rx, a, C, d, fs, v, ex, T, hno, ea, ed, l, q⟩ := hh
  subst ex
  obtain rfl : u = Value.ref a := rx
  obtain ⟨oe, vs, ha, hz, hd⟩ := exV_at I1.hok ea
  have hx : ObjOk X.prog X.w H1 s1.heap d (.xd fs) := I1.hok d _ ed
  obtain ⟨mA, hns, hr⟩ := hx
  obtain ⟨od, ho, hl⟩ := lookIn_ns hns
  obtain ⟨u, hu, ru⟩ := RelO.some_of (v := v) (o := mA n) (by rw [← l]; exact hr n)
  have J : PySem.W.InstAt s1.heap a oe C (some od) := by
    refine ⟨ha, hz.1, ?_, ?_⟩
    · unfold PySem.W.notCls
      rw [hd]
    · rw [hz.2]
      exact ho
  exact PySem.HandSPX.exc_get I1.kIn J T.ga T.gg T.exC (PySem.W.findObj_own T.hdC hno rfl (by rw [hl, hu])) (handed_of ru) ⟨v, H1, I1.tok _, ru, q⟩
end Wn
/-! errors caught and kept; isinstance of such -/
namespace Wn
open PySem PySem.Spec PyProof.Rows L2
/-- what isinstance asks of the class C of an error -/
structure IsC (K : PySem.W.Frag) (C : Addr) : Prop where
  cl : (PySem.W.clsIn K C).isSome = true
  ga : PySem.W.findIn K (.ref C) "__getattribute__" = some (some (.builtin "BaseException.__getattribute__"))
  gg : PySem.W.findIn K (.ref C) "__getattr__" = some none
  exC : PySem.W.subIn K (.ref C) (.type "BaseException") = some true
  ha : PySem.W.findIn K (.ref C) "__class__" = some (some (.builtin "object.__class__"))
  hn : PySem.W.specialIn K (.builtin "object.__class__") "__get__" = some (some (.builtin "getset_descriptor.__get__"))
  ht : PySem.W.takesIn K (.builtin "object.__class__") = some true
  mr : PySem.W.mroIn K C (.type "object") = some true
def rIsV (K : PySem.W.Frag) : List V → Hp → VK → Prop := fun xs H Q => ∃ (a C d : Addr) (fs : List (Str × V)) (c : V) (cv : Value) (b : Bool), xs = [.ref a, c] ∧ IsC K C ∧ H a = some (ExV (.ref C) (some d) a) ∧ H d = some (.xd fs) ∧ (∀ u, RelV c u → u = cv) ∧ PySem.W.kitOne K (.ref C) cv = some b ∧ Q (.bl b) H
theorem call_isV {X : Cx} : CallR X (.builtin "isinstance") (rIsV X.K) := by
  intro pins s σ H xs us Q I r h
  obtain ⟨a, C, d, fs, c, cv, b, rfl, T, ea, ed, hcv, e, q⟩ := h
  obtain ⟨oe, vs, ha, hz, hd⟩ := exV_at I.hok ea
  have hx : ObjOk X.prog X.w H s.heap d (.xd fs) := I.hok d _ ed
  obtain ⟨mA, hns, hr⟩ := hx
  obtain ⟨od, ho, hl⟩ := lookIn_ns hns
  have J : PySem.W.InstAt s.heap a oe C (some od) := by
    refine ⟨ha, hz.1, ?_, ?_⟩
    · unfold PySem.W.notCls
      rw [hd]
    · rw [hz.2]
      exact ho
  cases r with
  | cons rx rr =>
    cases rr with
    | cons rt rr =>
      cases rr
      cases rx
      have ec := hcv _ rt
      subst ec
      exact PySem.W.kia_one (PySem.W.kitx_exc T.cl T.ga T.gg T.exC T.ha T.hn T.ht T.mr) I.kIn J e (fun z => nomatch z) fun tk => ⟨.bl b, H, I.kept (t' := tk) fun _ _ z => z, rfl, q⟩
/-! try: body, except (A, B, C) as n: m = n; what was caught is kept in m -/
/-- what the three names of a tuple of classes hold -/
structure Names3 (X : Cx) (x1 x2 x3 : Str) (c1 c2 c3 : Addr) : Prop where
  n1 : Gl X x1 ∧ (x1 == ("__debug__" : Str)) = false ∧ X.mg x1 = some (.ref c1)
  n2 : Gl X x2 ∧ (x2 == ("__debug__" : Str)) = false ∧ X.mg x2 = some (.ref c2)
  n3 : Gl X x3 ∧ (x3 == ("__debug__" : Str)) = false ∧ X.mg x3 = some (.ref c3)
def wKeep (K : PySem.W.Frag) (cs : List Value) (i j : Nat) (D : Ends) : WX := fun cls d σ H =>
  PySem.W.exmAny K cls cs = some true ∧ ∀ a, H a = none → D.nx ((σ.set j (some (.ref a))).set i none) (upd H a (ExV cls d a))
theorem flying_keep {B h h' : Heap} {l : List Env} {a : Addr} {Z : Obj → Prop} (k : ∀ b o, h.get? b = some o → h'.get? b = some o) (f : PySem.HandSPX.FlyingZ B l a Z h) : PySem.HandSPX.FlyingZ B l a Z h' := by
  obtain ⟨f1, f2, f3, oe, vs, T, oT, ts, e1, e2, e3, e4, e5, e6, e7, e8, e9⟩ := f
  exact ⟨fun b o z => k b o (f1 b o z), f2, Heap.FunFrames.of_keeps (fun b o z _ => ⟨o, k b o z, rfl⟩) f3, oe, vs, T, oT, ts, k _ _ e1, e2, e3, e4, e5, e6, k _ _ e7, e8, e9⟩
section
variable {X : Cx} {x1 x2 x3 n m : Str} {c1 c2 c3 : Addr} {i j : Nat} {body : List Stmt} {q1 q2 q3 qt qm qn pa pos pos' : Pos} {kt : Nat} {tb : WX → TS}
theorem ps_try_keep (hs : X.stack = X.env :: X.outer) (hf : X.env.frame = some X.env.locals) (hN : X.N.Nodup) (hi : X.N[i]? = some n) (hj : X.N[j]? = some m) (hij : i ≠ j) (hln : X.env.kindOf n = some .local) (hlm : X.env.kindOf m = some .local) (hc : Names3 X x1 x2 x3 c1 c2 c3)
    (hb : ∀ (W : WX) (pn : List (Addr × Obj)) (xe : Value → Shared → Prop), Takes (X.tr pn xe) W → PassesOwn (model X.prog X.w) X.A X.env xe → PSs (X.tr pn xe) body (tb W))
    (hsw : swapsWith (.Name n qn) (some (.Name m qm)) pa.line X.env = pure false := by rfl) (hdn : (n == ("__debug__" : Str)) = false := by decide) (hcn : (n == ("__classdict__" : Str)) = false := by decide) :
    PS X (.Try body [.ExceptHandler (some (.Tuple [.Name x1 q1, .Name x2 q2, .Name x3 q3] kt qt)) (some n) [.Assign [.Name m qm] (.Name n qn) pa] pos'] [] [] pos) (fun D σ H => tb (wKeep X.K [.ref c1, .ref c2, .ref c3] i j D) D σ H) := by
  refine ⟨fun pins s σ H D I h => ?_⟩
  have ok := I.ok
  have hfr : X.A.frames = some (X.env :: X.outer) := by rw [ok.frames, hs]
  have hloc : Loc X.env.scope n := .inl hln
  have hlocm : Loc X.env.scope m := .inl hlm
  refine wpAny_Try_except ?_
  refine wpAny_mono ((hb (wKeep X.K [.ref c1, .ref c2, .ref c3] i j D) (X.pn ++ pins) (fun e s₁ => wpAny (model X.prog X.w) X.A (noteFrame e X.env) (fun _ s₂ => wpAny (model X.prog X.w) X.A (setFlight e none) (fun _ s₃ =>
    wpAny (model X.prog X.w) X.A (handleBy e X.env [.ExceptHandler (some (.Tuple [.Name x1 q1, .Name x2 q2, .Name x3 q3] kt qt)) (some n) [.Assign [.Name m qm] (.Name n qn) pa] pos']) (SP X pins D) X.xe s₃) X.xe s₂) X.xe s₁) (fun u s' xx => ?_) PassesOwn.looking).run [] s σ H D (I.toTry _) h) (fun f s1 hsp => ?_) (fun e s1 he => he)
  · obtain ⟨a, B, sI, pins', σ', H', cls, d, rfl, J', nb, up, sky, na, os, ag, hb1, hyes⟩ := xx
    have J : Inv X pins σ' H' sI := J'.ofTry ok
    have sky2 : Sky B (X.env :: X.outer) a (Zc cls d) X.env.locals s'.heap := by
      rw [← hs]
      exact sky
    show wpAny (model X.prog X.w) X.A (noteFrame (.ref a) X.env) _ _ _
    refine Sky.land Zc.steady hfr hf sky2 fun h3 fl3 up3 => ?_
    have J3 : Inv X pins σ' H' { s' with heap := h3 } := J.landed nb fl3.1 (up.trans up3) os ag
    obtain ⟨oe3, vs3, he3, hz3, hd3⟩ := fl3.there
    have nfr : a ∉ frs (X.env :: X.outer) := fun hm => by
      obtain ⟨_, o', e', hnf⟩ := fl3.2.2.1.mem hm
      rw [he3] at e'
      cases e'
      exact hnf _ hd3
    have nL : a ≠ X.env.locals := fun z => nfr (List.mem_filterMap.mpr ⟨X.env, List.mem_cons_self, by rw [hf, z]⟩)
    have nF : a ∉ X.fs := fun hm => by
      obtain ⟨e, he, q⟩ := List.mem_filterMap.mp hm
      exact nfr (List.mem_filterMap.mpr ⟨e, List.mem_cons_of_mem _ he, q⟩)
    have n0 : sI.heap.get? a = none := by
      cases z : sI.heap.get? a with
      | none => rfl
      | some o =>
        have := nb a o z (by rw [hs]; exact nfr)
        rw [fl3.2.1] at this
        cases this
    have S3 := J3.suite he3 hd3 na nL nF
    refine wpAny_handleBy_cons (codeAny_handlers_test ?_) (by intro q; cases q)
    have LT : PySem.W.Looks (model X.prog X.w) h3 (typeOf (.ref a)) cls := fun A Q E s k q => wpAny_typeOf_ref (k _ _ he3) (by rw [hz3.1]; exact q)
    refine wpAny_Tuple ?_
    refine wpAny_items_cons (ld_glob (X := X.suite a ((a, oe3) :: (X.pn ++ pins))) S3 hc.n1.1 hc.n1.2.2 ?_ hc.n1.2.1)
    refine wpAny_items_cons (ld_glob (X := X.suite a ((a, oe3) :: (X.pn ++ pins))) S3 hc.n2.1 hc.n2.2.2 ?_ hc.n2.2.1)
    refine wpAny_items_cons (ld_glob (X := X.suite a ((a, oe3) :: (X.pn ++ pins))) S3 hc.n3.1 hc.n3.2.2 ?_ hc.n3.2.1)
    refine wpAny_items_nil ⟨by size_fits, ?_⟩
    obtain ⟨G, hG⟩ : ∃ G, G = h3.push { cls := .type "tuple", data := .seq [.ref c1, .ref c2, .ref c3].toArray } := ⟨_, rfl⟩
    have kp : ∀ b o, h3.get? b = some o → G.get? b = some o := fun _ _ z => by
      rw [hG]
      exact Heap.get?_push_of_some _ z
    have gt : G.get? h3.objs.size = some { cls := .type "tuple", data := .seq [.ref c1, .ref c2, .ref c3].toArray } := by
      rw [hG]
      exact Heap.get?_push_size h3 rfl
    rw [← hG]
    refine (PySem.W.exm_tup3 (M := model X.prog X.w) (J3.kIn.keeps kp) (LT.keeps kp) gt hb1).here ?_
    have fl4 := flying_keep kp fl3
    have upG : h3.UpToSlots G := Heap.UpToSlots.of_keeps kp
    refine codeAny_handlers_suite_as ?_
    refine PySem.HandSPX.lands_againZ fl4 fun h4 fl5 up4 => ?_
    have J4 : Inv X pins σ' H' { s' with heap := h4 } := J.landed nb fl5.1 (((up.trans up3).trans upG).trans up4) os ag
    obtain ⟨oe4, vs4, he4, hz4, hd4⟩ := fl5.there
    have S4 := J4.suite he4 hd4 na nL nF
    refine store_ok (X := X.suite a ((a, oe4) :: (X.pn ++ pins))) (v := .ref a) S4 hN hi hloc rfl (fun s5 S5 => ?_) (.inr hln)
    have hp : PSs (X.suite a ((a, oe4) :: (X.pn ++ pins))) [.Assign [.Name m qm] (.Name n qn) pa] (tSeq (tAsg (tVar i) (gName j)) tNext) :=
      pss_cons (ps_set (X := X.suite a ((a, oe4) :: (X.pn ++ pins))) hN hj hlocm (pe_var (X := X.suite a ((a, oe4) :: (X.pn ++ pins))) hi (.inl hln) hdn hcn) hsw (.inr hlm)) pss_nil
    have hlen : i < σ'.length := by
      rw [J4.len]
      exact (List.getElem?_eq_some_iff.mp hi).1
    refine wpAny_mono (hp.run [] s5 _ H' { nx := fun σ6 H6 => H6 = H' ∧ σ6 = (σ'.set i (some (.ref a))).set j (some (.ref a)), rt := fun _ _ => False } S5 ⟨_, List.getElem?_set_self hlen, rfl, rfl⟩) (fun f s6 hsp => ?_) (fun _ _ z => False.elim z)
    cases f with
    | next =>
      obtain ⟨σ6, H6, S6, rfl, rfl⟩ := hsp
      have gA := (S6.pin (a, oe4) (List.mem_append_left _ List.mem_cons_self)).1
      have J6 := track (S6.unsuite ok) J n0 na (exV_ok (cls := cls) (d := d) gA hz4 hd4)
      refine gone_ok J6 hN hi hln fun s7 J7 => ⟨_, _, J7, ?_⟩
      have e1 : (((σ'.set i (some (V.ref a))).set j (some (V.ref a))).set i none) = ((σ'.set j (some (V.ref a))).set i none) := by
        rw [List.set_comm _ _ hij, List.set_set]
      rw [e1]
      exact hyes a na
    | brk =>
      obtain ⟨_, _, _, z⟩ := hsp
      exact False.elim z
    | cont =>
      obtain ⟨_, _, _, z⟩ := hsp
      exact False.elim z
    | ret u =>
      obtain ⟨_, _, _, _, _, z⟩ := hsp
      exact False.elim z
  · cases f with
    | next =>
      obtain ⟨σ', H', J', q⟩ := hsp
      exact wpAny_execs_nil ⟨σ', H', J'.ofTry ok, q⟩
    | brk =>
      obtain ⟨σ', H', J', q⟩ := hsp
      exact ⟨σ', H', J'.ofTry ok, q⟩
    | cont =>
      obtain ⟨σ', H', J', q⟩ := hsp
      exact ⟨σ', H', J'.ofTry ok, q⟩
    | ret u =>
      obtain ⟨v, σ', H', J', r, q⟩ := hsp
      exact ⟨v, σ', H', J'.ofTry ok, r, q⟩
end
end Wn
/-! a lambda handed to a def that calls it, without a parameter or with one that has a written default -/
namespace Wn
open PySem PySem.Spec PyProof.Rows L2 LamX
def clos (X : Cx) (scope : Scope) : List (Str × Addr) := cloFrom X.env.cells scope.names []
abbrev lamO (X : Cx) (params : Arguments) (body : Expr) (scope : Scope) (dV doc pm : Value) (c' : Addr) (ctv : Value) : Obj :=
  PySem.W.kdv_obj "<lambda>" (X.env.qual ++ "<lambda>") params (.expr body) scope (clos X scope) dV doc pm c' ctv
/-- the lambda's names: no cell of its own; its own parameter is no name of the def around -/
structure LamD (N : List Str) (sc scope : Scope) : Prop where
  kind : scope.kind = .function
  co : scope.isCoroutine = false
  gen : scope.isGenerator = false
  own : ∀ y ∈ scope.names, y.2 ≠ .cell ∧ (y.2 = .local → y.1 ∉ N)
  free : ∀ y ∈ scope.names, y.2 = .free → sc.names.lookup y.1 = some .cell ∨ sc.names.lookup y.1 = some .free
def lamDB (N : List Str) (sc scope : Scope) : Bool :=
  decide (scope.kind = .function) && !scope.isCoroutine && !scope.isGenerator && scope.names.all fun y => !decide (y.2 = .cell) && (!decide (y.2 = .local) || !decide (y.1 ∈ N)) && (!decide (y.2 = .free) || decide (sc.names.lookup y.1 = some .cell) || decide (sc.names.lookup y.1 = some .free))
theorem lamD_by {N : List Str} {sc scope : Scope} (h : lamDB N sc scope = true) : LamD N sc scope := by
  unfold lamDB at h
  simp only [Bool.and_eq_true, Bool.or_eq_true, Bool.not_eq_true', decide_eq_true_eq, decide_eq_false_iff_not, List.all_eq_true] at h
  obtain ⟨⟨⟨h1, h2⟩, h3⟩, h4⟩ := h
  refine ⟨h1, h2, h3, fun y hy => ⟨(h4 y hy).1.1, fun e => ?_⟩, fun y hy e => ?_⟩
  · rcases (h4 y hy).1.2 with z | z
    · exact absurd e z
    · exact z
  · rcases (h4 y hy).2 with (z | z) | z
    · exact absurd e z
    · exact .inl z
    · exact .inr z
theorem LamD.has {X : Cx} {scope : Scope} (L : LamD X.N X.env.scope scope) (ok : X.Ok) : ∀ y ∈ scope.names, y.2 = .free → ∃ c, X.env.cells.lookup y.1 = some c := fun y hy e =>
  (L.free y hy e).elim (fun k => ok.has _ (.inl k)) (fun k => ok.has _ (.inr k))
section
variable {X : Cx} {pins : List (Addr × Obj)} {σ : L2.St} {H : Hp} {s : Shared}
/-- the function is made: its code object is new, or found in the table -/
theorem mk_tail {M : Model} {A : Around} {T : List (Addr × Str)} {c P : Addr} {params : Arguments} {body : Expr} {scope : Scope} {pos : Pos} {dV : Value} {E : Value → Shared → Prop} {Q : Value → Shared → Prop} (I : Inv X pins σ H s) (TB : TabB X.base X.mg c P) (hcode : X.env.code = .ref c)
    (hm : (P, X.env.qual ++ "<lambda>") ∈ T) (hu : ∀ p ∈ T, p.1 = P → p.2 = X.env.qual ++ "<lambda>") (hT : Tabs T H) (hfree : ∀ y ∈ scope.names, y.2 = .free → ∃ c, X.env.cells.lookup y.1 = some c)
    (h : ∀ (f c' : Addr) (doc pm ctv : Value) (H1 : Hp) (s' : Shared), Inv X pins σ H1 s' → ExtN H H1 → Tabs T H1 → (∀ b o, b ≠ P → s.heap.get? b = some o → s'.heap.get? b = some o) → (∀ b, H b = none → b < s.heap.objs.size → H1 b = none) →
      s'.heap.get? f = some (lamO X params body scope dV doc pm c' ctv) → H1 f = none → f ∉ frs X.stack → H1 c' = some (CodeO c' (X.env.qual ++ "<lambda>")) → Q (.ref f) s') :
    wpAny M A (makeTail "<lambda>" (X.env.qual ++ "<lambda>") params (.expr body) scope X.env dV .none none pos pos.line) Q E s := by
  obtain ⟨ps, hP, ht, ha⟩ := hT _ hm
  have bP : s.heap.BuiltinsAt X.mg P := TB.bm.keeps I.bk
  have gP : s.heap.get? P = some { cls := .none, data := .fields ps } := I.hok P _ hP
  have off : ∀ f, s.heap.objs.size ≤ f → f ∉ frs X.stack := fun f hf z => by
    rcases List.mem_cons.mp (I.stkSub _ z) with e | e
    · have h1 := I.lt
      rw [← e] at h1
      exact Nat.lt_irrefl _ (Nat.lt_of_lt_of_le h1 hf)
    · exact I.nofs hf e
  cases hc : codeAmong pos ps.toList with
  | some cv =>
    obtain ⟨c', e, hco⟩ := ha pos cv hc
    subst e
    refine PySem.W.kdv_makeTailHit (mg := X.mg) (c := c) (P := P) (ps := ps) (closure_ok hfree) I.ok.glob (I.mod.glob.keeps I.bk) hcode (TB.code.keeps I.bk) gP ht hc bP fun ctv doc h' tk hx hsz => ?_
    have I1 : Inv X pins σ H { s with heap := h'.push (lamO X params body scope dV doc ((X.mg "__name__").getD .none) c' ctv), toks := tk } := I.kept fun b o e => Heap.get?_push_of_some _ (hx b o e)
    exact h h'.objs.size c' doc ((X.mg "__name__").getD .none) ctv H _ I1 (ExtN.refl H) hT (fun b o _ e => Heap.get?_push_of_some _ (hx b o e)) (fun b z _ => z) (Heap.get?_push_size _ rfl) (I.hok.fresh hsz) (off _ hsz) hco
  | none =>
    refine PySem.W.kdv_makeTail (mg := X.mg) (c := c) (P := P) (ps := ps) (closure_ok hfree) I.ok.glob (I.mod.glob.keeps I.bk) hcode (TB.code.keeps I.bk) gP ht hc TB.gP bP fun c' ctv doc h' tk hx hge hlt hrec htb => ?_
    obtain ⟨c2, oc, vs, t, e2, hoc, hd, hv⟩ := hrec
    cases e2
    have grow : s.heap.objs.size ≤ h'.objs.size := Nat.le_trans hge (Nat.le_of_lt hlt)
    have nC : H c' = none := I.hok.fresh hge
    obtain ⟨F0, hF0⟩ : ∃ F0, F0 = lamO X params body scope dV doc ((X.mg "__name__").getD .none) c' ctv := ⟨_, rfl⟩
    have I1 := inv_table (t' := tk) (more := #[rawInt pos.line, rawInt pos.col, .ref c']) (h' := h'.push F0) I hP
      (fun b o hb e => Heap.get?_push_of_some _ (hx b o hb e)) (Heap.get?_push_of_some _ htb) hge ⟨oc, vs, t, Heap.get?_push_of_some _ hoc, hd, hv⟩
    have far : ∀ {b : Addr} {o : HO}, H b = some o → (∀ ps, o ≠ .tbl ps) → b ≠ P := fun e n z => by
      rw [z, hP] at e
      exact n ps (Option.some.inj e).symm
    have ext : ExtN H (upd (upd H P (.tbl (ps ++ #[rawInt pos.line, rawInt pos.col, .ref c']))) c' (CodeO c' (X.env.qual ++ "<lambda>"))) := fun b o e n => by
      rw [upd_ne (ne_of_none e nC), upd_ne (far e n)]
      exact e
    have lst : (ps ++ #[rawInt pos.line, rawInt pos.col, .ref c']).toList = ps.toList ++ [rawInt pos.line, rawInt pos.col, .ref c'] := by simp
    subst hF0
    refine h h'.objs.size c' doc ((X.mg "__name__").getD .none) ctv _ _ I1 ext (fun p hp => ?_) (fun b o hb e => Heap.get?_push_of_some _ (hx b o hb e)) (fun b z lt => ?_) (Heap.get?_push_size _ rfl) ?_ (off _ grow) upd_same
    · by_cases hb : p.1 = P
      · rw [hu p hp hb, hb]
        refine ⟨_, by rw [upd_ne (ne_of_none hP nC), upd_same], by rw [lst]; exact PySem.TriplesOk_snoc _ _ _ _ ht, fun p' cv hcv => ?_⟩
        rw [lst] at hcv
        rcases among_app _ ht hcv with z | z
        · obtain ⟨c0, e1, e2⟩ := ha p' cv z
          exact ⟨c0, e1, ext _ _ e2 codeO_ne⟩
        · exact ⟨c', z, upd_same⟩
      · obtain ⟨ps', a1, a2, a3⟩ := hT p hp
        refine ⟨ps', by rw [upd_ne (ne_of_none a1 nC), upd_ne hb]; exact a1, a2, fun p' cv hcv => ?_⟩
        obtain ⟨c0, e1, e2⟩ := a3 p' cv hcv
        exact ⟨c0, e1, ext _ _ e2 codeO_ne⟩
    · have n1 : b ≠ c' := Nat.ne_of_lt (Nat.lt_of_lt_of_le lt hge)
      have n2 : b ≠ P := fun w => by
        rw [w, hP] at z
        cases z
      rw [upd_ne n1, upd_ne n2]
      exact z
    · have n1 : h'.objs.size ≠ c' := Nat.ne_of_gt hlt
      have n2 : h'.objs.size ≠ P := Nat.ne_of_gt (Nat.lt_of_lt_of_le (Heap.lt_size gP) grow)
      rw [upd_ne n1, upd_ne n2]
      exact I.hok.fresh grow
/-- what is made of the lambda: objects that stay, the function at f among them -/
structure Made (X : Cx) (H1 : Hp) (s' : Shared) (params : Arguments) (body : Expr) (scope : Scope) (f c' : Addr) (dV doc pm ctv : Value) (D : List (Addr × Obj)) : Prop where
  at_ : (f, lamO X params body scope dV doc pm c' ctv) ∈ D
  there : ∀ p ∈ D, s'.heap.get? p.1 = some p.2 ∧ H1 p.1 = none ∧ p.1 ∉ frs X.stack
  code : H1 c' = some (CodeO c' (X.env.qual ++ "<lambda>"))
  binds : ∃ bs : List (Str × Value), (∀ s2 : Shared, (∀ p ∈ D, s2.heap.get? p.1 = some p.2) → BindsTo s2 (PySem.W.kdv_fn "<lambda>" (X.env.qual ++ "<lambda>") params (.expr body) scope (clos X scope) dV doc pm (.ref c') ctv) ⟨[], []⟩ bs) ∧ ∀ y ∈ bs, scope.names.lookup y.1 = some .local
/-- lambda: e -/
theorem lam_plain {T : List (Addr × Str)} {c P : Addr} {params : Arguments} {body : Expr} {scope : Scope} {pos : Pos} {E : Value → Shared → Prop} {Q : Value → Shared → Prop} (I : Inv X pins σ H s) (TB : TabB X.base X.mg c P) (hcode : X.env.code = .ref c)
    (hm : (P, X.env.qual ++ "<lambda>") ∈ T) (hu : ∀ p ∈ T, p.1 = P → p.2 = X.env.qual ++ "<lambda>") (hT : Tabs T H) (hdef : defaultsOf params X.env = ([], [])) (hfree : ∀ y ∈ scope.names, y.2 = .free → ∃ c, X.env.cells.lookup y.1 = some c)
    (hbind : ∀ (q : Str) (cl : List (Str × Addr)) (doc pm cv ctv : Value), bindArgs (PySem.W.kdv_fn "<lambda>" q params (.expr body) scope cl .none doc pm cv ctv) ⟨[], []⟩ = pure [])
    (h : ∀ (f c' : Addr) (dV doc pm ctv : Value) (D : List (Addr × Obj)) (H1 : Hp) (s' : Shared), Inv X pins σ H1 s' → ExtN H H1 → Tabs T H1 → Made X H1 s' params body scope f c' dV doc pm ctv D → Q (.ref f) s') :
    wpAny (model X.prog X.w) X.A (eval (.Lambda params body scope pos) X.env) Q E s := by
  refine PySem.W.kla_eval hdef ?_
  rw [makeFunction_eq]
  simp only [List.zip_nil_right, List.filterMap_nil, List.isEmpty_nil, if_true, pure_bind]
  refine mk_tail I TB hcode hm hu hT hfree fun f c' doc pm ctv H1 s' I1 eN T1 _ _ hf hfn hfr hco => ?_
  refine h f c' .none doc pm ctv [(f, lamO X params body scope .none doc pm c' ctv)] H1 s' I1 eN T1 ⟨List.mem_cons_self, fun p hp => ?_, hco, [], fun s2 _ => .of_eq (hbind _ _ _ _ _ _), fun y hy => absurd hy (by simp)⟩
  rw [List.mem_singleton] at hp
  subst hp
  exact ⟨hf, hfn, hfr⟩
/-- lambda a=0: e -/
theorem lam_dflt {T : List (Addr × Str)} {c P : Addr} {params : Arguments} {body : Expr} {scope : Scope} {pos p0 : Pos} {j0 : Nat} {n : Int} {x : Str} {E : Value → Shared → Prop} {Q : Value → Shared → Prop} (I : Inv X pins σ H s) (TB : TabB X.base X.mg c P) (hcode : X.env.code = .ref c)
    (hm : (P, X.env.qual ++ "<lambda>") ∈ T) (hu : ∀ p ∈ T, p.1 = P → p.2 = X.env.qual ++ "<lambda>") (hT : Tabs T H) (hkw : params.kwonlyargs = []) (hdef : defaultsOf params X.env = ([eval (.Constant (.int n) j0 p0) X.env], [])) (hfree : ∀ y ∈ scope.names, y.2 = .free → ∃ c, X.env.cells.lookup y.1 = some c)
    (hbind : ∀ (q : Str) (cl : List (Str × Addr)) (T0 : Addr) (doc pm cv ctv v : Value), ∃ k, bindArgs (PySem.W.kdv_fn "<lambda>" q params (.expr body) scope cl (.ref T0) doc pm cv ctv) ⟨[], []⟩ = seqItems? (.ref T0) >>= k ∧ k (some #[v]) = pure [(x, v)]) (hloc : scope.names.lookup x = some .local)
    (hE : ∀ e s, X.xe e s → E e s)
    (h : ∀ (f c' : Addr) (dV doc pm ctv : Value) (D : List (Addr × Obj)) (H1 : Hp) (s' : Shared), Inv X pins σ H1 s' → ExtN H H1 → Tabs T H1 → Made X H1 s' params body scope f c' dV doc pm ctv D → Q (.ref f) s') :
    wpAny (model X.prog X.w) X.A (eval (.Lambda params body scope pos) X.env) Q E s := by
  rw [arm_eval_Lambda, hdef]
  show wpAny _ _ (do let dv ← evalAll [eval (.Constant (.int n) j0 p0) X.env]; let kdv ← holding dv (evalAllOpt []); makeFunction "<lambda>" (X.env.qual ++ "<lambda>") params (.expr body) scope X.env dv kdv [] pos pos.line) Q E s
  have hc : PE X (.Constant (.int n) j0 p0) (tC (.int n)) := pe_int
  refine wpAny_bind ?_
  unfold evalAll
  refine wpAny_bind (wpAny_mono (hc.run pins s σ H (fun v H' => v = .int n ∧ H' = H) I ⟨rfl, rfl⟩) (fun u s1 hh => ?_) hE)
  obtain ⟨v, H', I1, r1, rfl, rfl⟩ := hh
  unfold evalAll
  refine wpAny_bind (wpAny_holding (wpAny_pure (wpAny_pure (wpAny_bind (wpAny_holding (wpAny_pure ?_))))))
  rw [makeFunction_eq, hkw]
  simp only [List.zip_nil_right, List.zip_nil_left, List.filterMap_nil, List.isEmpty_nil, List.isEmpty_cons, if_true, Bool.false_eq_true, if_false, pure_bind]
  refine wpAny_bind (wpAny_newTextTuple ?_)
  obtain ⟨T0, hT0⟩ : ∃ T0, T0 = s1.heap.objs.size := ⟨_, rfl⟩
  have I2 : Inv X pins σ H' { s1 with heap := s1.heap.push (PySem.W.kdv_tup [u]) } := I1.kept fun b o e => Heap.get?_push_of_some _ e
  have g0 : (s1.heap.push (PySem.W.kdv_tup [u])).get? T0 = some (PySem.W.kdv_tup [u]) := by
    rw [hT0]
    exact Heap.get?_push_size _ rfl
  have z0 : H' T0 = none := I1.hok.fresh (Nat.le_of_eq hT0.symm)
  have nf : T0 ∉ frs X.stack := fun z => by
    rcases List.mem_cons.mp (I1.stkSub _ z) with e | e
    · have h1 := I1.lt
      rw [← e, hT0] at h1
      exact Nat.lt_irrefl _ h1
    · exact I1.nofs (Nat.le_of_eq hT0.symm) e
  rw [← hT0]
  obtain ⟨ps, hP, _, _⟩ := hT _ hm
  have nP : T0 ≠ P := fun w => by
    rw [w, hP] at z0
    cases z0
  refine mk_tail I2 TB hcode hm hu hT hfree fun f c' doc pm ctv H1 s' I3 eN T1 kp low hf hfn hfr hco => ?_
  have g1 := kp T0 _ nP g0
  have z1 : H1 T0 = none := low T0 z0 (by
    show T0 < (s1.heap.push _).objs.size
    rw [Heap.size_push, hT0]
    exact Nat.lt_succ_self _)
  refine h f c' (.ref T0) doc pm ctv [(f, lamO X params body scope (.ref T0) doc pm c' ctv), (T0, PySem.W.kdv_tup [u])] H1 s' I3 eN T1 ⟨List.mem_cons_self, fun p hp => ?_, hco, [(x, u)], fun s2 k2 => ?_, fun y hy => ?_⟩
  · rcases List.mem_cons.mp hp with e | e
    · subst e
      exact ⟨hf, hfn, hfr⟩
    · rw [List.mem_singleton] at e
      subst e
      exact ⟨g1, z1, nf⟩
  · obtain ⟨k, b1, b2⟩ := hbind (X.env.qual ++ "<lambda>") (clos X scope) T0 doc pm (.ref c') ctv u
    exact BindsTo.of_defaults (o := PySem.W.kdv_tup [u]) rfl (k2 (T0, _) (by simp)) rfl b1 b2
  · rw [List.mem_singleton] at hy
    subst hy
    exact hloc
end
end Wn
namespace Wn
open PySem PySem.Spec PyProof.Rows L2 LamX
section
variable {X : Cx} {pins : List (Addr × Obj)} {σ : L2.St} {H HZ : Hp} {s s1 : Shared}
/-- the lambda's body begins: bs its own names -/
theorem lamW_start {A : Around} {outer : List Env} {E : XK} {scope : Scope} {f c' : Addr} {h1 : Heap} {tk : Nat} {bs : List (Str × Value)} (I : Inv X pins σ H s) (L : LamD X.N X.env.scope scope) (e0 : Env0 X.prog X.w X.K X.mg X.base A outer s1 HZ) (hd : A.handled = none)
    (un : Un (frs X.stack) [] H HZ s.heap s1.heap) (hns : h1.Ns s1.heap.objs.size fun y => bs.reverse.lookup y) (kp : ∀ b o, s1.heap.get? b = some o → h1.get? b = some o) :
    Inv (lamCx X A outer s1 HZ E scope f c') [] σ HZ { s1 with heap := h1, toks := tk } := by
  have hfree := L.has I.ok
  have up : ∀ {y c}, (cloFrom X.env.cells scope.names []).lookup y = some c → X.env.cells.lookup y = some c := fun {y c} e => by
    rcases cloFrom_mem (PySem.mem_of_lookup e) with z | ⟨z1, z2⟩
    · cases z
    · obtain ⟨c1, hc⟩ := hfree _ z1 rfl
      have hc : X.env.cells.lookup y = some c1 := hc
      rw [show c = c1 by rw [z2, hc] <;> rfl]
      exact hc
  have down : ∀ {y}, scope.names.lookup y = some .free → ∃ c, (cloFrom X.env.cells scope.names []).lookup y = some c := fun {y} hl => by
    have hy : (y, NameKind.free) ∈ scope.names := PySem.mem_of_lookup hl
    exact mem_lookup (cloFrom_has (cells := X.env.cells) (acc := []) hy)
  have cellK : ∀ {c : Addr} {v : Option Value}, H c = none → s.heap.IsCell c v → h1.IsCell c v := fun {c v} n ⟨o, ho, hd⟩ => by
    obtain ⟨sl, q⟩ := un.any ho n (by simp)
    exact ⟨_, kp _ _ q, hd⟩
  have ex0 : ∀ b : Addr, b ∉ (lamCx X A outer s1 HZ E scope f c').ex := fun b z => absurd (show b ∈ ([] : List Addr) from z) (by simp)
  refine ⟨⟨e0.mod, L.kind, rfl, rfl, Nat.le_refl _, fun y z c e1 e2 => I.ok.inj y z c (up e1) (up e2), fun y hy => ?_, fun y c z _ => ?_, fun _ => hd, Around.frames_deeper e0.frames, .inr ⟨rfl, rfl⟩, fun b z => absurd z (ex0 b), e0.bs, e0.bsz, fun b _ _ => ex0 b,
      fun b z => absurd z (ex0 b), e0.funs, e0.frf⟩,
    rfl, e0.bare, Un.kept kp, ⟨_, hns, fun i y v e1 e2 e3 => ?_⟩, fun y c e => ?_, e0.hok.fresh (Nat.le_refl _), fun y c e => ?_, fun q hq => absurd (show q ∈ ([] : List (Addr × Obj)) ++ [] from hq) (by simp), e0.hok.kept kp, I.len⟩
  · have hy : scope.names.lookup y = some .cell ∨ scope.names.lookup y = some .free := hy
    rcases hy with hy | hy
    · exact absurd rfl (L.own _ (PySem.mem_of_lookup hy)).1
    · exact down hy
  · have z : false = true := z
    cases z
  · have e3 : Vis scope y := e3
    rcases e3 with k | k | k
    · exact absurd (List.mem_iff_getElem?.mpr ⟨i, e1⟩) ((L.own _ (PySem.mem_of_lookup k)).2 rfl)
    · exact absurd rfl (L.own _ (PySem.mem_of_lookup k)).1
    · obtain ⟨m, hn, hl⟩ := I.loc
      have hvis : Vis X.env.scope y := (L.free _ (PySem.mem_of_lookup k) rfl).elim (fun k => .inr (.inl k)) (fun k => .inr (.inr k))
      obtain ⟨w', r, q⟩ := hl i y v e1 e2 hvis
      obtain ⟨c2, h2⟩ := down k
      refine ⟨w', r, .inr ⟨.inr k, c2, h2, ?_⟩⟩
      have c1 := up h2
      rcases q with ⟨k', _⟩ | ⟨_, c3, e', z⟩
      · have k' : X.env.scope.names.lookup y = some .local := k'
        rcases L.free _ (PySem.mem_of_lookup k) rfl with k2 | k2 <;> rw [show X.env.scope.names.lookup y = _ from k2] at k' <;> cases k'
      · rw [c1] at e'
        cases e'
        exact cellK (I.freeC y _ c1) z
  · obtain ⟨w', z⟩ := I.cell y c (up e)
    exact ⟨w', cellK (I.freeC y c (up e)) z⟩
  · obtain ⟨v, o, ho, hd⟩ := I.cell y c (up e)
    exact un.free c o ho (I.freeC y c (up e)) (by simp)
/-- x(), in the def that got the lambda; what is raised is wished for at its slots -/
theorem pe_actW {CXg : CXT} {Eg : XK} {Ng : List Str} {qg : Str} {sg : Scope} {g f c' : Addr} {cdg dV doc pm ctv : Value} {params : Arguments} {body : Expr} {scope : Scope} {D : List (Addr × Obj)} {k i : Nat} {a : Str} {pn : List (Addr × Obj)} {xe : Value → Shared → Prop} {W : WX} {tb : XK → TE} {p1 p2 : Pos}
    (I : Inv X pins σ H s) (L : LamD X.N X.env.scope scope) (M : Made X H s params body scope f c' dV doc pm ctv D)
    (tk : Takes ((cxOf CXg X.prog X.w X.K X.mg X.base Ng qg sg g cdg X.A X.stack s H Eg).tr pn xe) W) (hr : Room (k + 1) (X.A.deeper (envOfC qg sg s.heap.objs.size g cdg)))
    (hbody : ∀ (A : Around) (outer : List Env) (s : Shared) (H : Hp) (E : XK), Room k (A.deeper (lamEnv X scope s.heap.objs.size f c')) → PE (lamCx X A outer s H E scope f c') body (tb E))
    (hN : Ng[i]? = some a) (hv : Vis sg a) (hd : (a == ("__debug__" : Str)) = false := by decide) (hcd : (a == ("__classdict__" : Str)) = false := by decide) :
    PE ((cxOf CXg X.prog X.w X.K X.mg X.base Ng qg sg g cdg X.A X.stack s H Eg).tr pn xe) (.Call (.Name a p1) [] [] p2)
      (fun σZ HZ Q => σZ[i]? = some (some (.ref f)) ∧ HZ c' = some (CodeO c' (X.env.qual ++ "<lambda>")) ∧ ∃ E : XK, (∀ cls d H', E cls d H' → W cls d σZ H') ∧ tb E σ HZ Q) := by
  refine ⟨fun pinsZ sZ σZ HZ Q IZ h => ?_⟩
  obtain ⟨hs, hc, E, hW, ht⟩ := h
  refine wpAny_Call_Name_kw (thn ((pe_var (pos := p1) (i := i) hN hv hd hcd).run pinsZ sZ σZ HZ (fun v H1 => v = .ref f ∧ H1 = HZ) IZ ⟨.ref f, hs, rfl, rfl⟩) fun u s1 hh => ?_)
  obtain ⟨v, H1, I1, r1, ev, eH⟩ := hh
  subst ev
  rw [eH] at I1
  obtain rfl : u = Value.ref f := r1
  have un : Un (frs X.stack) [] H HZ s.heap s1.heap := I1.base
  have stay : ∀ p ∈ D, s1.heap.get? p.1 = some p.2 := fun p hp => un.keep _ _ (M.there p hp).1 (M.there p hp).2.1 (M.there p hp).2.2 (by simp)
  have of1 := stay _ M.at_
  refine PySem.W.callWith_F0 ⟨_, _, _, _, of1⟩ ?_
  obtain ⟨⟨oc, vs, t, hoc, hdc, hvc⟩, _, _⟩ := I1.hok c' _ hc
  obtain ⟨bs, hbind, hloc⟩ := M.binds
  have rc : codeAny (model X.prog X.w) (X.A.deeper (envOfC qg sg s.heap.objs.size g cdg)) (.call (.ref f) ⟨[], []⟩) (CR (L2.CX X.prog X.w) (envOfC qg sg s.heap.objs.size g cdg :: X.stack) X.prog X.w HZ s1 Q E) s1 := by
    refine PySem.W.kla_callFunE hr.depth of1 rfl L.co L.gen rfl ⟨c', oc, vs, t, rfl, hoc, hdc, hvc⟩ (hbind s1 stay _ _ _ _ ?_)
    refine wpAny_newFunctionEnv (fun y hy => (L.own y hy).1) hloc (fun h1 hns hsb => ⟨I1.nolimit.fresh _ hsb, ?_⟩) L.kind
    show codeAny _ _ (.expr body (lamEnv X scope s1.heap.objs.size f c')) _ _
    have kp : ∀ b o, s1.heap.get? b = some o → h1.get? b = some o := fun b o e => hsb.extBut b o (Nat.ne_of_lt (Heap.lt_size e)) (Heap.get?_push_of_some _ e)
    have J : Inv (lamCx X (X.A.deeper (envOfC qg sg s.heap.objs.size g cdg)) (envOfC qg sg s.heap.objs.size g cdg :: X.stack) s1 HZ E scope f c') [] σ HZ { s1 with heap := h1, toks := s1.toks + bs.length } :=
      lamW_start I L I1.env0 hr.hd un hns kp
    refine PySem.W.kla_codeExpr (wpAny_mono ((hbody _ _ s1 HZ E (hr.deeper _)).run [] _ _ HZ Q J ht) (fun v s' hq => ?_) fun e s' hq => hq)
    obtain ⟨w', H', J', rv, q⟩ := hq
    exact ⟨w', H', J'.os, J'.bare, J'.base, J'.hok, rv, q⟩
  refine wpAny_call (codeAny_mono rc fun r s' hq => ?_)
  match r, hq with
  | .error e, hq => exact tk e s' (XE.of_call I1 hW hq)
  | .ok (.ret u), hq => exact I1.after hq
  | .ok .next, hq => exact hq.elim
  | .ok .brk, hq => exact hq.elim
  | .ok .cont, hq => exact hq.elim
end
/-- how a lambda is made here -/
def MkLam (X : Cx) (T : List (Addr × Str)) (params : Arguments) (body : Expr) (scope : Scope) (lpos : Pos) : Prop :=
  ∀ (pins : List (Addr × Obj)) (σ : L2.St) (H : Hp) (s : Shared) (Q : Value → Shared → Prop), Inv X pins σ H s → Tabs T H →
    (∀ (f c' : Addr) (dV doc pm ctv : Value) (D : List (Addr × Obj)) (H1 : Hp) (s' : Shared), Inv X pins σ H1 s' → ExtN H H1 → Tabs T H1 → Made X H1 s' params body scope f c' dV doc pm ctv D → Q (.ref f) s') →
    wpAny (model X.prog X.w) X.A (eval (.Lambda params body scope lpos) X.env) Q X.xe s
/-- the def that calls what it got: a calls it; TT: what it makes of the lambda's reading -/
def Gives (X : Cx) (Ng : List Str) (x : Str) (sg : Scope) (g : Addr) (cdg : Value) (bg : List Stmt) (a : Str) (q : Str) (TT : (XK → Hp → VK → Prop) → Hp → VK → Prop) : Prop :=
  ∀ (f c' : Addr) (s : Shared) (H : Hp) (Q : VK) (tl : XK → Hp → VK → Prop), Room 1 (X.A.deeper (envOfC x sg s.heap.objs.size g cdg)) →
    (∀ (W : WX) (pn : List (Addr × Obj)) (xe : Value → Shared → Prop) (p1 p2 : Pos), Takes ((cxOf CX0 X.prog X.w X.K X.mg X.base Ng x sg g cdg X.A X.stack s H E0).tr pn xe) W →
      PE ((cxOf CX0 X.prog X.w X.K X.mg X.base Ng x sg g cdg X.A X.stack s H E0).tr pn xe) (.Call (.Name a p1) [] [] p2) (fun σZ HZ Q => σZ[0]? = some (some (.ref f)) ∧ HZ c' = some (CodeO c' q) ∧ ∃ E : XK, (∀ cls d H', E cls d H' → W cls d σZ H') ∧ tl E HZ Q)) →
    H c' = some (CodeO c' q) → TT tl H Q →
    ∃ t, PSs (cxOf CX0 X.prog X.w X.K X.mg X.base Ng x sg g cdg X.A X.stack s H E0).nox bg t ∧ t { nx := fun _ H' => Q .non H', rt := Q } (L2.start Ng [.ref f]) H
section
variable {X : Cx}
/-- x(lambda: body) -/
theorem pe_outc {T : List (Addr × Str)} {TT : (XK → Hp → VK → Prop) → Hp → VK → Prop} {x a : Str} {g : Addr} {k : Nat} {st : Stmt} {fd : FuncData} {Ng : List Str} {cdg : Value}
    {params : Arguments} {body : Expr} {scope : Scope} {t : XK → TE} {p lpos pos : Pos} (hg : Gl X x) (hm : X.mg x = some (.ref g)) (hk : PySem.W.keepIn X.K (.ref g) = true) (F : Fun X.K x x st g fd) (hcd : fd.code = cdg) (hb : L2.Binds X.K fd [a] []) (Sg : FnScope Ng [a] (defScope st)) (hNg : Ng[0]? = some a) (hva : Vis (defScope st) a)
    (hG : Gives X Ng x (defScope st) g cdg (defBody st) a (X.env.qual ++ "<lambda>") TT) (ML : MkLam X T params body scope lpos) (hr : Room (k + 2) X.A) (L : LamD X.N X.env.scope scope)
    (hbody : ∀ (A : Around) (outer : List Env) (s : Shared) (H : Hp) (E : XK) (f c' : Addr), Room k (A.deeper (lamEnv X scope s.heap.objs.size f c')) → PE (lamCx X A outer s H E scope f c') body (t E))
    (hdb : (x == ("__debug__" : Str)) = false := by decide) (hd : (a == ("__debug__" : Str)) = false := by decide) (hcc : (a == ("__classdict__" : Str)) = false := by decide) :
    PE X (.Call (.Name x p) [.Lambda params body scope lpos] [] pos) (tLam T TT t) := by
  refine ⟨fun pins s σ H Q I h => ?_⟩
  obtain ⟨hT, h⟩ := h
  obtain ⟨oc, od, kV, doc0, pm0, an, cdv, ct, osl, rfl, lk, hcg⟩ := F.ex
  obtain rfl : cdv = cdg := hcd
  refine wpAny_Call_Name_kw (ld_glob I hg hm ?_ hdb)
  refine PySem.W.callWith_K (h₀ := X.base) I.ok.mod.kin hk ?_ (by rfl) (by rfl)
  show wpAny _ _ (spliced ((false, eval (.Lambda params body scope lpos) X.env) :: backTo pos (starEach [] X.env))) _ _ s
  refine Calls.spliced_cons (ML pins σ H s _ I hT fun f c' dV doc pm ctv D H1 s' I1 eN T1 M => ?_)
  refine Calls.spliced_nil ⟨I1.kIn, ?_⟩
  have rc : codeAny (model X.prog X.w) X.A (.call (.ref g) ⟨[.ref f], []⟩) (CR CX0 X.stack X.prog X.w H1 s' Q E0) s' := by
    refine run_ofS (N := Ng) (ps := [a]) (us := [.ref f]) (vs := [.ref f]) lk hcg Sg hr I1.env0 (hb s' [.ref f] I1.kIn rfl) (.cons rfl .nil) rfl fun hr' => ?_
    obtain ⟨t', ht', hq'⟩ := hG f c' s' H1 Q (fun E H' Q' => t E σ H' Q') (hr'.mono (by omega)) (fun W pn xe p1 p2 tk => pe_actW (i := 0) I1 L M tk hr' (fun A outer s H E hr2 => hbody A outer s H E f c' hr2) hNg hva hd hcc) M.code (h H1 eN T1)
    exact ⟨t', ht'.nox, hq'⟩
  refine wpAny_call (codeAny_mono rc fun r s2 hq => ?_)
  match r, hq with
  | .error e, hq => exact (show False from hq).elim
  | .ok (.ret u), hq => exact I1.after hq
  | .ok .next, hq => exact hq.elim
  | .ok .brk, hq => exact hq.elim
  | .ok .cont, hq => exact hq.elim
end
end Wn
/-! a law whose defs make lambdas: the end, by the tables of their code -/
namespace Wn
open PySem PySem.Spec PyProof.Rows L2 LamX
/-- a def by its body, its code told -/
theorem fnGc {P : Program} {w : World} {K : PySem.W.Frag} {mg : Str → Option Value} {base : Heap} {CX : CXT} {k : Nat} {f : Addr} {fd : FuncData} {ps : List Str} {sp : Sp} {x qual : Str} {st : Stmt} {N : List Str} (F : Fun K x qual st f fd) (S : FnScope N ps (defScope st)) (sz : ∀ vs H Q E, sp vs H Q E → vs.length = ps.length)
    (body : ∀ (cdv : Value) (A : Around) (outer : List Env) (s : Shared) (H : Hp) (vs : List V) (Q : VK) (E : XK), fd.code = cdv → (A.deeper (envOfC qual (defScope st) s.heap.objs.size f cdv)).guards = some [] →
      Room k (A.deeper (envOfC qual (defScope st) s.heap.objs.size f cdv)) → sp vs H Q E →
      ∃ t, PSs (cxOf CX P w K mg base N qual (defScope st) f cdv A outer s H E) (defBody st) t ∧ t { nx := fun _ H' => Q .non H', rt := Q } (L2.start N vs) H) : FnG P w K mg base CX (k + 1) f fd ps sp := by
  obtain ⟨oc, od, kV, doc, pm, an, cdv, ct, osl, rfl, lk, hcd⟩ := F.ex
  refine ⟨sz, fun A hgd hr outer s H args us vs Q E e0 hb r h => ?_⟩
  have KI : K.In s.heap := e0.mod.kin.keeps fun b o e => (e0.bs b o e).1
  have NL : s.heap.NoLimit := e0.mod.nolimit.keeps fun b o e => (e0.bs b o e).1
  refine codeAny_call_function hr.depth (KI _ _ lk) rfl S.co S.gen rfl (PySem.W.codeRec_of KI hcd) (hb _ _ _ _ ?_)
  refine wpAny_newFunctionEnv_cells S.kind (fun y hy => ?_) fun env he s1 x => ?_
  · obtain ⟨n, v⟩ := y
    rcases S.par n (List.of_mem_zip hy).1 with q | q
    · exact .inl q
    · exact .inr ⟨q, PySem.W.cellsFrom_some _ _ _ (.inl q)⟩
  · subst he
    refine ⟨NL.keeps x.toInCall.keep, codeAny_func ?_⟩
    obtain ⟨t, ht, hq⟩ := body cdv A outer s H vs Q E rfl hgd (hr.deeper _) h
    refine wpAny_mono (ht.run [] s1 _ H _ (inv_start S hr.hd e0 (sz _ _ _ _ h) r x) hq) (fun fl s' z => ?_) fun e s' z => z
    cases fl with
    | ret u =>
      obtain ⟨v, σ', H', J, rv, q⟩ := z
      exact ⟨v, H', J.os, J.bare, J.base, J.hok, rv, q⟩
    | next =>
      obtain ⟨σ', H', J, q⟩ := z
      exact ⟨.non, H', J.os, J.bare, J.base, J.hok, rfl, q⟩
    | brk =>
      obtain ⟨_, _, _, q⟩ := z
      exact q.elim
    | cont =>
      obtain ⟨_, _, _, q⟩ := z
      exact q.elim
theorem fnGc0 {P : Program} {w : World} {K : PySem.W.Frag} {mg : Str → Option Value} {base : Heap} {k : Nat} {f : Addr} {fd : FuncData} {ps : List Str} {sp : Sp} {x qual : Str} {st : Stmt} {N : List Str} (F : Fun K x qual st f fd) (S : FnScope N ps (defScope st)) (sz : ∀ vs H Q E, sp vs H Q E → vs.length = ps.length)
    (body : ∀ (cdv : Value) (A : Around) (outer : List Env) (s : Shared) (H : Hp) (vs : List V) (Q : VK) (E : XK), fd.code = cdv → (A.deeper (envOfC qual (defScope st) s.heap.objs.size f cdv)).guards = some [] →
      Room k (A.deeper (envOfC qual (defScope st) s.heap.objs.size f cdv)) → sp vs H Q E →
      ∃ t, PSs (cxOf CX0 P w K mg base N qual (defScope st) f cdv A outer s H E).nox (defBody st) t ∧ t { nx := fun _ H' => Q .non H', rt := Q } (L2.start N vs) H) : FnG P w K mg base CX0 (k + 1) f fd ps sp :=
  fnGc F S sz fun cdv A outer s H vs Q E hc g r h => let ⟨t, ht, q⟩ := body cdv A outer s H vs Q E hc g r h; ⟨t, ht.nox, q⟩
/-- the law's call; cs: the code objects and their tables -/
theorem law_callGT {P : Program} {w : World} {K : PySem.W.Frag} {mg mb : Str → Option Value} {CX : CXT} {k : Nat} {fa a : Addr} {cs : List (Addr × Addr)} {fd : FuncData} {x : Str} {sp : Sp} {s1 : Shared} {vs : List Value} {ns : List Int}
    (KX : K.In s1.heap) (hns : s1.heap.Ns mainGlobals mg) (hb : s1.heap.Ns builtinsNs mb) (hbb : ∀ x : Str, x ≠ "__name__" → mb x = bootBuiltins x) (hlim : s1.heap.NoLimit) (hg : s1.gens = #[])
    (hT : ∀ p ∈ cs, s1.heap.get? p.2 = some { cls := .none, data := .fields #[] }) (nT : ∀ p ∈ cs, K.lookup p.2 = none) (C : ∀ p ∈ cs, PySem.W.CodeHd s1.heap p.1 p.2)
    (hbm : ∃ (bm : Addr) (ob : Obj), mg "__builtins__" = some (.ref bm) ∧ bm ≠ builtinsNs ∧ s1.heap.get? bm = some ob ∧ ob.cls = .type "module" ∧ ob.dict = some builtinsNs ∧ ob.data = .plain)
    (ha : s1.heap.get? a = some { cls := .type "list", data := .seq vs.toArray }) (hi : IntsAre vs ns) (hl : ns.length ≤ sizeLine) (hr : Room k callerA)
    (F : ∀ base : Heap, K.In base → base.Ns mainGlobals mg → (∀ p ∈ cs, TabB base mg p.1 p.2) → FnG P w K mg base CX k fa fd [x] sp) (hbind : ∀ (s : Shared) (u : Value), BindsTo s fd ⟨[u], []⟩ [(x, u)])
    (hsp : ∀ H : Hp, (∀ p ∈ cs, H p.2 = some (.tbl #[])) → SqL K H a (ns.map V.int) → sp [.ref a] H (fun v _ => v = .bl true) fun _ _ _ => False)
    (hCX : ∀ H e s', CX [] H s1 (fun _ _ _ => False) e s' → False) :
    codeAny (model P w) callerA (.call (.ref fa) ⟨[.ref a], []⟩) (fun r s' => r = .ok (.ret (.bool true)) ∧ OldK s1.heap s'.heap ∧ s'.os = s1.os ∧ AllBare s'.gens) s1 := by
  obtain ⟨ts, hts⟩ : ∃ ts, ts = cs.map (·.2) := ⟨_, rfl⟩
  have inT : ∀ {p : Addr × Addr}, p ∈ cs → p.2 ∈ ts := fun hp => by
    rw [hts]
    exact List.mem_map.mpr ⟨_, hp, rfl⟩
  have outT : ∀ {b : Addr}, b ∈ ts → s1.heap.get? b = some { cls := .none, data := .fields #[] } ∧ K.lookup b = none := fun hb => by
    rw [hts] at hb
    obtain ⟨p, hp, e⟩ := List.mem_map.mp hb
    rw [← e]
    exact ⟨hT p hp, nT p hp⟩
  have na : a ∉ ts := fun z => by
    have q := (outT z).1
    rw [ha] at q
    cases q
  obtain ⟨H, hH⟩ : ∃ H : Hp, H = fun b => if b ∈ ts then some (.tbl #[]) else if b = a ∧ K.lookup a = none then some (.frz { cls := .type "list", data := .seq vs.toArray } (.lst (ns.map V.int))) else none := ⟨_, rfl⟩
  have at_ : ∀ b u, H b = some u → (b ∈ ts ∧ u = .tbl #[]) ∨ (b = a ∧ K.lookup a = none ∧ u = .frz { cls := .type "list", data := .seq vs.toArray } (.lst (ns.map V.int))) := fun b u z => by
    rw [hH] at z
    dsimp only at z
    split at z
    · rename_i c
      exact .inl ⟨c, (Option.some.inj z).symm⟩
    · split at z
      · rename_i c
        exact .inr ⟨c.1, c.2, (Option.some.inj z).symm⟩
      · cases z
  have off : ∀ b o, s1.heap.get? b = some o → (∀ n, o.data ≠ .seq vs.toArray n) → o.data ≠ .fields #[] → H b = none := fun b o e d d2 => by
    cases z : H b with
    | none => rfl
    | some u =>
      rcases at_ b u z with ⟨w1, _⟩ | ⟨rfl, _, _⟩
      · rw [(outT w1).1] at e
        cases e
        exact absurd rfl d2
      · rw [ha] at e
        cases e
        exact absurd rfl (d _)
  have kb : ∀ b o, K.lookup b = some o → H b = none := fun b o e => by
    cases z : H b with
    | none => rfl
    | some u =>
      rcases at_ b u z with ⟨w1, _⟩ | ⟨rfl, z2, _⟩
      · rw [(outT w1).2] at e
        cases e
      · rw [z2] at e
        cases e
  have ok : HOk P w H s1.heap := fun b u z => by
    rcases at_ b u z with ⟨w1, rfl⟩ | ⟨rfl, _, rfl⟩
    · exact (outT w1).1
    · exact ⟨ha, by rw [List.length_map]; exact hl, vs, _, vals_ints hi, ha⟩
  have sq : SqL K H a (ns.map V.int) := by
    cases z : K.lookup a with
    | none =>
      refine .inl (.inr ⟨{ cls := .type "list", data := .seq vs.toArray }, ?_⟩)
      rw [hH]
      dsimp only
      rw [if_neg na]
      exact if_pos ⟨rfl, z⟩
    | some o =>
      have e := KX a o z
      rw [ha] at e
      cases e
      exact .inr ⟨_, vs.toArray, _, z, rfl, rfl, rfl, by rw [List.size_toArray, hi.length]; exact hl, by simpa using vals_ints hi⟩
  have tabs : ∀ p ∈ cs, H p.2 = some (.tbl #[]) := fun p hp => by
    rw [hH]
    exact if_pos (inT hp)
  have nsB : ∀ {b : Addr} {m : Str → Option Value}, s1.heap.Ns b m → (hidT s1.heap H).Ns b m := fun {b m} ⟨o, es, ep, e, d, r⟩ => ⟨o, es, ep, hidT_get e (off b o e (fun n z => by rw [d] at z; cases z) fun z => by rw [d] at z; cases z), d, r⟩
  have KB : K.In (hidT s1.heap H) := fun b o e => hidT_get (KX b o e) (kb b o e)
  have M : Mod K mg (hidT s1.heap H) := ⟨KB, nsB hns, ⟨mb, nsB hb, hbb⟩, let ⟨mc, h1, h2⟩ := hlim; ⟨mc, nsB h1, h2⟩⟩
  have TB : ∀ p ∈ cs, TabB (hidT s1.heap H) mg p.1 p.2 := fun p hp => by
    have g0 := hT p hp
    refine ⟨?_, ?_, fun z => ?_⟩
    · obtain ⟨o, us, file, tf, flags, tg, inF, text, tt, e1, r1, r2, r3, r⟩ := C p hp
      refine ⟨o, us, file, tf, flags, tg, inF, text, tt, hidT_get e1 (off _ _ e1 (fun n z => ?_) fun z => ?_), r1, r2, r3, r⟩
      · rw [r2] at z
        cases z
      · rw [r2] at z
        cases z
        simp at r3
    · obtain ⟨bm, ob, b1, b2, b3, b4, b5, b6⟩ := hbm
      have nG : bm ≠ mainGlobals := fun q => by
        obtain ⟨o, es, ep, e, hd, _⟩ := hns
        rw [q, e] at b3
        cases b3
        rw [hd] at b6
        cases b6
      have nP : bm ≠ p.2 := fun q => by
        rw [q, g0] at b3
        cases b3
        cases b6
      exact ⟨bm, ob, b1, b2, nG, nP, hidT_get b3 (off _ _ b3 (fun n z => by rw [b6] at z; cases z) fun z => by rw [b6] at z; cases z), b4, b5, b6⟩
    · obtain ⟨o, es, ep, e, hd, _⟩ := hns
      rw [z, g0] at e
      cases e
      cases hd
  have env : Env0 P w K mg (hidT s1.heap H) callerA [] s1 H := ⟨rfl, M, fun b o e => of_hidT e, Nat.le_of_eq (hidT_size _ _), trivial, fun b z => absurd (show b ∈ ([] : List Addr) from z) (by simp), ok, .of_eq hg⟩
  refine codeAny_mono ((F _ KB (nsB hns) TB).go callerA rfl hr [] s1 H ⟨[.ref a], []⟩ [.ref a] [.ref a] _ _ env (hbind s1 (.ref a)) (.cons rfl .nil) (hsp H tabs sq)) fun r s' z => ?_
  match r, z with
  | .error e, z => exact (hCX H e s' z).elim
  | .ok .next, z => exact z.elim
  | .ok .brk, z => exact z.elim
  | .ok .cont, z => exact z.elim
  | .ok (.ret u), z =>
    obtain ⟨v, H', os, bare, un, ok', rv, q⟩ := z
    obtain rfl : v = .bl true := q
    obtain rfl : u = Value.bool true := rv
    have grown : ∀ p ∈ cs, ∃ more : Array Value, s'.heap.get? p.2 = some { cls := .none, data := .fields more } := fun p hp => by
      obtain ⟨more, z⟩ := un.tbls p.2 #[] (tabs p hp)
      exact ⟨_, ok' p.2 _ z⟩
    have same : ∀ b o, b ∉ ts → s1.heap.get? b = some o → s'.heap.get? b = some o := fun b o nb e => by
      cases y : H b with
      | none => exact un.keep b o e y (fun c => absurd (show b ∈ ([] : List Addr) from c) (by simp)) (by simp)
      | some u =>
        rcases at_ b u y with ⟨w1, _⟩ | ⟨rfl, _, rfl⟩
        · exact absurd w1 nb
        · rw [ha] at e
          cases e
          exact (ok' _ _ (un.frzs _ _ _ y)).1
    refine ⟨rfl, ⟨fun b o e => ?_, fun b o e => ?_⟩, os, bare⟩
    · by_cases w1 : b ∈ ts
      · have w2 := w1
        rw [hts] at w2
        obtain ⟨p, hp, ep⟩ := List.mem_map.mp w2
        obtain ⟨more, hm⟩ := grown p hp
        rw [← ep] at e ⊢
        rw [hT p hp] at e
        cases e
        exact .inr (.inl ⟨((C p hp).tab (hT p hp)).isCodeTable, rfl, #[], more, rfl, by rw [Array.empty_append]; exact hm⟩)
      · exact .inl (same b o w1 e)
    · by_cases w1 : b ∈ ts
      · rw [hts] at w1
        obtain ⟨p, hp, ep⟩ := List.mem_map.mp w1
        obtain ⟨more, hm⟩ := grown p hp
        rw [← ep]
        exact ⟨_, hm⟩
      · exact ⟨o, same b o w1 e⟩
theorem walkGT {l : PySem.W.OpenLaw} {n k : Nat} {q : Program} {loose : List Str} {XP : (Str → Option Value) → Heap → Prop} {YP : World → Heap → Prop} {d : DefRec} {K : Params → PySem.W.Frag} {x : Str} {xs : List Str}
    (hn : l.most = some n) (hn2 : n ≤ sizeLine) (hdf : d.params.defaults = []) (hr : Room k callerA) (hxs : xs.all (fun y => ((recsOf q).find? fun e => e.name == y).isSome) = true) (hY : ∀ (w : World) (h : Heap), YP w h → (K w.params).In h)
    (F : ∀ (w : World) (mg : Str → Option Value) (fa : Addr) (h : Heap), (K w.params).In h → h.Ns mainGlobals mg → mg d.name = some (.ref fa) →
      ∃ (fd : FuncData) (cs : List (Addr × Addr)) (sp : Sp), (∀ p ∈ cs, (∃ y ∈ xs, PySem.W.tabIn (K w.params) y = some p) ∧ (K w.params).lookup p.2 = none) ∧ (∀ (s : Shared) (u : Value), BindsTo s fd ⟨[u], []⟩ [(x, u)]) ∧
        (∀ (H : Hp) (a : Addr) (ns : List Int), ns.length ≤ n → (∀ p ∈ cs, H p.2 = some (.tbl #[])) → SqL (K w.params) H a (ns.map V.int) → sp [.ref a] H (fun v _ => v = .bl true) fun _ _ _ => False) ∧
        ∀ base : Heap, (K w.params).In base → base.Ns mainGlobals mg → (∀ p ∈ cs, TabB base mg p.1 p.2) → FnG l.prog w (K w.params) mg base CX0 k fa fd [x] sp) :
    PySem.W.WalkO q loose XP YP l.row.toRowW d [] (fun f vs => PySem.call f vs) :=
  Att.attach_call hn hdf fun w s0 s1 mg mb fa o pm cd doc a vs ns G Y ho hd hcd hmg hobj hints hlen hg => by
    have KX := hY w _ Y
    obtain ⟨fd, cs, sp, hc, hb, hsp, hF⟩ := F w mg fa _ KX G.T.g hmg
    have tab : ∀ p ∈ cs, PySem.W.CodeHd s1.heap p.1 p.2 ∧ s1.heap.get? p.2 = some { cls := .none, data := .fields #[] } := fun p hp => by
      obtain ⟨⟨y, hy, e⟩, _⟩ := hc p hp
      have z := List.all_eq_true.mp hxs y hy
      obtain ⟨d2, e2⟩ := Option.isSome_iff_exists.mp z
      exact PySem.W.tab_of G.T KX e2 e
    exact law_callGT KX G.T.g G.T.b G.T.builtins G.T.nolimit hg (fun p hp => (tab p hp).2) (fun p hp => (hc p hp).2) (fun p hp => (tab p hp).1) G.T.bmain hobj hints (Nat.le_trans hlen hn2) hr hF hb (fun H hT hS => hsp H a ns hlen hT hS) fun H e s' z => z
end Wn
/-! C(e) for an error whose __init__ keeps e in its one field; raise C(e) -/
namespace Wn
open PySem PySem.Spec PyProof.Rows L2
def spInit (C : Addr) (f : Str) : Sp := fun vs H Q _ => ∃ (a : Addr) (v : V), vs = [.ref a, v] ∧ H a = some (exo a C none) ∧ ∀ d, H d = none → d ≠ a → Q .non (upd (upd H d (exd d [(f, v)])) a (exo a C (some d)))
section
variable {X : Cx} {o e : Expr} {to te : TE} {f x : Str} {p p' p1 p2 pos : Pos} {C fI W : Addr} {B newId initId : String} {bmB : List Value} {mc : Value} {wn : Str}
theorem ps_ostE (T : ErrC X.K C fI f B newId initId bmB) (ho : PE X o to) (he : PE X e te) (hs : swapsWith e (some (.Attribute o f p')) pos.line X.env = pure false := by rfl) : PS X (.Assign [.Attribute o f p'] e pos) (tOstE X.K C f to te) := by
  refine ⟨fun pins s σ H D I h => plainObj_wpAny_Assign_Attribute (thn (he.run pins s σ H _ I h) fun v s1 z1 => ?_) hs⟩
  obtain ⟨y, H1, I1, r1, q1⟩ := z1
  refine thn (ho.run pins s1 σ H1 _ I1 q1) fun u s2 z2 => ?_
  obtain ⟨w, H2, I2, r2, a, ew, ea, q⟩ := z2
  subst ew
  obtain rfl : u = Value.ref a := r2
  exact ostE T I2 ea r1 fun dx s' n ne J => ⟨σ, _, J, q dx n ne⟩
/-- the built-in class's own name -/
theorem pe_initB {es : List Expr} {ta : TA} {pl : Sem Bool} (T : ErrC X.K C fI f B newId initId bmB) (hg : Gl X wn) (hm : X.mg wn = none) (hv : bootBuiltins wn = some (.type B)) (hnn : wn ≠ "__name__") (hdb : (wn == ("__debug__" : Str)) = false) (ty : typeOf (.type B) = pure (.type "type")) (stub : Manifest.isStub B = false)
    (at_ : PySem.W.findCls X.K (.type B) (.type "type") "__init__" = some (.val (.builtin initId))) (hh : PySem.W.handedIn (.builtin initId) = true) (ha : PA X (e :: es) ta)
    (hc : eval (.Call (.Attribute (.Name wn p1) "__init__" p2) (e :: es) [] pos) X.env = (do
      let ov ← eval (.Name wn p1) X.env
      standAt p2.atName
      let (f, first) ← holding [ov] (getMethod ov "__init__" pl)
      callWith pos f first (backTo pos (starEach (e :: es) X.env)) (backToKw pos (keywordEach [] X.env))) := by rfl)
    (he : starEach (e :: es) X.env = (false, eval e X.env) :: starEach es X.env := by rfl) (hpl : (backTo pos (starEach es X.env)).any (·.1) = false := by rfl) :
    PE X (.Call (.Attribute (.Name wn p1) "__init__" p2) (e :: es) [] pos) (tInitE X.K C ta) := by
  refine ⟨fun pins s σ H Q I h => ?_⟩
  refine PySem.W.methodCall_KW (ld_blt I hg hm hv ?_ hnn hdb) hc
  obtain ⟨m, fr⟩ := I.fr
  refine PySem.W.method_type fr I.ok.mod.kin ty stub at_ hh ?_
  show wpAny _ _ (callWith pos (Value.builtin initId) [] (backTo pos (starEach (e :: es) X.env)) []) _ _ _
  exact call_initE (pl := pl) T ha (I.tok _) h he hpl
end
/-- what such a making asks, once its one value is there -/
theorem mk1_go {C : Addr} {f : Str} {v : V} {H1 : Hp} {Q : XK} (h : ∀ d, H1 d = none → Q (.ref C) (some d) (upd H1 d (.xd [(f, v)]))) :
    [v].length ≤ 1000 ∧ ∀ a, H1 a = none → spInit C f (.ref a :: ([v] ++ [])) (upd H1 a (exo a C none))
      (fun u H2 => u = .non ∧ ∃ (d : Addr) (fs : List (Str × V)), H2 a = some (exo a C (some d)) ∧ H2 d = some (exd d fs) ∧ H1 d = none ∧ Q (.ref C) (some d) (upd (del H2 a) d (.xd fs))) (fun _ _ _ => False) := by
  refine ⟨by show 1 ≤ 1000; decide, fun a na => ⟨a, v, rfl, upd_same, fun d nd da => ?_⟩⟩
  have nd1 : H1 d = none := by
    rw [upd_ne da] at nd
    exact nd
  refine ⟨rfl, d, [(f, v)], upd_same, ?_, nd1, ?_⟩
  · rw [upd_ne da, upd_same]
  · have e1 : upd (del (upd (upd (upd H1 a (exo a C none)) d (exd d [(f, v)])) a (exo a C (some d))) a) d (.xd [(f, v)]) = upd H1 d (.xd [(f, v)]) := by
      funext b
      by_cases hb : b = d
      · rw [hb, upd_same, upd_same]
      · rw [upd_ne hb, upd_ne hb]
        by_cases ha : b = a
        · rw [ha, del_same, na]
        · rw [del_ne ha, upd_ne ha, upd_ne hb, upd_ne ha]
    rw [e1]
    exact h d nd1
end Wn
/-! what gives data, where lambdas are made on the way: all but the tables of code stays -/
namespace Wn
open PySem PySem.Spec PyProof.Rows L2 LamX
theorem extOf {H H' : Hp} (g : Gr [] H H') : ExtN H H' := fun b o h _ => g b o (by simp) h
theorem tabsGr {T : List (Addr × Str)} {H H' : Hp} (t : Tabs T H) (g : Gr [] H H') : Tabs T H' := fun p hp => (t p hp).ext fun b o e => g b o (by simp) e
theorem kpExt {H H' : Hp} (g : ExtN H H') : Kp H H' := ⟨fun a _ e => g a _ e (fun _ z => by cases z), fun a _ e => g a _ e (fun _ z => by cases z), fun a _ _ e => g a _ e (fun _ z => by cases z)⟩
theorem ExtN.lst {H H' : Hp} {a : Addr} {xs : List V} (g : ExtN H H') (h : H a = some (.lst xs)) : H' a = some (.lst xs) := g a _ h (fun _ z => by cases z)
theorem ExtN.tup {H H' : Hp} {a : Addr} {xs : List V} (g : ExtN H H') (h : H a = some (.tup xs)) : H' a = some (.tup xs) := g a _ h (fun _ z => by cases z)
theorem ExtN.dK {H H' : Hp} {a : Addr} {xs : List (Key × V)} (g : ExtN H H') (h : H a = some (.dK xs)) : H' a = some (.dK xs) := g a _ h (fun _ z => by cases z)
/-- what an error's outcome is: class, field, word -/
def TTg (es : List (Addr × Str × Str)) : (XK → Hp → VK → Prop) → Hp → VK → Prop := fun tl H Q =>
  ∀ (H2 : Hp) (Qn : VK) (E : XK), Gr [] H H2 → (∀ v H3, (∀ p, H3 p = none → Q (.ref p) (upd H3 p (.lst [v]))) → Qn v H3) →
    (∀ (C d : Addr) (f w : Str) (v : V) (H3 : Hp), (C, f, w) ∈ es → H3 d = some (.xd [(f, v)]) → (∀ t H4, Gr [] H3 H4 → H4 t = some (.tup [.str w, v]) → Q (.ref t) H4) → E (.ref C) (some d) H3) → tl E H2 Qn
section
variable {K : PySem.W.Frag} {T : List (Addr × Str)} {σ : L2.St} {H : Hp}
def EvT (K : PySem.W.Frag) (T : List (Addr × Str)) (te : TE) (σ : L2.St) (H : Hp) (d : PyData) : Prop := ∀ H1, ExtN H H1 → Tabs T H1 → ∀ Q : VK, (∀ v H2, ExtN H1 H2 → Tabs T H2 → Dp K H2 v d → Q v H2) → te σ H1 Q
def EvTS (K : PySem.W.Frag) (T : List (Addr × Str)) (ta : TA) (σ : L2.St) (H : Hp) (ds : List PyData) : Prop := ∀ H1, ExtN H H1 → Tabs T H1 → ∀ Q : List V → Hp → Prop, (∀ vs H2, ExtN H1 H2 → Tabs T H2 → DpAll K H2 vs ds → Q vs H2) → ta σ H1 Q
def EvTL (K : PySem.W.Frag) (T : List (Addr × Str)) (te : TE) (σ : L2.St) (H : Hp) (ds : List PyData) : Prop := ∀ H1, ExtN H H1 → Tabs T H1 → ∀ Q : VK, (∀ p xs H2, ExtN H1 H2 → Tabs T H2 → H2 p = some (.lst xs) → DpAll K H2 xs ds → Q (.ref p) H2) → te σ H1 Q
theorem EvTL.d {te : TE} {ds : List PyData} (h : EvTL K T te σ H ds) : EvT K T te σ H (.list ds) := fun H1 g t Q q => h H1 g t Q fun p xs H2 g2 t2 e a => q _ H2 g2 t2 (dp_lst e a)
/-- what makes no lambda, whatever stands -/
theorem et_of {te : TE} {d : PyData} (h : ∀ H, EvD K te σ H d) : EvT K T te σ H d := fun H1 _ t Q q => h H1 H1 (Gr.refl _ _) Q fun v H2 g2 a => q v H2 (extOf g2) (tabsGr t g2) a
theorem el_of {te : TE} {ds : List PyData} (h : ∀ H, EvL K te σ H ds) : EvTL K T te σ H ds := fun H1 _ t Q q => h H1 H1 (Gr.refl _ _) Q fun p xs H2 g2 e a => q p xs H2 (extOf g2) (tabsGr t g2) e a
theorem et_var {i : Nat} {v : V} {d : PyData} (e : σ[i]? = some (some v)) (h : Dp K H v d) : EvT K T (tVar i) σ H d := fun H1 g t Q q => ⟨v, e, q v H1 (ExtN.refl _) t (Dp.kp (kpExt g) h)⟩
theorem etl_var {i : Nat} {p : Addr} {xs : List V} {ds : List PyData} (e : σ[i]? = some (some (.ref p))) (h : H p = some (.lst xs)) (a : DpAll K H xs ds) : EvTL K T (tVar i) σ H ds :=
  fun H1 g t Q q => ⟨_, e, q p xs H1 (ExtN.refl _) t (ExtN.lst g h) (DpAll.kp (kpExt g) a)⟩
theorem ets_nil : EvTS K T tNil σ H [] := fun H1 _ t Q q => q _ H1 (ExtN.refl _) t .nil
theorem ets_cons {te : TE} {ta : TA} {d : PyData} {ds : List PyData} (h : EvT K T te σ H d) (r : EvTS K T ta σ H ds) : EvTS K T (tCons te ta) σ H (d :: ds) := fun H1 g t Q q =>
  h H1 g t _ fun v H2 g2 t2 dv => r H2 (g.trans g2) t2 _ fun vs H3 g3 t3 dvs => q _ H3 (g2.trans g3) t3 (.cons (Dp.kp (kpExt g3) dv) dvs)
theorem et_tup {ta : TA} {ds : List PyData} (h : EvTS K T ta σ H ds) (hz : ds.length ≤ 1000 := by exact Nat.le_of_ble_eq_true rfl) : EvT K T (tTup ta) σ H (.tuple ds) := fun H1 g t Q q =>
  h H1 g t _ fun vs H2 g2 t2 a => ⟨by rw [dpAll_len a]; exact Nat.le_of_lt (small1000 hz), fun p np => q _ _ (g2.trans (extOf (Gr.new np))) (tabsGr t2 (Gr.new np)) (dp_tup upd_same (DpAll.kp (Kp.of (Gr.new np)) a))⟩
theorem etl_lst {ta : TA} {ds : List PyData} (h : EvTS K T ta σ H ds) (hz : ds.length ≤ 1000 := by exact Nat.le_of_ble_eq_true rfl) : EvTL K T (tLst ta) σ H ds := fun H1 g t Q q =>
  h H1 g t _ fun vs H2 g2 t2 a => ⟨by rw [dpAll_len a]; exact Nat.le_of_lt (small1000 hz), fun p np => q _ _ _ (g2.trans (extOf (Gr.new np))) (tabsGr t2 (Gr.new np)) upd_same (DpAll.kp (Kp.of (Gr.new np)) a)⟩
theorem etl_cat {ta tb : TE} {ds es : List PyData} (h1 : EvTL K T ta σ H ds) (h2 : EvTL K T tb σ H es) (hz : ds.length + es.length ≤ 1000 := by exact Nat.le_of_ble_eq_true rfl) : EvTL K T (tOp rCat ta tb) σ H (ds ++ es) := fun H1 g t Q q =>
  h1 H1 g t _ fun p xs H2 g2 t2 e2 a2 => h2 H2 (g.trans g2) t2 _ fun p3 ys H3 g3 t3 e3 a3 => by
    have e2' := ExtN.lst g3 e2
    refine ⟨p, p3, xs, ys, rfl, rfl, e2', e3, by rw [dpAll_len a2, dpAll_len a3]; exact Nat.le_of_lt (small1000 hz), fun p4 np => ?_⟩
    exact q p4 _ _ ((g2.trans g3).trans (extOf (Gr.new np))) (tabsGr t3 (Gr.new np)) upd_same (dpAll_append (DpAll.kp (kpExt (g3.trans (extOf (Gr.new np)))) a2) (DpAll.kp (Kp.of (Gr.new np)) a3))
theorem et_eq {ta tb : TE} {d e : PyData} (h1 : EvT K T ta σ H d) (h2 : EvT K T tb σ H e) (s1 : SeqAt.shaped d = true) (s2 : SeqAt.shaped e = true) : EvT K T (tOp (rEqD K) ta tb) σ H (.bool (PyData.eqv d e)) := fun H1 g t Q q =>
  h1 H1 g t _ fun v H2 g2 t2 a => h2 H2 (g.trans g2) t2 _ fun w H3 g3 t3 b => ⟨d, e, Dp.kp (kpExt g3) a, b, s1, s2, q _ H3 (g2.trans g3) t3 (.bl _)⟩
theorem et_ne {ta tb : TE} {d e : PyData} (h1 : EvT K T ta σ H d) (h2 : EvT K T tb σ H e) (s1 : SeqAt.shaped d = true) (s2 : SeqAt.shaped e = true) : EvT K T (tOp (rNeD K) ta tb) σ H (.bool (!PyData.eqv d e)) := fun H1 g t Q q =>
  h1 H1 g t _ fun v H2 g2 t2 a => h2 H2 (g.trans g2) t2 _ fun w H3 g3 t3 b => ⟨d, e, Dp.kp (kpExt g3) a, b, s1, s2, q _ H3 (g2.trans g3) t3 (.bl _)⟩
/-- what comes of a lambda whose body gives d -/
theorem et_out {es : List (Addr × Str × Str)} {t : XK → TE} {d : PyData} (h : ∀ E H, EvD K (t E) σ H d) : EvT K T (tLam T (TTg es) t) σ H (.list [d]) := fun H1 _ t1 Q q =>
  ⟨t1, fun H2 g2 t2 H3 Qn E g3 kn _ => h E H3 H3 (Gr.refl _ _) Qn fun v H4 g4 a => kn v H4 fun p np =>
    q _ _ (g2.trans (extOf ((g3.trans g4).trans (Gr.new np)))) (tabsGr t2 ((g3.trans g4).trans (Gr.new np))) (dp_lst upd_same (.cons (Dp.kp (Kp.of (Gr.new np)) a) .nil))⟩
/-- .. whose body raises an error with the value d -/
theorem et_outE {es : List (Addr × Str × Str)} {t : XK → TE} {d : PyData} {C : Addr} {f w : Str} (hm : (C, f, w) ∈ es)
    (h : ∀ (E : XK) (H1 : Hp) (Q : VK), (∀ (dd : Addr) (v : V) H2, Gr [] H1 H2 → H2 dd = some (.xd [(f, v)]) → Dp K H2 v d → E (.ref C) (some dd) H2) → t E σ H1 Q) : EvT K T (tLam T (TTg es) t) σ H (.tuple [.str w, d]) := fun H1 _ t1 Q q =>
  ⟨t1, fun H2 g2 t2 H3 Qn E g3 _ ke => h E H3 Qn fun dd v H4 g4 hd a => ke C dd f w v H4 hm hd fun t' H5 g5 h5 =>
    q _ _ (g2.trans (extOf ((g3.trans g4).trans g5))) (tabsGr t2 ((g3.trans g4).trans g5)) (dp_tup h5 (.cons (.str _) (.cons (Dp.kp (Kp.of g5) a) .nil)))⟩
theorem stt_asgL {te : TE} {i : Nat} {ds : List PyData} {D : Ends} (t : Tabs T H) (h : EvTL K T te σ H ds) (k : ∀ p xs H2, ExtN H H2 → Tabs T H2 → H2 p = some (.lst xs) → DpAll K H2 xs ds → D.nx (σ.set i (some (.ref p))) H2) : tAsg te (gName i) D σ H := h H (ExtN.refl _) t _ k
theorem stt_retB {te : TE} {b : Bool} {D : Ends} (t : Tabs T H) (h : EvT K T te σ H (.bool b)) (k : ∀ H2, ExtN H H2 → Tabs T H2 → D.rt (.bl b) H2) : tRet te D σ H := h H (ExtN.refl _) t _ fun v H2 g t2 e => by rw [dp_bool e]; exact k H2 g t2
theorem ttt_of {te : TE} {b : Bool} {H1 : Hp} {Q : Bool → Hp → Prop} (t : Tabs T H1) (h : EvT K T te σ H (.bool b)) (g : ExtN H H1) (q : ∀ H2, ExtN H1 H2 → Tabs T H2 → Q b H2) : tTest te σ H1 Q := h H1 g t _ fun v H2 g2 t2 e => ⟨b, dp_bool e, q H2 g2 t2⟩
theorem ttb_of {te : TE} {b : Bool} {H1 : Hp} {Q : Bool → Hp → Prop} (t : Tabs T H1) (h : EvT K T te σ H (.bool b)) (g : ExtN H H1) (q : ∀ H2, ExtN H1 H2 → Tabs T H2 → Q b H2) : tB te σ H1 Q := h H1 g t _ fun v H2 g2 t2 e => ⟨b, dp_bool e, q H2 g2 t2⟩
theorem et_andV {ta tb : TE} {a b : Bool} (h1 : EvT K T ta σ H (.bool a)) (h2 : EvT K T tb σ H (.bool b)) : EvT K T (tAndV ta tb) σ H (.bool (a && b)) := fun H1 g t Q q =>
  h1 H1 g t _ fun v H2 g2 t2 e => ⟨a, dp_bool e, by
    cases a with
    | true => exact iteT (h2 H2 (g.trans g2) t2 _ fun w H3 g3 t3 e3 => q w H3 (g2.trans g3) t3 e3)
    | false => exact iteF (q _ H2 g2 t2 (.bl false))⟩
theorem et_orV {ta tb : TE} {a b : Bool} (h1 : EvT K T ta σ H (.bool a)) (h2 : EvT K T tb σ H (.bool b)) : EvT K T (tOrV ta tb) σ H (.bool (a || b)) := fun H1 g t Q q =>
  h1 H1 g t _ fun v H2 g2 t2 e => ⟨a, dp_bool e, by
    cases a with
    | true => exact iteT (q _ H2 g2 t2 (.bl true))
    | false => exact iteF (h2 H2 (g.trans g2) t2 _ fun w H3 g3 t3 e3 => q w H3 (g2.trans g3) t3 e3)⟩
end
end Wn
namespace Wn
open PySem PySem.Spec PyProof.Rows L2 LamX
theorem tabsGrM {T : List (Addr × Str)} {H H' : Hp} {d : Addr} (t : Tabs T H) (g : Gr [d] H H') (h : ∃ kvs, H d = some (.dK kvs)) : Tabs T H' := fun p hp => by
  obtain ⟨kvs, hd⟩ := h
  obtain ⟨ps, h1, h2, h3⟩ := t p hp
  refine ⟨ps, g _ _ (by simp; exact ne_of h1 hd (by intro z; cases z)) h1, h2, fun pos cv hc => ?_⟩
  obtain ⟨c, e1, e2⟩ := h3 pos cv hc
  exact ⟨c, e1, g _ _ (by simp; exact ne_of e2 hd (by intro z; cases z)) e2⟩
theorem tabs0 {T : List (Addr × Str)} {H : Hp} (h : ∀ p ∈ T, H p.1 = some (.tbl #[])) : Tabs T H := fun p hp =>
  ⟨#[], h p hp, by trivial, fun pos cv hc => by cases hc⟩
def tInts : List Int → TA
  | [] => tNil
  | i :: r => tCons (tC (.int i)) (tInts r)
theorem tInts_go {σ : L2.St} {H : Hp} : ∀ {is : List Int} {Q : List V → Hp → Prop}, Q (is.map V.int) H → tInts is σ H Q
  | [], _, q => q
  | i :: r, Q, q => tInts_go (is := r) (Q := fun vs H2 => Q (.int i :: vs) H2) q
section
variable {K : PySem.W.Frag} {T : List (Addr × Str)} {σ : L2.St} {H : Hp}
theorem ev_powN {a c : Nat} (h : CPow a c) : EvD K (tOp (rI CPow fun i j => .int (i ^ j.toNat)) (tC (.int (a : Nat))) (tC (.int (c : Nat)))) σ H (.int ((a ^ c : Nat) : Int)) := fun H1 _ Q q => ⟨a, c, rfl, rfl, h, by
  have e : ((a : Nat) : Int) ^ ((c : Nat) : Int).toNat = ((a ^ c : Nat) : Int) := by rw [Int.toNat_natCast, Int.natCast_pow]
  show Q (.int (((a : Nat) : Int) ^ ((c : Nat) : Int).toNat)) H1
  rw [e]
  exact q _ H1 (Gr.refl _ _) (.int _)⟩
theorem ev_pow {a c : Int} (h : CPow a c) : EvD K (tOp (rI CPow fun i j => .int (i ^ j.toNat)) (tC (.int a)) (tC (.int c))) σ H (.int (a ^ c.toNat)) := fun H1 _ Q q => ⟨a, c, rfl, rfl, h, q _ H1 (Gr.refl _ _) (.int _)⟩
end
end Wn
namespace Wn
open PySem PySem.Spec PyProof.Rows L2
theorem tab_mk {K : PySem.W.Frag} {x : Str} {f c P : Addr} {oc c1 : Value} {od d1 : Option Addr} {fd : FuncData} {sl s1 : Array (Option Value)} {vs : Array Value} (a : PySem.W.nsIn K mainGlobals x = some (some (.ref f))) (l : K.lookup f = some ⟨oc, od, .func fd, sl⟩) (e : fd.code = .ref c)
    (l2 : K.lookup c = some ⟨c1, d1, .fields vs, s1⟩) (h : vs[11]? = some (.ref P)) : PySem.W.tabIn K x = some (c, P) := by
  unfold PySem.W.tabIn
  rw [a]
  dsimp only
  rw [l]
  dsimp only
  rw [e]
  dsimp only
  rw [l2]
  dsimp only
  rw [h]
end Wn
namespace Wn
open PySem PySem.Spec PyProof.Rows L2 LamX
section
variable {K : PySem.W.Frag} {T : List (Addr × Str)} {σ : L2.St} {H : Hp} {es : List (Addr × Str × Str)} {t : XK → TE} {d : PyData}
/-- .. over what stands here -/
theorem et_outV (h : ∀ (E : XK) (H1 : Hp), ExtN H H1 → ∀ Q : VK, (∀ v H2, Gr [] H1 H2 → Dp K H2 v d → Q v H2) → t E σ H1 Q) : EvT K T (tLam T (TTg es) t) σ H (.list [d]) := fun H1 g0 t1 Q q =>
  ⟨t1, fun H2 g2 t2 H3 Qn E g3 kn _ => h E H3 ((g0.trans g2).trans (extOf g3)) Qn fun v H4 g4 a => kn v H4 fun p np =>
    q _ _ (g2.trans (extOf ((g3.trans g4).trans (Gr.new np)))) (tabsGr t2 ((g3.trans g4).trans (Gr.new np))) (dp_lst upd_same (.cons (Dp.kp (Kp.of (Gr.new np)) a) .nil))⟩
theorem et_outX {C : Addr} {f w : Str} (hm : (C, f, w) ∈ es)
    (h : ∀ (E : XK) (H1 : Hp), ExtN H H1 → ∀ (Q : VK), (∀ (dd : Addr) (v : V) H2, Gr [] H1 H2 → H2 dd = some (.xd [(f, v)]) → Dp K H2 v d → E (.ref C) (some dd) H2) → t E σ H1 Q) : EvT K T (tLam T (TTg es) t) σ H (.tuple [.str w, d]) := fun H1 g0 t1 Q q =>
  ⟨t1, fun H2 g2 t2 H3 Qn E g3 _ ke => h E H3 ((g0.trans g2).trans (extOf g3)) Qn fun dd v H4 g4 hd a => ke C dd f w v H4 hm hd fun t' H5 g5 h5 =>
    q _ _ (g2.trans (extOf ((g3.trans g4).trans g5))) (tabsGr t2 ((g3.trans g4).trans g5)) (dp_tup h5 (.cons (.str _) (.cons (Dp.kp (Kp.of g5) a) .nil)))⟩
theorem EvT.on {te : TE} {H' : Hp} (h : EvT K T te σ H d) (g : ExtN H H') : EvT K T te σ H' d := fun H1 g1 t1 Q q => h H1 (g.trans g1) t1 Q q
end
end Wn
namespace Wn
open PySem PySem.Spec PyProof.Rows L2 LamX
section
variable {K : PySem.W.Frag} {T : List (Addr × Str)} {σ : L2.St} {H : Hp}
/-- the first part of «or» in a test, false -/
theorem ttt_orL {te : TE} {u : TT} {b : Bool} {Q : Bool → Hp → Prop} (t : Tabs T H) (h : EvT K T te σ H (.bool b)) (hb : b = false) (q : ∀ H2, ExtN H H2 → Tabs T H2 → u σ H2 Q) : tOr (tTest te) u σ H Q := h H (ExtN.refl _) t _ fun v H2 g2 t2 e => ⟨b, dp_bool e, iteFb hb (q H2 g2 t2)⟩
end
end Wn
namespace Wn
open PySem PySem.Spec PyProof.Rows L2
/-! a list grown: data in which no list of its size stands, stay -/
mutual
def noLen (n : Nat) : PyData → Bool
  | .list xs => decide (xs.length ≠ n) && noLenAll n xs
  | .tuple xs => noLenAll n xs
  | _ => true
def noLenAll (n : Nat) : List PyData → Bool
  | [] => true
  | x :: xs => noLen n x && noLenAll n xs
end
mutual
theorem Dp.app {K : PySem.W.Frag} {H : Hp} {l : Addr} {xs : List V} {y : V} (h : H l = some (.lst xs)) : ∀ {v : V} {d : PyData}, Dp K H v d → noLen xs.length d = true → Dp K (upd H l (.lst (xs ++ [y]))) v d
  | _, _, .non, _ => .non
  | _, _, .bl b, _ => .bl b
  | _, _, .int i, _ => .int i
  | _, _, .str z, _ => .str z
  | _, _, .lst (a := a) (xs := zs) (ds := ds) s t, n => by
    rw [noLen, Bool.and_eq_true, decide_eq_true_eq] at n
    have hl := dpAll_len t
    refine .lst ?_ (DpAll.app h t n.2)
    rcases s with (s | ⟨o, s⟩) | s
    · by_cases e : a = l
      · subst e
        rw [h] at s
        cases s
        exact absurd hl.symm n.1
      · exact .inl (.inl (by rw [upd_ne e]; exact s))
    · exact .inl (.inr ⟨o, by rw [upd_ne (fun e => by rw [e, h] at s; cases s)]; exact s⟩)
    · exact .inr s
  | _, _, .tup (a := a) (xs := zs) (ds := ds) s t, n => by
    rw [noLen] at n
    refine .tup ?_ (DpAll.app h t n)
    rcases s with (s | ⟨o, s⟩) | s
    · exact .inl (.inl (by rw [upd_ne (fun e => by rw [e, h] at s; cases s)]; exact s))
    · exact .inl (.inr ⟨o, by rw [upd_ne (fun e => by rw [e, h] at s; cases s)]; exact s⟩)
    · exact .inr s
theorem DpAll.app {K : PySem.W.Frag} {H : Hp} {l : Addr} {xs : List V} {y : V} (h : H l = some (.lst xs)) : ∀ {vs : List V} {ds : List PyData}, DpAll K H vs ds → noLenAll xs.length ds = true → DpAll K (upd H l (.lst (xs ++ [y]))) vs ds
  | _, _, .nil, _ => .nil
  | _, _, .cons a b, n => by
    rw [noLenAll, Bool.and_eq_true] at n
    exact .cons (Dp.app h a n.1) (DpAll.app h b n.2)
end
/-- the tables stay where a list grows -/
theorem tabsApp {T : List (Addr × Str)} {H : Hp} {l : Addr} {xs ys : List V} (t : LamX.Tabs T H) (h : H l = some (.lst xs)) : LamX.Tabs T (upd H l (.lst ys)) := fun p hp => by
  obtain ⟨ps, h1, h2, h3⟩ := t p hp
  refine ⟨ps, by rw [upd_ne (ne_of h1 h (by intro z; cases z))]; exact h1, h2, fun pos cv hc => ?_⟩
  obtain ⟨c, e1, e2⟩ := h3 pos cv hc
  exact ⟨c, e1, by rw [upd_ne (ne_of e2 h (by intro z; cases z))]; exact e2⟩
end Wn
namespace Wn
open PySem PySem.Spec PyProof.Rows L2 LamX
section
variable {K : PySem.W.Frag} {T : List (Addr × Str)} {σ : L2.St} {H : Hp}
theorem noLenAll_app (n : Nat) : ∀ xs ys : List PyData, noLenAll n (xs ++ ys) = (noLenAll n xs && noLenAll n ys)
  | [], ys => by simp [noLenAll]
  | x :: xs, ys => by
    have ih := noLenAll_app n xs ys
    show noLenAll n (x :: (xs ++ ys)) = _
    rw [noLenAll, noLenAll, ih, Bool.and_assoc]
/-- l.append(e) -/
theorem stt_app {te : TE} {i : Nat} {l : Addr} {xs : List V} {ds : List PyData} {d : PyData} {D : Ends} (t : Tabs T H) (hi : σ[i]? = some (some (.ref l))) (e : H l = some (.lst xs)) (a : DpAll K H xs ds) (h : EvT K T te σ H d) (hn : noLenAll ds.length (ds ++ [d]) = true) (hz : ds.length < 1000)
    (k : ∀ ys H2, Tabs T H2 → H2 l = some (.lst ys) → DpAll K H2 ys (ds ++ [d]) → D.nx σ H2) : tDrop (tBM K "list" rAppend (tVar i) (tCons te tNil)) D σ H := by
  refine ⟨_, hi, .inl ⟨rfl, _, sq_lst e⟩, ?_⟩
  refine h H (ExtN.refl _) t _ fun v H2 g2 t2 dv => ?_
  have hl := dpAll_len a
  have e2 := ExtN.lst g2 e
  have a2 := DpAll.kp (kpExt g2) a
  rw [noLenAll_app, Bool.and_eq_true] at hn
  have n2 : noLen ds.length d = true := by
    have := hn.2
    rw [noLenAll, Bool.and_eq_true] at this
    exact this.1
  refine ⟨l, xs, v, rfl, rfl, e2, Nat.lt_of_lt_of_le (show xs.length < 6000 by omega) (by decide), ?_⟩
  refine k (xs ++ [v]) _ (tabsApp t2 e2) upd_same (dpAll_append (DpAll.app e2 a2 (by rw [hl]; exact hn.1)) (.cons (Dp.app e2 dv (by rw [hl]; exact n2)) .nil))
theorem stt_set {te : TE} {i : Nat} {d : PyData} {D : Ends} (t : Tabs T H) (h : EvT K T te σ H d) (k : ∀ v H2, ExtN H H2 → Tabs T H2 → Dp K H2 v d → D.nx (σ.set i (some v)) H2) : tAsg te (gName i) D σ H := h H (ExtN.refl _) t _ k
theorem et_repr {te : TE} {d : PyData} (h : EvT K T te σ H d) (f : Fits d) : EvT K T (tCB (rRepr K) (tCons te tNil)) σ H (.str d.shown) := fun H1 g t Q q =>
  h H1 g t _ fun v H2 g2 t2 a => ⟨v, d, rfl, a, f, q _ H2 g2 t2 (.str _)⟩
/-- two texts compared -/
theorem et_eqS {ta tb : TE} {x y : Str} (h1 : EvT K T ta σ H (.str x)) (h2 : EvT K T tb σ H (.str y)) : EvT K T (tOp rEq ta tb) σ H (.bool (decide (x = y))) := fun H1 g t Q q =>
  h1 H1 g t _ fun v H2 g2 t2 a => h2 H2 (g.trans g2) t2 _ fun w H3 g3 t3 b => by
    have e1 : v = .str x := by cases a; rfl
    have e2 : w = .str y := by cases b; rfl
    subst e1 e2
    refine ⟨rfl, ?_⟩
    have e3 : decide (V.str x = V.str y) = decide (x = y) := by
      rw [decide_eq_decide]
      exact ⟨fun z => V.str.inj z, fun z => by rw [z]⟩
    show Q (.bl (decide (V.str x = V.str y))) H3
    rw [e3]
    exact q _ H3 (g2.trans g3) t3 (.bl _)
end
end Wn
namespace Wn
open PySem PySem.Spec PyProof.Rows L2
open PySem.HandSPX
section
variable {X : Cx} {C : Addr} {f : Str}
/-- error.f, the error that the suite holds (at a; its class cls, its dict d) -/
def tByE (C : Addr) (f : Str) (a : Addr) (cls : Value) (d : Option Addr) (te : TE) : TE := fun σ H Q => te σ H fun x H1 => x = .ref a ∧ cls = .ref C ∧ ∃ (dd : Addr) (v : V), d = some dd ∧ H1 dd = some (.xd [(f, v)]) ∧ Q v H1
theorem pe_byE {a : Addr} {oe : Obj} {cls : Value} {d : Option Addr} {pn : List (Addr × Obj)} {e : Expr} {te : TE} {pos : Pos} (T : XfC X.K C) (hno : PySem.W.findIn X.K (.ref C) f = some none) (hz : Zc cls d oe) (hf : ∃ vs, oe.data = .fields vs) (he : PE (X.suite a ((a, oe) :: pn)) e te)
    (hb : attributeBase e f X.env (eval e X.env) = eval e X.env := by rfl) :
    PE (X.suite a ((a, oe) :: pn)) (.Attribute e f pos) (tByE C f a cls d te) := by
  refine ⟨fun pins s σ H Q I h => ?_⟩
  refine attr_of hb (thn (he.run pins s σ H _ I h) fun u s1 hh => ?_)
  obtain ⟨x, H1, I1, rx, ex, ec, dd, v, ed, ea, q⟩ := hh
  subst ex
  obtain rfl : u = Value.ref a := rx
  subst ec
  subst ed
  obtain ⟨ha, _⟩ := I1.pin (a, oe) (List.mem_append_left _ List.mem_cons_self)
  obtain ⟨vs, hd⟩ := hf
  have hx : ObjOk X.prog X.w H1 s1.heap dd (.xd [(f, v)]) := I1.hok dd _ ea
  obtain ⟨mA, hns, hr⟩ := hx
  obtain ⟨od, ho, hl⟩ := lookIn_ns hns
  have l : List.lookup f [(f, v)] = some v := by simp [List.lookup]
  obtain ⟨u, hu, ru⟩ := RelO.some_of (v := v) (o := mA f) (by rw [← l]; exact hr f)
  have J : PySem.W.InstAt s1.heap a oe C (some od) := ⟨ha, hz.1, by unfold PySem.W.notCls; rw [hd] <;> rfl, by rw [hz.2]; exact ho⟩
  exact PySem.HandSPX.exc_get I1.kIn J T.ga T.gg T.exC (PySem.W.findObj_own T.hdC hno rfl (by rw [hl, hu])) (handed_of ru) ⟨v, H1, I1.tok _, ru, q⟩
end
section
variable {X : Cx}
def rLcm : List V → Hp → VK → Prop := fun vs H Q => ∃ a b : Nat, vs = [.int a, .int b] ∧ (a ≤ 100000 ∧ b ≤ 100000) ∧ Q (.int ((Nat.lcm a b : Nat) : Int)) H
theorem cr_lcm : CallR X (.builtin "math.lcm") rLcm := by
  intro pins s σ H vs us Q I r h
  obtain ⟨a, b, rfl, ⟨ha, hb⟩, q⟩ := h
  obtain ⟨t, u, rfl⟩ := Vals.int2 r
  have e : (((Nat.lcm 1 (a : Int).natAbs).lcm (b : Int).natAbs : Nat) : Int) = ((Nat.lcm a b : Nat) : Int) := by
    rw [Int.natAbs_natCast, Int.natAbs_natCast, Nat.lcm_one_left]
  refine PySem.W.mg_lcm (by rw [Int.natAbs_natCast]; omega) (by rw [Int.natAbs_natCast]; omega) ?_ ?_
  · rw [e, Int.natAbs_natCast]
    have h1 : Nat.lcm a b ≤ a * b := by
      unfold Nat.lcm
      exact Nat.div_le_self _ _
    have h2 : a * b ≤ 100000 * 100000 := Nat.mul_le_mul ha hb
    have h3 : Nat.lcm a b < 2 ^ 40 := Nat.lt_of_le_of_lt (Nat.le_trans h1 h2) (by decide)
    exact Nat.lt_trans (PySem.Flt.log2_lt_of (by decide) h3) (by decide)
  · rw [e]
    exact ⟨.int _, H, I.tok _, ⟨_, rfl⟩, q⟩
/-- t.index(x), ints, the first place -/
def rIdxT (K : PySem.W.Frag) : V → List V → Hp → VK → Prop := fun x xs H Q => ∃ (p : Addr) (ys : List Nat) (z j : Nat), x = .ref p ∧ xs = [.int (z : Nat)] ∧ SqT K H p (vn ys) ∧ ys[j]? = some z ∧ (∀ m, m < j → ys[m]? ≠ some z) ∧ Q (.int (j : Nat)) H
theorem flat_vnT : ∀ xs : List Nat, (vn xs).all flatV = true
  | [] => rfl
  | x :: r => by
    show (true && (vn r).all flatV) = true
    rw [flat_vnT r]
    rfl
theorem mt_tup_indexN : MtR X "tuple.index" (rIdxT X.K) := by
  intro pins s σ H x xs v us Q I rx rs h
  obtain ⟨p, ys, z, j, rfl, rfl, hq, hy, hno, q⟩ := h
  cases rx
  obtain ⟨u, rfl, t, rfl⟩ := vals1 rs
  obtain ⟨its, r, pl, hz⟩ := I.tuple hq
  obtain ⟨⟨cls, dd, dt, sl⟩, ho, hc, n, hd⟩ := pl
  simp only at hc hd
  subst hc
  subst hd
  have hl : its.toArray.size = ys.length := by rw [List.size_toArray, ← r.length, vn_len]
  have hj : j < its.toArray.size := by rw [hl]; exact (List.getElem?_eq_some_iff.mp hy).1
  have at' : ∀ (m : Nat) (hm : m < its.toArray.size), ∃ (y : Nat) (t' : Tok), ys[m]? = some y ∧ its.toArray[m] = Value.int (y : Nat) t' := fun m hm => by
    have hm' : m < ys.length := by rw [← hl]; exact hm
    obtain ⟨w, hw, t', hw'⟩ := r.get (i := m) (x := .int (ys[m] : Nat)) (by simp [vn, hm'])
    refine ⟨ys[m], t', List.getElem?_eq_getElem hm', ?_⟩
    have e := (List.getElem?_eq_some_iff.mp hw).2
    rw [← hw', ← e]
    simp
  refine call_meets PySem.F.slot_tuple_index ⟨_, ho, rfl⟩ PySem.F.entry_tuple_index (PySem.F.args_tuple_index_2 _ _) (TI.tuple_indexAt p its.toArray n dd sl (.int (z : Nat) t) (eqU (.int (z : Nat))) j hj ?_ ?_)
    ⟨ho, fun w hw => mem_eqAt (x := .int (z : Nat)) ⟨t, rfl⟩ rfl r (flat_vnT ys) w (by simpa using hw), ⟨.int (j : Nat), H, I.tok _, ⟨_, rfl⟩, q⟩⟩
  · obtain ⟨y, t', h1, h2⟩ := at' j hj
    rw [hy] at h1
    cases h1
    rw [h2]
    show (((z : Nat) : Int) == ((z : Nat) : Int)) = true
    exact beq_self_eq_true _
  · intro m hm hmj
    obtain ⟨y, t', h1, h2⟩ := at' m hm
    rw [h2]
    show (((y : Nat) : Int) == ((z : Nat) : Int)) = false
    rw [beq_eq_false_iff_ne]
    intro e
    have : y = z := by omega
    exact hno m hmj (by rw [h1, this])
/-- tuple(xs), xs a list: the object is known whole, so that its methods may be called -/
def rTpF (K : PySem.W.Frag) : List V → Hp → VK → Prop := fun xs H Q => ∃ p ys, xs = [.ref p] ∧ SqL K H p ys ∧ ∀ l o, o.dict = none → H l = none → Q (.ref l) (upd H l (.frz o (.tup ys)))
theorem call_tpF : CallR X (.type "tuple") (rTpF X.K) := by
  intro pins s σ H xs us Q I r h
  obtain ⟨p, ys, rfl, hq, q⟩ := h
  obtain ⟨u, rfl, rx⟩ := vals1 r
  cases rx
  obtain ⟨its, r', pl, hz⟩ := I.list hq
  have hlen := r'.length
  refine call_tuple_list pl.isList (fun h' kp => ?_) (by simp only [List.size_toArray] <;> omega)
  have I1 : Inv X pins σ H { s with heap := h' } := I.kept (t' := s.toks) kp
  have I2 : Inv X pins σ (upd H h'.objs.size (.frz { cls := .type "tuple", data := .seq its.toArray } (.tup ys))) { s with heap := h'.push { cls := .type "tuple", data := .seq its.toArray } } :=
    I1.laid (t' := s.toks) (fun b o e => Heap.get?_push_of_some _ e) (Nat.le_refl _) (show ObjOk X.prog X.w _ _ _ (.frz { cls := .type "tuple", data := .seq its.toArray } (.tup ys)) from ⟨Heap.get?_push_size _ rfl, hz, its, r', IsTup.new _ _⟩)
  exact ⟨.ref h'.objs.size, _, I2, rfl, q _ _ rfl (I1.hok.fresh (Nat.le_refl _))⟩
variable {name : Str} {idn : String} {r : V → List V → Hp → VK → Prop} {o e : Expr} {es : List Expr} {to : TE} {t : TA} {apos cpos : Pos}
def tBMT (r : V → List V → Hp → VK → Prop) (to : TE) (t : TA) : TE := fun σ H Q => to σ H fun x H1 => (∃ (p : Addr) (ob : Obj) (xs : List V), x = .ref p ∧ H1 p = some (.frz ob (.tup xs)) ∧ ob.dict = none) ∧ t σ H1 fun xs H2 => r x xs H2 Q
theorem pe_bmT (pa : PlainAttrs "tuple") (slot : Slot "tuple" name idn) (hty : typeOf (.builtin idn) = pure (.type "method_descriptor")) (hm : MtR X idn r) (ho : PE X o to) (ha : PA X (e :: es) t)
    (hbase : attributeBase o name X.env (eval o X.env) = eval o X.env := by rfl)
    (hfew : ((backTo cpos (starEach (e :: es) X.env)).all (fun x => !x.1) && (backToKw cpos (keywordEach [] X.env)).all (fun x => x.1.isSome)
      && decide ((e :: es).length + ([] : List Keyword).length + (if ([] : List Keyword).isEmpty then 0 else 1) < 30)) = true := by rfl)
    (hline : (apos.endLine == cpos.line) = true := by rfl) (hs : starEach (e :: es) X.env = (false, eval e X.env) :: starEach es X.env := by rfl) (hplain : (backTo cpos (starEach es X.env)).any (·.1) = false := by rfl) :
    PE X (.Call (.Attribute o name apos) (e :: es) [] cpos) (tBMT r to t) := by
  refine ⟨fun pins s σ H Q I h => ?_⟩
  refine wpAny_Call_method_late hbase hfew hline rfl (thn (ho.run pins s σ H _ I h) fun v s1 ⟨x, H1, I1, r1, ty, q1⟩ => ?_)
  obtain ⟨p, ob, xs, rfl, hp, hd⟩ := ty
  obtain rfl : v = Value.ref p := r1
  obtain ⟨hg, _, its, _, o2, hg2, hc2, _⟩ := I1.hok p _ hp
  rw [hg] at hg2
  cases hg2
  have h1 : s1.TypeIs (.ref p) "tuple" := ⟨ob, hg, hc2⟩
  have h2 : ∀ a, Value.ref p = .ref a → ∃ ob, s1.heap.get? a = some ob ∧ ob.dict = none := fun a e => by
    cases e
    exact ⟨ob, hg, hd⟩
  refine ⟨"tuple", idn, pa, slot, hty, h1, h2, ?_⟩
  have hA := ha.run cpos pins s1 σ H1 _ I1 q1
  rw [hs] at hA ⊢
  refine Calls.callWith_builtin (by show (false || (backTo cpos (starEach es X.env)).any (·.1)) = false; rw [hplain] <;> rfl) (Calls.evalArgs_plain ?_)
  exact thn hA fun us s2 ⟨vs, H2, I2, r2, q2⟩ => hm pins s2 σ H2 (.ref p) vs (.ref p) us Q I2 rfl r2 q2
end
end Wn
namespace Wn
open PySem PySem.Spec PyProof.Rows L2
local macro_rules | `(tactic| walk_at "vc") => `(tactic| simp only [cxK, cxK2, start1, start2, start3, tRet, tRetN, tSeq, tNext, tIfS, tAsg, gName, tDrop, tVar, tC, tOp, tUn, tTest, tB, tNot, tAnd, tOr, tAndV, tOrV, tNotV, tIf, tCons, tNil, tCB, tCall, tChain, tAug, ipI, rI, rI0, rU, rIs, rGcd, rEq, rNe, scal,
  List.getElem?_cons_zero, List.getElem?_cons_succ, List.set_cons_zero, List.set_cons_succ, Option.some.injEq, List.cons.injEq, V.int.injEq, V.bl.injEq, V.ref.injEq, V.str.injEq, and_true, true_and, exists_eq_left, exists_eq_left', exists_and_left, exists_and_right, List.append_nil, List.nil_append, List.cons_append, exists_eq_right, exists_eq_right', and_assoc, exists_const, V.ty.injEq, ↓reduceIte, Bool.false_eq_true, Bool.not_true, Bool.not_false, decide_eq_true_eq])
def topS (i : Nat) : Stmt := PySem.Challenge.pw_wheelnines_k46_whole_exponents.main.body.getD i (.Pass ⟨0, 0, 0, 0⟩)
abbrev s_is_integer : Stmt := topS 10
theorem sc_is_integer : FnScope ["value"] ["value"] (defScope s_is_integer) := ⟨rfl, rfl, rfl, by decide +kernel, rfl, by decide +kernel, by decide +kernel⟩
abbrev s_is_within : Stmt := topS 11
theorem sc_is_within : FnScope ["value", "low", "high"] ["value", "low", "high"] (defScope s_is_within) := ⟨rfl, rfl, rfl, by decide +kernel, rfl, by decide +kernel, by decide +kernel⟩
abbrev s_need_base : Stmt := topS 12
theorem sc_need_base : FnScope ["value"] ["value"] (defScope s_need_base) := ⟨rfl, rfl, rfl, by decide +kernel, rfl, by decide +kernel, by decide +kernel⟩
abbrev s_need_denominator : Stmt := topS 13
theorem sc_need_denominator : FnScope ["value"] ["value"] (defScope s_need_denominator) := ⟨rfl, rfl, rfl, by decide +kernel, rfl, by decide +kernel, by decide +kernel⟩
abbrev s_pure_part : Stmt := topS 14
theorem sc_pure_part : FnScope ["base", "denominator", "pure", "common"] ["base", "denominator"] (defScope s_pure_part) := ⟨rfl, rfl, rfl, by decide +kernel, rfl, by decide +kernel, by decide +kernel⟩
abbrev s_period : Stmt := topS 15
theorem sc_period : FnScope ["base", "denominator", "pure", "one", "rest", "size"] ["base", "denominator"] (defScope s_period) := ⟨rfl, rfl, rfl, by decide +kernel, rfl, by decide +kernel, by decide +kernel⟩
abbrev s_head_size : Stmt := topS 16
theorem sc_head_size : FnScope ["base", "denominator", "impure", "rest", "size"] ["base", "denominator"] (defScope s_head_size) := ⟨rfl, rfl, rfl, by decide +kernel, rfl, by decide +kernel, by decide +kernel⟩
abbrev s_power_rest : Stmt := topS 17
theorem sc_power_rest : FnScope ["number", "exponent", "divisor", "rest", "square", "left"] ["number", "exponent", "divisor"] (defScope s_power_rest) := ⟨rfl, rfl, rfl, by decide +kernel, rfl, by decide +kernel, by decide +kernel⟩
abbrev s_spaced : Stmt := topS 19
theorem sc_spaced : FnScope ["base", "fraction", "size", "count", "numerator", "denominator", "step", "rests", "rest", "_"] ["base", "fraction", "size", "count"] (defScope s_spaced) := ⟨rfl, rfl, rfl, by decide +kernel, rfl, by decide +kernel, by decide +kernel⟩
abbrev s_need_weight : Stmt := topS 23
theorem sc_need_weight : FnScope ["value"] ["value"] (defScope s_need_weight) := ⟨rfl, rfl, rfl, by decide +kernel, rfl, by decide +kernel, by decide +kernel⟩
abbrev s_leaves_weight : Stmt := topS 24
theorem sc_leaves_weight : FnScope ["base", "denominator", "exponent", "weight"] ["base", "denominator", "exponent", "weight"] (defScope s_leaves_weight) := ⟨rfl, rfl, rfl, by decide +kernel, rfl, by decide +kernel, by decide +kernel⟩
abbrev s_power_rests : Stmt := topS 25
theorem sc_power_rests : FnScope ["base", "denominator", "count"] ["base", "denominator"] (defScope s_power_rests) := ⟨rfl, rfl, rfl, by decide +kernel, rfl, by decide +kernel, by decide +kernel⟩
abbrev s_least_exponent : Stmt := topS 26
theorem sc_least_exponent : FnScope ["base", "denominator", "weight", "rests", "wanted"] ["base", "denominator", "weight"] (defScope s_least_exponent) := ⟨rfl, rfl, rfl, by decide +kernel, rfl, by decide +kernel, by decide +kernel⟩
abbrev s_exponents : Stmt := topS 27
theorem sc_exponents : FnScope ["base", "denominator", "weight", "first"] ["base", "denominator", "weight"] (defScope s_exponents) := ⟨rfl, rfl, rfl, by decide +kernel, rfl, by decide +kernel, by decide +kernel⟩
abbrev s_exponent_paper : Stmt := topS 28
theorem sc_exponent_paper : FnScope ["base", "denominator", "weight", "first"] ["base", "denominator", "weight"] (defScope s_exponent_paper) := ⟨rfl, rfl, rfl, by decide +kernel, rfl, by decide +kernel, by decide +kernel⟩
abbrev s_proves_never : Stmt := topS 29
theorem sc_proves_never : FnScope ["base", "denominator", "weight", "remainders", "rest"] ["base", "denominator", "weight", "remainders"] (defScope s_proves_never) := ⟨rfl, rfl, rfl, by decide +kernel, rfl, by decide +kernel, by decide +kernel⟩
abbrev s_check_exponent : Stmt := topS 30
theorem sc_check_exponent : FnScope ["base", "denominator", "weight", "paper", "kind", "proof", "holds"] ["base", "denominator", "weight", "paper"] (defScope s_check_exponent) := ⟨rfl, rfl, rfl, by decide +kernel, rfl, by decide +kernel, by decide +kernel⟩
abbrev s_law_begun : Stmt := topS 32
theorem sc_law_begun : FnScope ["script", "k", "cells", "great", "cell", "seed"] ["script", "k"] (defScope s_law_begun) := ⟨rfl, rfl, rfl, by decide +kernel, rfl, by decide +kernel, by decide +kernel⟩
abbrev s_law_draw : Stmt := topS 33
theorem sc_law_draw : FnScope ["m", "limit", "found", "spot", "cells", "added", "cell", "blend"] ["m", "limit"] (defScope s_law_draw) := ⟨rfl, rfl, rfl, by decide +kernel, rfl, by decide +kernel, by decide +kernel⟩
abbrev s_law_of : Stmt := topS 34
theorem sc_law_of : FnScope ["m", "some"] ["m", "some"] (defScope s_law_of) := ⟨rfl, rfl, rfl, by decide +kernel, rfl, by decide +kernel, by decide +kernel⟩
abbrev s_law_powers : Stmt := topS 35
theorem sc_law_powers : FnScope ["b", "n", "some", "rest"] ["b", "n"] (defScope s_law_powers) := ⟨rfl, rfl, rfl, by decide +kernel, rfl, by decide +kernel, by decide +kernel⟩
abbrev s_law_raised : Stmt := topS 36
theorem sc_law_raised : FnScope ["b", "times", "n", "found", "square", "left"] ["b", "times", "n"] (defScope s_law_raised) := ⟨rfl, rfl, rfl, by decide +kernel, rfl, by decide +kernel, by decide +kernel⟩
abbrev s_law_own : Stmt := topS 37
theorem sc_law_own : FnScope ["b", "n", "weight_so", "some", "again", "row", "first"] ["b", "n", "weight_so"] (defScope s_law_own) := ⟨rfl, rfl, rfl, by decide +kernel, rfl, by decide +kernel, by decide +kernel⟩
abbrev s_law_is_int : Stmt := topS 38
theorem sc_law_is_int : FnScope ["thing", "low", "high"] ["thing", "low", "high"] (defScope s_law_is_int) := ⟨rfl, rfl, rfl, by decide +kernel, rfl, by decide +kernel, by decide +kernel⟩
abbrev s_law_due : Stmt := topS 39
theorem sc_law_due : FnScope ["b", "n", "weight_so", "thing", "is_so", "found", "row"] ["b", "n", "weight_so", "thing"] (defScope s_law_due) := ⟨rfl, rfl, rfl, by decide +kernel, rfl, by decide +kernel, by decide +kernel⟩
abbrev s_law_heard : Stmt := topS 40
theorem sc_law_heard : FnScope ["b", "n", "weight_so", "thing", "error"] ["b", "n", "weight_so", "thing"] (defScope s_law_heard) := ⟨rfl, rfl, rfl, by decide +kernel, rfl, by decide +kernel, by decide +kernel⟩
abbrev s_law_right : Stmt := topS 41
theorem sc_law_right : FnScope ["m", "b", "n", "weight_so", "found", "row", "due", "again", "some", "odd", "more", "thing", "kept_so", "own", "heard"] ["m", "b", "n", "weight_so"] (defScope s_law_right) := ⟨rfl, rfl, rfl, by decide +kernel, rfl, by decide +kernel, by decide +kernel⟩
abbrev s_law_hand_right : Stmt := topS 42
theorem sc_law_hand_right : FnScope ["rows", "n", "weight_so", "due", "told", "k"] [] (defScope s_law_hand_right) := ⟨rfl, rfl, rfl, by decide +kernel, rfl, by decide +kernel, by decide +kernel⟩
abbrev s_law : Stmt := topS 43
theorem sc_law : FnScope ["script", "k", "m", "b", "n", "some", "weight_so"] ["script"] (defScope s_law) := ⟨rfl, rfl, rfl, by decide +kernel, rfl, by decide +kernel, by decide +kernel⟩
def clsB (st : Stmt) (j : Nat) : Stmt := match st with
  | .ClassDef (body := b) .. => b.getD j (.Pass ⟨0, 0, 0, 0⟩)
  | _ => .Pass ⟨0, 0, 0, 0⟩
abbrev s_BadPaper_init : Stmt := clsB (topS 6) 0
theorem sc_BadPaper_init : FnScope ["self", "part"] ["self", "part"] (defScope s_BadPaper_init) := ⟨rfl, rfl, rfl, by decide +kernel, rfl, by decide +kernel, by decide +kernel⟩
structure Txt (K : PySem.W.Frag) (mg : Str → Option Value) where
  d_is_integer : Dn K mg "is_integer" s_is_integer ["value"]
  d_is_within : Dn K mg "is_within" s_is_within ["value", "low", "high"]
  d_need_base : Dn K mg "need_base" s_need_base ["value"]
  d_need_denominator : Dn K mg "need_denominator" s_need_denominator ["value"]
  d_pure_part : Dn K mg "pure_part" s_pure_part ["base", "denominator"]
  d_period : Dn K mg "period" s_period ["base", "denominator"]
  d_head_size : Dn K mg "head_size" s_head_size ["base", "denominator"]
  d_power_rest : Dn K mg "power_rest" s_power_rest ["number", "exponent", "divisor"]
  d_spaced : Dn K mg "spaced" s_spaced ["base", "fraction", "size", "count"]
  d_need_weight : Dn K mg "need_weight" s_need_weight ["value"]
  d_leaves_weight : Dn K mg "leaves_weight" s_leaves_weight ["base", "denominator", "exponent", "weight"]
  d_power_rests : Dn K mg "power_rests" s_power_rests ["base", "denominator"]
  d_least_exponent : Dn K mg "least_exponent" s_least_exponent ["base", "denominator", "weight"]
  d_exponents : Dn K mg "exponents" s_exponents ["base", "denominator", "weight"]
  d_exponent_paper : Dn K mg "exponent_paper" s_exponent_paper ["base", "denominator", "weight"]
  d_proves_never : Dn K mg "proves_never" s_proves_never ["base", "denominator", "weight", "remainders"]
  d_check_exponent : Dn K mg "check_exponent" s_check_exponent ["base", "denominator", "weight", "paper"]
  d_law_begun : Dn K mg "_law_begun" s_law_begun ["script", "k"]
  d_law_draw : Dn K mg "_law_draw" s_law_draw ["m", "limit"]
  d_law_of : Dn K mg "_law_of" s_law_of ["m", "some"]
  d_law_powers : Dn K mg "_law_powers" s_law_powers ["b", "n"]
  d_law_raised : Dn K mg "_law_raised" s_law_raised ["b", "times", "n"]
  d_law_own : Dn K mg "_law_own" s_law_own ["b", "n", "weight_so"]
  d_law_is_int : Dn K mg "_law_is_int" s_law_is_int ["thing", "low", "high"]
  d_law_due : Dn K mg "_law_due" s_law_due ["b", "n", "weight_so", "thing"]
  d_law_heard : Dn K mg "_law_heard" s_law_heard ["b", "n", "weight_so", "thing"]
  d_law_right : Dn K mg "_law_right" s_law_right ["m", "b", "n", "weight_so"]
  d_law_hand_right : Dn K mg "_law_hand_right" s_law_hand_right []
  d_law : Dn K mg "law" s_law ["script"]
  b_isinstance : mg "isinstance" = none
  b_int : mg "int" = none
  b_bool : mg "bool" = none
  b_str : mg "str" = none
  b_len : mg "len" = none
  b_range : mg "range" = none
  b_tuple : mg "tuple" = none
  b_list : mg "list" = none
  b_min : mg "min" = none
  b_repr : mg "repr" = none
  b_all : mg "all" = none
  b_gcd : mg "gcd" = some (.builtin "math.gcd")
  C_WheelError : Addr
  g_WheelError : mg "WheelError" = some (.ref C_WheelError)
  r_WheelError : ClX.CRead K C_WheelError (.type "type")
  i_WheelError : PySem.W.findCls K (.ref C_WheelError) (.type "type") "__init__" = some (.val (.builtin "ValueError.__init__"))
  C_BadBase : Addr
  g_BadBase : mg "BadBase" = some (.ref C_BadBase)
  C_BadDenominator : Addr
  g_BadDenominator : mg "BadDenominator" = some (.ref C_BadDenominator)
  C_BadNumber : Addr
  g_BadNumber : mg "BadNumber" = some (.ref C_BadNumber)
  C_BadPaper : Addr
  g_BadPaper : mg "BadPaper" = some (.ref C_BadPaper)
  I_BadPaper : Addr
  T_BadPaper : ErrC K C_BadPaper I_BadPaper "part" "ValueError" "ValueError.__new__" "ValueError.__init__" [.type "ValueError", .type "Exception", .type "BaseException", .type "object"]
  fd_BadPaper : FuncData
  F_BadPaper : Fun K "__init__" "BadPaper.__init__" s_BadPaper_init I_BadPaper fd_BadPaper
  b_BadPaper : Binds K fd_BadPaper ["self", "part"] []
  is_BadPaper : IsC K C_BadPaper
  ex1_BadPaper : PySem.W.exmOne K (.ref C_BadPaper) (.ref C_BadPaper) = some true
  t_MOST_BASE : Tok
  c_MOST_BASE : mg "MOST_BASE" = some (.int 1000 t_MOST_BASE)
  t_MOST_DENOMINATOR : Tok
  c_MOST_DENOMINATOR : mg "MOST_DENOMINATOR" = some (.int 5000 t_MOST_DENOMINATOR)
  t_MOST_WEIGHT : Tok
  c_MOST_WEIGHT : mg "MOST_WEIGHT" = some (.int 1000 t_MOST_WEIGHT)
  t_MOST_EXPONENT : Tok
  c_MOST_EXPONENT : mg "MOST_EXPONENT" = some (.int 10000 t_MOST_EXPONENT)
section
variable {P : Program} {w : World} {K : PySem.W.Frag} {mg : Str → Option Value} {base : Heap}

def BN (b n : Nat) : Prop := 2 ≤ b ∧ b ≤ 1000 ∧ 1 ≤ n ∧ n ≤ 5000
def sp_is_integer : Sp := fun vs H Q _ => ∃ i : Int, vs = [.int i] ∧ Q (.bl true) H
def sp_is_within : Sp := fun vs H Q _ => ∃ i lo hi : Int, vs = [.int i, .int lo, .int hi] ∧ (lo ≤ i ∧ i ≤ hi) ∧ Q (.bl true) H
def sp_need_base : Sp := fun vs H Q _ => ∃ i : Int, vs = [.int i] ∧ (2 ≤ i ∧ i ≤ 1000) ∧ Q (.int i) H
def sp_need_denominator : Sp := fun vs H Q _ => ∃ i : Int, vs = [.int i] ∧ (1 ≤ i ∧ i ≤ 5000) ∧ Q (.int i) H
def sp_need_fraction : Sp := fun vs H Q _ => ∃ (a : Addr) (x n : Nat), vs = [.ref a] ∧ H a = some (.tup [.int x, .int n]) ∧ (x < n ∧ n ≤ 5000 ∧ Nat.gcd x n = 1) ∧ Q (.ref a) H
def sp_pure_part : Sp := fun vs H Q _ => ∃ b n : Nat, vs = [.int b, .int n] ∧ BN b n ∧ ∀ p : Nat, IsPure b n p → Q (.int p) H
def sp_period : Sp := fun vs H Q _ => ∃ b n : Nat, vs = [.int b, .int n] ∧ BN b n ∧ ∀ p d : Nat, IsPure b n p → IsPer b p d → Q (.int d) H
def sp_head_size : Sp := fun vs H Q _ => ∃ b n : Nat, vs = [.int b, .int n] ∧ BN b n ∧ ∀ p q h : Nat, IsPure b n p → n = p * q → IsHead b q h → Q (.int h) H
theorem ok_is_integer (T : Txt K mg) : FnOk P w K mg base CX0 1 T.d_is_integer.f T.d_is_integer.fd ["value"] sp_is_integer := by
  refine T.d_is_integer.F.ok sc_is_integer (fun vs H Q E h => ?_) (fun cdv A outer s H vs Q E hr h => ?_)
  · obtain ⟨i, rfl, _⟩ := h; rfl
  · have hu := hu_of hr
    refine ⟨_, (pss_one (ps_ret (pe_and (pe_callB (r := rIs K) call_is (by rfl) T.b_isinstance (by decide +kernel) (pa_cons (pv 0) (pa_cons (pe_bltn (v := .ty "int") (by rfl) T.b_int (by decide +kernel) rfl) pa_nil))) (pe_one (pe_not (pe_callB (r := rIs K) call_is (by rfl) T.b_isinstance (by decide +kernel) (pa_cons (pv 0) (pa_cons (pe_bltn (v := .ty "bool") (by rfl) T.b_bool (by decide +kernel) rfl) pa_nil)))))))), ?_⟩
    obtain ⟨i, rfl, q⟩ := h
    walk_at "vc"
    refine ⟨"int", ty_int, by decide, by decide, iteT ⟨"int", ty_int, by decide, by decide, q⟩⟩
theorem ok_is_within (T : Txt K mg) : FnOk P w K mg base CX0 2 T.d_is_within.f T.d_is_within.fd ["value", "low", "high"] sp_is_within := by
  refine T.d_is_within.F.ok sc_is_within (fun vs H Q E h => ?_) (fun cdv A outer s H vs Q E hr h => ?_)
  · obtain ⟨i, lo, hi, rfl, _⟩ := h; rfl
  · have hu := hu_of hr
    refine ⟨_, (pss_one (ps_ret (pe_and (pe_call (ok_is_integer T) (hr.mono (by decide)) (by rfl) T.d_is_integer.m T.d_is_integer.F.kp T.d_is_integer.b .nil pass0 (pa_cons (pv 0) pa_nil)) (pe_one (pe_chain op_le op_le (pv 1) (pv 0) (pv 2)))))), ?_⟩
    obtain ⟨i, lo, hi, rfl, ⟨h1, h2⟩, q⟩ := h
    refine ⟨_, rfl, i, rfl, true, rfl, iteT ?_⟩
    walk_at "vc"
    rw [if_pos h1, decide_eq_true h2]
    exact q
theorem ok_need_base (T : Txt K mg) : FnOk P w K mg base CX0 3 T.d_need_base.f T.d_need_base.fd ["value"] sp_need_base := by
  refine T.d_need_base.F.ok sc_need_base (fun vs H Q E h => ?_) (fun cdv A outer s H vs Q E hr h => ?_)
  · obtain ⟨i, rfl, _⟩ := h; rfl
  · have hu := hu_of hr
    refine ⟨_, (pss_cons (ps_if (pt_not (pt_val (pe_call (ok_is_within T) (hr.mono (by decide)) (by rfl) T.d_is_within.m T.d_is_within.F.kp T.d_is_within.b .nil pass0 (pa_cons (pv 0) (pa_cons pe_int (pa_cons (pe_glob (v := .int 1000) (by rfl) T.c_MOST_BASE ⟨_, rfl⟩) pa_nil)))))) (pss_one ps_never) pss_nil)
      (pss_one (ps_ret (pv 0)))), ?_⟩
    obtain ⟨i, rfl, ⟨h1, h2⟩, q⟩ := h
    refine ⟨_, rfl, i, _, _, rfl, ⟨h1, h2⟩, true, rfl, iteF ?_⟩
    exact ⟨_, rfl, q⟩
theorem ok_need_denominator (T : Txt K mg) : FnOk P w K mg base CX0 3 T.d_need_denominator.f T.d_need_denominator.fd ["value"] sp_need_denominator := by
  refine T.d_need_denominator.F.ok sc_need_denominator (fun vs H Q E h => ?_) (fun cdv A outer s H vs Q E hr h => ?_)
  · obtain ⟨i, rfl, _⟩ := h; rfl
  · have hu := hu_of hr
    refine ⟨_, (pss_cons (ps_if (pt_not (pt_val (pe_call (ok_is_within T) (hr.mono (by decide)) (by rfl) T.d_is_within.m T.d_is_within.F.kp T.d_is_within.b .nil pass0 (pa_cons (pv 0) (pa_cons pe_int (pa_cons (pe_glob (v := .int 5000) (by rfl) T.c_MOST_DENOMINATOR ⟨_, rfl⟩) pa_nil)))))) (pss_one ps_never) pss_nil)
      (pss_one (ps_ret (pv 0)))), ?_⟩
    obtain ⟨i, rfl, ⟨h1, h2⟩, q⟩ := h
    refine ⟨_, rfl, i, _, _, rfl, ⟨h1, h2⟩, true, rfl, iteF ?_⟩
    exact ⟨_, rfl, q⟩
theorem ok_pure_part (T : Txt K mg) : FnOk P w K mg base CX0 4 T.d_pure_part.f T.d_pure_part.fd ["base", "denominator"] sp_pure_part := by
  refine T.d_pure_part.F.ok sc_pure_part (fun vs H Q E h => ?_) (fun cdv A outer s H vs Q E hr h => ?_)
  · obtain ⟨b, n, rfl, _⟩ := h; rfl
  · have hu := hu_of hr
    refine ⟨_, (pss_cons (ps_expr (pe_call (ok_need_base T) (hr.mono (by decide)) (by rfl) T.d_need_base.m T.d_need_base.F.kp T.d_need_base.b .nil pass0 (pa_cons (pv 0) pa_nil)))
      (pss_cons (ps_expr (pe_call (ok_need_denominator T) (hr.mono (by decide)) (by rfl) T.d_need_denominator.m T.d_need_denominator.F.kp T.d_need_denominator.b .nil pass0 (pa_cons (pv 1) pa_nil)))
      (pss_cons (ps_set (i := 2) sc_pure_part.nd rfl (by first | exact .inl rfl | exact .inr rfl) (pv 1))
      (pss_cons (ps_set (i := 3) sc_pure_part.nd rfl (by first | exact .inl rfl | exact .inr rfl) (pe_callBfun cr_gcd (by rfl) T.b_gcd (pa_cons (pv 0) (pa_cons (pv 2) pa_nil))))
      (pss_cons (ps_while PassesOwn.never (pt_cmpR op_gt (pv 3) pe_int (nomark _)) (pss_cons (ps_set (i := 2) sc_pure_part.nd rfl (by first | exact .inl rfl | exact .inr rfl) (pe_op op_fdiv (pv 2) (pv 3)))
      (pss_one (ps_set (i := 3) sc_pure_part.nd rfl (by first | exact .inl rfl | exact .inr rfl) (pe_callBfun cr_gcd (by rfl) T.b_gcd (pa_cons (pv 0) (pa_cons (pv 2) pa_nil)))))))
      (pss_one (ps_ret (pv 2)))))))), ?_⟩
    obtain ⟨b, n, rfl, ⟨hb1, hb2, hn1, hn2⟩, q⟩ := h
    refine ⟨_, rfl, b, rfl, ⟨by omega, by omega⟩, ?_⟩
    refine ⟨_, rfl, n, rfl, ⟨by omega, by omega⟩, ?_⟩
    refine ⟨_, rfl, _, rfl, _, rfl, b, n, rfl, ?_⟩
    refine ⟨fun m σ H' => H' = H ∧ ∃ p r k : Nat, m = p ∧ σ = [some (.int b), some (.int n), some (.int p), some (.int (Nat.gcd b p : Nat))] ∧ 1 ≤ p ∧ n = p * r ∧ r ∣ b ^ k, ⟨n, rfl, n, 1, 0, rfl, rfl, hn1, by simp, by simp⟩, ?_⟩
    rintro m σ H' ⟨rfl, p, r, k, rfl, rfl, hp, hn, hr'⟩
    have hpn : m ≤ 5000 := by
      have : m ∣ n := ⟨r, hn⟩
      have := Nat.le_of_dvd hn1 this
      omega
    have hgm : Nat.gcd b m ≤ m := Nat.gcd_le_right b hp
    have hg1 : 1 ≤ Nat.gcd b m := Nat.gcd_pos_of_pos_right b hp
    refine ⟨_, rfl, _, 1, rfl, rfl, _, rfl, ?_⟩
    by_cases hc : (1 : Int) < ((Nat.gcd b m : Nat) : Int)
    · rw [decide_eq_true hc]
      refine iteT ⟨fun σ' H2 => H2 = H' ∧ ∃ p r k : Nat, p < m ∧ σ' = [some (.int b), some (.int n), some (.int p), some (.int (Nat.gcd b p : Nat))] ∧ 1 ≤ p ∧ n = p * r ∧ r ∣ b ^ k, ?_, ?_⟩
      · rintro σ' H2 ⟨rfl, p, r, k, h1, h2, h3, h4, h5⟩
        exact ⟨p, h1, rfl, p, r, k, rfl, h2, h3, h4, h5⟩
      · refine ⟨_, rfl, _, rfl, m, Nat.gcd b m, rfl, rfl, ⟨by omega, by omega⟩, ?_⟩
        dsimp only
        rw [← Int.natCast_ediv]
        refine ⟨_, rfl, _, rfl, b, ((m / Nat.gcd b m : Nat) : Int), rfl, ?_⟩
        obtain ⟨c, hc'⟩ := Nat.gcd_dvd_right b m
        have hq : m / Nat.gcd b m = c := by
          rw [Nat.div_eq_iff_eq_mul_right hg1 (Nat.gcd_dvd_right b m)]
          exact hc'
        have hc1 : 1 ≤ c := by
          rcases Nat.eq_zero_or_pos c with z | z
          · rw [z] at hc'
            omega
          · exact z
        have hcl : c < m := by
          have hg2 : 2 ≤ Nat.gcd b m := by omega
          have : 2 * c ≤ Nat.gcd b m * c := Nat.mul_le_mul_right c hg2
          omega
        refine ⟨rfl, c, Nat.gcd b m * r, k + 1, hcl, ?_, hc1, ?_, ?_⟩
        · rw [hq]
          rfl
        · rw [hn]
          conv => lhs; rw [hc']
          rw [Nat.mul_comm (Nat.gcd b m) c, Nat.mul_assoc]
        · rw [Nat.pow_succ, Nat.mul_comm (b ^ k) b]
          exact Nat.mul_dvd_mul (Nat.gcd_dvd_left b m) hr'
    · rw [decide_eq_false hc]
      refine iteF ⟨_, rfl, ?_⟩
      exact q m ⟨by omega, r, k, hn, hr'⟩
theorem ok_period (T : Txt K mg) : FnOk P w K mg base CX0 5 T.d_period.f T.d_period.fd ["base", "denominator"] sp_period := by
  refine T.d_period.F.ok sc_period (fun vs H Q E h => ?_) (fun cdv A outer s H vs Q E hr h => ?_)
  · obtain ⟨b, n, rfl, _⟩ := h; rfl
  · have hu := hu_of hr
    refine ⟨_, (pss_cons (ps_set (i := 2) sc_period.nd rfl (by first | exact .inl rfl | exact .inr rfl) (pe_call (ok_pure_part T) (hr.mono (by decide)) (by rfl) T.d_pure_part.m T.d_pure_part.F.kp T.d_pure_part.b .nil pass0 (pa_cons (pv 0) (pa_cons (pv 1) pa_nil))))
      (pss_cons (ps_set (i := 3) sc_period.nd rfl (by first | exact .inl rfl | exact .inr rfl) (pe_op op_mod pe_int (pv 2)))
      (pss_cons (ps_set (i := 4) sc_period.nd rfl (by first | exact .inl rfl | exact .inr rfl) (pe_op op_mod (pv 0) (pv 2)))
      (pss_cons (ps_set (i := 5) sc_period.nd rfl (by first | exact .inl rfl | exact .inr rfl) pe_int)
      (pss_cons (ps_while PassesOwn.never (pt_cmpR op_ne (pv 4) (pv 3) (nomark _)) (pss_cons (ps_set (i := 4) sc_period.nd rfl (by first | exact .inl rfl | exact .inr rfl) (pe_op op_mod (pe_op op_mul (pv 4) (pv 0)) (pv 2)))
      (pss_one (ps_aug (i := 5) sc_period.nd rfl (by first | exact .inl rfl | exact .inr rfl) pe_int ip_add))))
      (pss_one (ps_ret (pv 5)))))))), ?_⟩
    obtain ⟨b, n, rfl, hbn, q⟩ := h
    have hbn' := id hbn
    obtain ⟨hb1, hb2, hn1, hn2⟩ := hbn
    refine ⟨_, rfl, _, rfl, b, n, rfl, hbn', fun p hp => ?_⟩
    obtain ⟨g0, r0, k0, e0, d0⟩ := id hp
    have hp1 : 1 ≤ p := by
      rcases Nat.eq_zero_or_pos p with z | z
      · rw [z] at e0
        omega
      · exact z
    have hpn : p ≤ 5000 := by
      have : p ∣ n := ⟨r0, e0⟩
      have := Nat.le_of_dvd hn1 this
      omega
    obtain ⟨d, hdp, hd⟩ := per_exists hp1 g0
    refine ⟨_, rfl, 1, p, rfl, rfl, (show (0 : Int) < (p : Int) by omega), ?_⟩
    refine ⟨_, rfl, _, rfl, b, p, rfl, rfl, (show (0 : Int) < (p : Int) by omega), ?_⟩
    have e1 : (1 : Int) % (p : Int) = ((1 % p : Nat) : Int) := by rw [Int.natCast_emod]; rfl
    have e2 : (b : Int) % (p : Int) = ((b ^ 1 % p : Nat) : Int) := by rw [Int.natCast_emod, Nat.pow_one]
    refine ⟨fun m σ H' => H' = H ∧ ∃ k : Nat, m = d - k ∧ σ = [some (.int b), some (.int n), some (.int p), some (.int (1 % p : Nat)), some (.int (b ^ k % p : Nat)), some (.int k)] ∧ 1 ≤ k ∧ k ≤ d, ⟨d - 1, rfl, 1, rfl, ?_, Nat.le_refl _, hd.1⟩, ?_⟩
    · rw [← e1, ← e2]
      rfl
    rintro m σ H' ⟨rfl, k, rfl, rfl, hk1, hk2⟩
    refine ⟨_, rfl, _, rfl, rfl, _, rfl, ?_⟩
    by_cases hc : b ^ k % p = 1 % p
    · have hkd : k = d := by
        apply Nat.le_antisymm hk2
        apply Nat.le_of_not_lt
        intro l
        exact hd.2.2 k hk1 l hc
      rw [decide_eq_true (show V.int ((b ^ k % p : Nat) : Int) = V.int ((1 % p : Nat) : Int) by rw [hc])]
      refine iteF ⟨_, rfl, ?_⟩
      rw [hkd]
      exact q p d hp hd
    · rw [decide_eq_false (show ¬ V.int ((b ^ k % p : Nat) : Int) = V.int ((1 % p : Nat) : Int) from fun z => hc (by have := V.int.inj z; omega))]
      have hkd : k < d := by
        rcases Nat.lt_or_eq_of_le hk2 with l | l
        · exact l
        · subst l
          exact absurd hd.2.1 hc
      refine iteT ⟨fun σ' H2 => H2 = H' ∧ σ' = [some (.int b), some (.int n), some (.int p), some (.int (1 % p : Nat)), some (.int (b ^ (k + 1) % p : Nat)), some (.int (k + 1 : Nat))], ?_, ?_⟩
      · rintro σ' H2 ⟨rfl, rfl⟩
        exact ⟨d - (k + 1), by omega, rfl, k + 1, rfl, rfl, by omega, hkd⟩
      · have hlt : b ^ k % p < p := Nat.mod_lt _ hp1
        refine ⟨_, rfl, _, rfl, _, b, rfl, rfl, .inl ⟨by omega, by omega⟩, _, rfl, _, p, rfl, rfl, (show (0 : Int) < (p : Int) by omega), ?_⟩
        dsimp only
        rw [icm, pow_mod_step]
        exact ⟨_, rfl, _, _, rfl, rfl, rfl, rfl⟩
theorem ok_head_size (T : Txt K mg) : FnOk P w K mg base CX0 5 T.d_head_size.f T.d_head_size.fd ["base", "denominator"] sp_head_size := by
  refine T.d_head_size.F.ok sc_head_size (fun vs H Q E h => ?_) (fun cdv A outer s H vs Q E hr h => ?_)
  · obtain ⟨b, n, rfl, _⟩ := h; rfl
  · have hu := hu_of hr
    refine ⟨_, (pss_cons (ps_set (i := 2) sc_head_size.nd rfl (by first | exact .inl rfl | exact .inr rfl) (pe_op op_fdiv (pv 1) (pe_call (ok_pure_part T) (hr.mono (by decide)) (by rfl) T.d_pure_part.m T.d_pure_part.F.kp T.d_pure_part.b .nil pass0 (pa_cons (pv 0) (pa_cons (pv 1) pa_nil)))))
      (pss_cons (ps_set (i := 3) sc_head_size.nd rfl (by first | exact .inl rfl | exact .inr rfl) (pe_op op_mod pe_int (pv 2)))
      (pss_cons (ps_set (i := 4) sc_head_size.nd rfl (by first | exact .inl rfl | exact .inr rfl) pe_int)
      (pss_cons (ps_while PassesOwn.never (pt_cmpR op_ne (pv 3) pe_int (nomark _)) (pss_cons (ps_set (i := 3) sc_head_size.nd rfl (by first | exact .inl rfl | exact .inr rfl) (pe_op op_mod (pe_op op_mul (pv 3) (pv 0)) (pv 2)))
      (pss_one (ps_aug (i := 4) sc_head_size.nd rfl (by first | exact .inl rfl | exact .inr rfl) pe_int ip_add))))
      (pss_one (ps_ret (pv 4))))))), ?_⟩
    obtain ⟨b, n, rfl, hbn, q⟩ := h
    have hbn' := id hbn
    obtain ⟨hb1, hb2, hn1, hn2⟩ := hbn
    refine ⟨_, rfl, _, rfl, _, rfl, b, n, rfl, hbn', fun p hp => ?_⟩
    obtain ⟨g0, r, k0, e0, d0⟩ := id hp
    have hp1 : 1 ≤ p := by
      rcases Nat.eq_zero_or_pos p with z | z
      · rw [z] at e0
        omega
      · exact z
    have hr1 : 1 ≤ r := by
      rcases Nat.eq_zero_or_pos r with z | z
      · rw [z] at e0
        omega
      · exact z
    have hpn : p ≤ 5000 := by
      have : p ∣ n := ⟨r, e0⟩
      have := Nat.le_of_dvd hn1 this
      omega
    have hrn : r ≤ 5000 := by
      have : r ∣ n := ⟨p, by rw [e0, Nat.mul_comm]⟩
      have := Nat.le_of_dvd hn1 this
      omega
    obtain ⟨d, hdk, hd⟩ := head_exists d0
    have hdr : d ≤ r := head_le hr1 hd
    refine ⟨n, p, rfl, rfl, ⟨by omega, by omega⟩, ?_⟩
    have e3 : (n : Int) / (p : Int) = ((r : Nat) : Int) := by
      rw [← Int.natCast_ediv, e0, Nat.mul_div_cancel_left r hp1]
    dsimp only
    rw [e3]
    refine ⟨_, rfl, 1, r, rfl, rfl, (show (0 : Int) < (r : Int) by omega), ?_⟩
    have e1 : (1 : Int) % (r : Int) = ((b ^ 0 % r : Nat) : Int) := by rw [Int.natCast_emod, Nat.pow_zero]; rfl
    refine ⟨fun m σ H' => H' = H ∧ ∃ k : Nat, m = d - k ∧ σ = [some (.int b), some (.int n), some (.int r), some (.int (b ^ k % r : Nat)), some (.int k)] ∧ k ≤ d, ⟨d, rfl, 0, rfl, ?_, Nat.zero_le _⟩, ?_⟩
    · rw [← e1]
      rfl
    rintro m σ H' ⟨rfl, k, rfl, rfl, hk2⟩
    refine ⟨_, rfl, rfl, _, rfl, ?_⟩
    by_cases hc : b ^ k % r = 0
    · have hkd : k = d := by
        apply Nat.le_antisymm hk2
        apply Nat.le_of_not_lt
        intro l
        exact hd.2 k l hc
      rw [decide_eq_true (show V.int ((b ^ k % r : Nat) : Int) = V.int 0 by rw [hc]; rfl)]
      refine iteF ⟨_, rfl, ?_⟩
      rw [hkd]
      exact q p r d hp e0 hd
    · rw [decide_eq_false (show ¬ V.int ((b ^ k % r : Nat) : Int) = V.int 0 from fun z => hc (by have := V.int.inj z; omega))]
      have hkd : k < d := by
        rcases Nat.lt_or_eq_of_le hk2 with l | l
        · exact l
        · subst l
          exact absurd hd.1 hc
      refine iteT ⟨fun σ' H2 => H2 = H' ∧ σ' = [some (.int b), some (.int n), some (.int r), some (.int (b ^ (k + 1) % r : Nat)), some (.int (k + 1 : Nat))], ?_, ?_⟩
      · rintro σ' H2 ⟨rfl, rfl⟩
        exact ⟨d - (k + 1), by omega, rfl, k + 1, rfl, rfl, hkd⟩
      · have hlt : b ^ k % r < r := Nat.mod_lt _ hr1
        refine ⟨_, rfl, _, rfl, _, b, rfl, rfl, .inl ⟨by omega, by omega⟩, _, rfl, _, r, rfl, rfl, (show (0 : Int) < (r : Int) by omega), ?_⟩
        dsimp only
        rw [icm, pow_mod_step]
        exact ⟨_, rfl, _, _, rfl, rfl, rfl, rfl⟩

/-- the digits of a division that has come to x: so many of them -/
def dgs (b n x c : Nat) : List V := (List.range c).map fun i => V.int ((rem b n x i * b / n : Nat) : Int)
def sp_divided : Sp := fun vs H Q _ => ∃ b x n c : Nat, vs = [.int b, .int x, .int n, .int c] ∧ (BN b n ∧ x < n ∧ c ≤ 10000) ∧ ∀ t H', Gr [] H H' → H' t = some (.tup (dgs b n x c)) → Q (.ref t) H'

def dgf (b n x lo c : Nat) : List V := (List.range c).map fun i => V.int ((rem b n x (lo + i) * b / n : Nat) : Int)
structure Exp (H : Hp) (r : Addr) (b x n h L : Nat) : Prop where
  at_ : ∃ a c, H r = some (.tup [.ref a, .ref c]) ∧ H a = some (.tup (dgf b n x 0 h)) ∧ H c = some (.tup (dgf b n x h L))
def sp_expansion : Sp := fun vs H Q _ => ∃ (b x n : Nat) (a : Addr), vs = [.int b, .ref a] ∧ H a = some (.tup [.int x, .int n]) ∧ (BN b n ∧ x < n ∧ Nat.gcd x n = 1) ∧
  ∀ p q h L t H', IsPure b n p → n = p * q → IsHead b q h → IsPer b p L → Gr [] H H' → Exp H' t b x n h L → Q (.ref t) H'

/-! the state of the draws of the second half -/
def mkv (c : Addr) (l sd s : Int) : List (Key × V) := [(Sum.inr "left", .int l), (Sum.inr "seed", .int sd), (Sum.inr "cells", .ref c), (Sum.inr "spot", .int s)]
theorem k_ld : ¬ (("left" : Str) = "seed") := by decide +kernel
theorem k_dl : ¬ (("seed" : Str) = "left") := by decide +kernel
theorem k_lc : ¬ (("left" : Str) = "cells") := by decide +kernel
theorem k_cl : ¬ (("cells" : Str) = "left") := by decide +kernel
theorem k_ls : ¬ (("left" : Str) = "spot") := by decide +kernel
theorem k_sl : ¬ (("spot" : Str) = "left") := by decide +kernel
theorem k_dc : ¬ (("seed" : Str) = "cells") := by decide +kernel
theorem k_cd : ¬ (("cells" : Str) = "seed") := by decide +kernel
theorem k_ds : ¬ (("seed" : Str) = "spot") := by decide +kernel
theorem k_sd : ¬ (("spot" : Str) = "seed") := by decide +kernel
theorem k_cs : ¬ (("cells" : Str) = "spot") := by decide +kernel
theorem k_sc : ¬ (("spot" : Str) = "cells") := by decide +kernel
theorem mv_l (c : Addr) (l sd s : Int) : valV (mkv c l sd s) (Sum.inr "left" : Key) = some (.int l) := by
  unfold mkv
  rw [valV_pos rfl]
theorem mv_d (c : Addr) (l sd s : Int) : valV (mkv c l sd s) (Sum.inr "seed" : Key) = some (.int sd) := by
  unfold mkv
  rw [valV_neg (by intro z; exact k_ld (Sum.inr.inj z)), valV_pos rfl]
theorem mv_c (c : Addr) (l sd s : Int) : valV (mkv c l sd s) (Sum.inr "cells" : Key) = some (.ref c) := by
  unfold mkv
  rw [valV_neg (by intro z; exact k_lc (Sum.inr.inj z)), valV_neg (by intro z; exact k_dc (Sum.inr.inj z)), valV_pos rfl]
theorem mv_s (c : Addr) (l sd s : Int) : valV (mkv c l sd s) (Sum.inr "spot" : Key) = some (.int s) := by
  unfold mkv
  rw [valV_neg (by intro z; exact k_ls (Sum.inr.inj z)), valV_neg (by intro z; exact k_ds (Sum.inr.inj z)), valV_neg (by intro z; exact k_cs (Sum.inr.inj z)), valV_pos rfl]
theorem mp_l (c : Addr) (l sd s l' : Int) : putK (mkv c l sd s) (Sum.inr "left" : Key) (.int l') = mkv c l' sd s := by
  unfold mkv putK
  simp [k_dl, k_cl, k_sl]
theorem mp_s (c : Addr) (l sd s s' : Int) : putK (mkv c l sd s) (Sum.inr "spot" : Key) (.int s') = mkv c l sd s' := by
  unfold mkv putK
  simp [k_ls, k_ds, k_cs, putK]
theorem mm (c : Addr) (l sd s : Int) : mergeK [] (mkv c l sd s) = mkv c l sd s := by
  unfold mkv mergeK putK
  simp [k_ld, k_lc, k_ls, k_dc, k_ds, k_cs, mergeK, putK]
theorem dg_c {H : Hp} {d c : Addr} {l sd s : Int} (h : H d = some (.dK (mkv c l sd s))) : DGet H d (.str "cells") (some (.ref c)) := by
  rw [← mv_c c l sd s]
  exact DGet.k (k := Sum.inr "cells") h
theorem dg_l {H : Hp} {d c : Addr} {l sd s : Int} (h : H d = some (.dK (mkv c l sd s))) : DGet H d (.str "left") (some (.int l)) := by
  rw [← mv_l c l sd s]
  exact DGet.k (k := Sum.inr "left") h
theorem dg_d {H : Hp} {d c : Addr} {l sd s : Int} (h : H d = some (.dK (mkv c l sd s))) : DGet H d (.str "seed") (some (.int sd)) := by
  rw [← mv_d c l sd s]
  exact DGet.k (k := Sum.inr "seed") h
theorem dg_s {H : Hp} {d c : Addr} {l sd s : Int} (h : H d = some (.dK (mkv c l sd s))) : DGet H d (.str "spot") (some (.int s)) := by
  rw [← mv_s c l sd s]
  exact DGet.k (k := Sum.inr "spot") h
theorem dp_l {H : Hp} {d c : Addr} {l sd s l' : Int} (h : H d = some (.dK (mkv c l sd s))) : DPut H d (.str "left") (.int l') (upd H d (.dK (mkv c l' sd s))) := by
  rw [← mp_l c l sd s l']
  exact DPut.k (k := Sum.inr "left") h (by show 4 < sizeLine; decide)
theorem dp_s {H : Hp} {d c : Addr} {l sd s s' : Int} (h : H d = some (.dK (mkv c l sd s))) : DPut H d (.str "spot") (.int s') (upd H d (.dK (mkv c l sd s'))) := by
  rw [← mp_s c l sd s s']
  exact DPut.k (k := Sum.inr "spot") h (by show 4 < sizeLine; decide)
def MOk (H : Hp) (d : Addr) (n : Nat) : Prop := ∃ (c : Addr) (xs : List Int) (l sd s : Int), H d = some (.dK (mkv c l sd s)) ∧ H c = some (.lst (xs.map V.int)) ∧ xs ≠ [] ∧ (0 ≤ sd ∧ sd < 2147483647) ∧ 0 ≤ s ∧ s ≤ (n : Int)
theorem MOk.gr {H H' : Hp} {d : Addr} {n : Nat} (h : MOk H d n) (g : Gr [] H H') : MOk H' d n := by
  obtain ⟨c, xs, l, sd, s, h1, h2, h3⟩ := h
  exact ⟨c, xs, l, sd, s, g d _ (by simp) h1, g c _ (by simp) h2, h3⟩
theorem MOk.mono {H : Hp} {d : Addr} {n n' : Nat} (h : MOk H d n) (g : n ≤ n') : MOk H d n' := by
  obtain ⟨c, xs, l, sd, s, h1, h2, h3, h4, h5, h6⟩ := h
  exact ⟨c, xs, l, sd, s, h1, h2, h3, h4, h5, by omega⟩
theorem MOk.ne {H : Hp} {d a : Addr} {n : Nat} {o : HO} (h : MOk H d n) (e : H a = some o) (k : ∀ kvs, o ≠ .dK kvs) : a ∉ [d] := by
  obtain ⟨c, xs, l, sd, s, h1, _⟩ := h
  intro z
  rw [List.mem_singleton] at z
  subst z
  rw [h1] at e
  exact k _ (Option.some.inj e).symm
theorem MOk.lst {H H' : Hp} {d a : Addr} {n : Nat} {xs : List V} (h : MOk H d n) (g : Gr [d] H H') (e : H a = some (.lst xs)) : H' a = some (.lst xs) := g a _ (h.ne e (fun _ z => by cases z)) e
theorem MOk.tup {H H' : Hp} {d a : Addr} {n : Nat} {xs : List V} (h : MOk H d n) (g : Gr [d] H H') (e : H a = some (.tup xs)) : H' a = some (.tup xs) := g a _ (h.ne e (fun _ z => by cases z)) e
def Lim (n : Nat) : Prop := (n : Int).natAbs.log2 < 9000
set_option exponentiation.threshold 10000 in
theorem lim_le {n : Nat} (h : n ≤ 1000000000) : Lim n := by
  unfold Lim
  rw [Int.natAbs_natCast]
  exact PySem.Flt.log2_lt_of (by decide) (Nat.lt_of_le_of_lt h (Nat.lt_of_lt_of_le (show (1000000000 : Nat) < 2 ^ 30 by decide) (Nat.pow_le_pow_right (by decide) (by decide))))
def sp_law_draw : Sp := fun vs H Q _ => ∃ (d : Addr) (lim n : Nat), vs = [.ref d, .int lim] ∧ MOk H d n ∧ (1 ≤ lim ∧ Lim lim ∧ n ≤ 1000000000) ∧
  ∀ (r : Nat) H', r < lim → Gr [d] H H' → MOk H' d (n + 1) → Q (.int r) H'
theorem imod_nat (x : Int) (lim : Nat) (h : 1 ≤ lim) : ∃ r : Nat, x % (lim : Int) = (r : Int) ∧ r < lim := by
  have h1 := Int.emod_nonneg x (show (lim : Int) ≠ 0 by omega)
  have h2 := Int.emod_lt_of_pos x (show (0 : Int) < (lim : Int) by omega)
  exact ⟨(x % (lim : Int)).toNat, by omega, by omega⟩
theorem sqBound {z : Int} (h0 : 0 ≤ z) (h1 : z ≤ 1000000000) : -(2 ^ 64) < 40503 * z ∧ 40503 * z < 2 ^ 64 := by omega
theorem ok_law_draw (T : Txt K mg) : FnOk P w K mg base CX0 1 T.d_law_draw.f T.d_law_draw.fd ["m", "limit"] sp_law_draw := by
  refine T.d_law_draw.F.ok sc_law_draw (fun vs H Q E h => ?_) (fun cdv A outer s H vs Q E hr h => ?_)
  · obtain ⟨d, lim, n, rfl, _⟩ := h; rfl
  · have hu := hu_of hr
    refine ⟨_, (pss_cons (ps_if (pt_cmpR op_gt (pe_dget hu (pv 0) pe_str (fun _ _ => rfl)) pe_int (nomark _)) (pss_cons (ps_set (i := 2) sc_law_draw.nd rfl (by first | exact .inl rfl | exact .inr rfl) (pe_op op_mod (pe_callTy call_int1 (by rfl) T.b_int (by decide +kernel) (pa_cons (pe_dget hu (pv 0) pe_str (fun _ _ => rfl)) pa_nil)) (pv 1)))
      (pss_cons (ps_dput hu (pv 0) pe_str (pe_op op_fdivW (pe_dget hu (pv 0) pe_str (fun _ _ => rfl)) (pv 1)) rfl)
      (pss_one (ps_ret (pv 2))))) pss_nil)
      (pss_cons (ps_set (i := 3) sc_law_draw.nd rfl (by first | exact .inl rfl | exact .inr rfl) (pe_dget hu (pv 0) pe_str (fun _ _ => rfl)))
      (pss_cons (ps_dput hu (pv 0) pe_str (pe_op op_add (pv 3) pe_int) rfl)
      (pss_cons (ps_par (i := 4) (j := 5) (by rfl) sc_law_draw.nd rfl rfl (by decide) rfl rfl (pa_cons (pe_dget hu (pv 0) pe_str (fun _ _ => rfl)) (pa_cons (pe_op op_add (pe_dget hu (pv 0) pe_str (fun _ _ => rfl)) (pe_op op_mul (pe_op op_mul pe_int (pv 3)) (pv 3))) pa_nil)) (by rfl))
      (pss_cons (ps_set (i := 6) sc_law_draw.nd rfl (by first | exact .inl rfl | exact .inr rfl) (pe_ix (r := rIxL K) ix_list (pv 4) (pe_op op_mod (pe_callTy call_int1 (by rfl) T.b_int (by decide +kernel) (pa_cons (pv 3) pa_nil)) (pe_callB (r := rLn K) call_ln (by rfl) T.b_len PySem.boot_len (pa_cons (pv 4) pa_nil))) (fun _ _ => rfl)))
      (pss_cons (ps_set (i := 7) sc_law_draw.nd rfl (by first | exact .inl rfl | exact .inr rfl) (pe_op op_mod (pe_callTy call_int1 (by rfl) T.b_int (by decide +kernel) (pa_cons (pe_op op_add (pe_op op_mul (pv 6) (pe_op op_add (pe_op op_mul pe_int (pv 3)) pe_int)) (pv 5)) pa_nil)) pe_int))
      (pss_cons (ps_set (i := 7) sc_law_draw.nd rfl (by first | exact .inl rfl | exact .inr rfl) (pe_op op_mod (pe_callTy call_int1 (by rfl) T.b_int (by decide +kernel) (pa_cons (pe_op op_add (pe_op op_add (pe_op op_mul (pv 7) (pv 7)) (pe_op op_mul pe_int (pv 3))) (pe_dget hu (pv 0) pe_str (fun _ _ => rfl))) pa_nil)) pe_int))
      (pss_one (ps_ret (pe_op op_mod (pe_op op_fdiv (pe_op op_mod (pe_callTy call_int1 (by rfl) T.b_int (by decide +kernel) (pa_cons (pe_op op_add (pe_op op_mul (pv 7) pe_int) (pv 3)) pa_nil)) pe_int) pe_int) (pv 1))))))))))), ?_⟩
    obtain ⟨d, lim, n, rfl, ⟨c, xs, l, sd, z, hd, hc, hx, ⟨hs0, hs1⟩, hz0, hzn⟩, ⟨h1, h2, h3⟩, q⟩ := h
    have hdc : d ≠ c := ne_of hd hc (by intro q; cases q)
    refine ⟨_, rfl, d, _, rfl, dg_l hd, l, 0, rfl, rfl, _, rfl, ?_⟩
    have hl0 : (0 : Int) < (lim : Int) := by omega
    by_cases hl : (0 : Int) < l
    · rw [decide_eq_true hl]
      refine iteT ⟨_, rfl, d, _, rfl, dg_l hd, .inl ⟨l, rfl, _, rfl, l, lim, rfl, rfl, hl0, ?_⟩⟩
      obtain ⟨r, er, hr1⟩ := imod_nat l lim h1
      dsimp only
      rw [er]
      refine ⟨_, rfl, d, _, rfl, dg_l hd, _, rfl, l, lim, rfl, rfl, ⟨hl0, h2⟩, _, rfl, d, _, rfl, dp_l hd, _, rfl, ?_⟩
      refine q r _ hr1 (Gr.wr (by simp)) ⟨c, xs, l / lim, sd, z, upd_same, ?_, hx, ⟨hs0, hs1⟩, hz0, by omega⟩
      rw [upd_ne hdc.symm]
      exact hc
    · rw [decide_eq_false hl]
      refine iteF ?_
      refine ⟨_, rfl, d, _, rfl, dg_s hd, ?_⟩
      refine ⟨_, rfl, _, _, rfl, rfl, _, rfl, d, _, rfl, dp_s hd, ?_⟩
      have hd' : (upd H d (.dK (mkv c l sd (z + 1)))) d = some (.dK (mkv c l sd (z + 1))) := upd_same
      have hc' : (upd H d (.dK (mkv c l sd (z + 1)))) c = some (.lst (xs.map V.int)) := by
        rw [upd_ne hdc.symm]
        exact hc
      have hxl : 1 ≤ xs.length := by
        cases xs with
        | nil => exact absurd rfl hx
        | cons x r => simp
      refine ⟨_, rfl, d, _, rfl, dg_c hd', _, rfl, d, _, rfl, dg_d hd', _, rfl, _, _, rfl, rfl, .inl ⟨by decide, by decide⟩, _, rfl, _, _, rfl, rfl, .inr ⟨by omega, by omega⟩, _, _, rfl, rfl, _, _, rfl, ?_⟩
      have hxi : ∃ i : Int, i = z := ⟨z, rfl⟩
      refine ⟨_, rfl, _, rfl, .inl ⟨z, rfl, _, rfl, c, _, rfl, .inl (sq_lst hc'), _, _, rfl, rfl, ?_, ?_⟩⟩
      · rw [List.length_map]
        omega
      rw [List.length_map]
      obtain ⟨j, ej, hj⟩ := imod_nat z xs.length hxl
      dsimp only
      refine ⟨c, _, _, .int xs[j], rfl, rfl, sq_lst hc', ?_, ?_⟩
      · rw [ej]
        refine atI_nat ?_
        rw [List.getElem?_map, List.getElem?_eq_getElem hj]
        rfl
      refine ⟨_, rfl, _, rfl, _, _, rfl, rfl, .inl ⟨by decide, by decide⟩, _, _, rfl, rfl, _, _, rfl, rfl, .inr ⟨by omega, by omega⟩, _, rfl, _, _, rfl, rfl, .inl ⟨_, rfl, _, _, rfl, rfl, (by show (0 : Int) < 2147483647; decide), ?_⟩⟩
      obtain ⟨u, eu, hu1⟩ := imod_nat (xs[j] * (2 * z + 3) + (sd + 40503 * z * z)) 2147483647 (by decide)
      have eu' : (xs[j] * (2 * z + 3) + (sd + 40503 * z * z)) % 2147483647 = (u : Int) := eu
      dsimp only
      rw [eu']
      refine ⟨_, rfl, _, rfl, _, _, rfl, rfl, .inl ⟨by omega, by omega⟩, _, rfl, _, _, rfl, rfl, .inl ⟨by decide, by decide⟩, _, _, rfl, rfl, _, rfl, d, _, rfl, dg_d hd', _, _, rfl, rfl, .inl ⟨_, rfl, _, _, rfl, rfl, (by show (0 : Int) < 2147483629; decide), ?_⟩⟩
      refine ⟨_, rfl, _, _, rfl, rfl, .inr ⟨by decide, by decide⟩, _, rfl, _, _, rfl, rfl, .inl ⟨_, rfl, _, _, rfl, rfl, (by show (0 : Int) < 2147483647; decide), _, _, rfl, rfl, ⟨by decide, by decide⟩, _, rfl, _, _, rfl, rfl, hl0, ?_⟩⟩
      dsimp only
      obtain ⟨r, er, hr1⟩ := imod_nat _ lim h1
      rw [er]
      exact q r _ hr1 (Gr.wr (by simp)) ⟨c, xs, l, sd, z + 1, hd', hc', hx, ⟨hs0, hs1⟩, by omega, by omega⟩

def sp_law_of (K : PySem.W.Frag) : Sp := fun vs H Q _ => ∃ (d a : Addr) (n : Nat) (xs : List V), vs = [.ref d, .ref a] ∧ MOk H d n ∧ H a = some (.lst xs) ∧ (xs ≠ [] ∧ xs.length ≤ 100000 ∧ n ≤ 1000000000) ∧
  ∀ v H', v ∈ xs → Gr [d] H H' → MOk H' d (n + 1) → Q v H'
theorem ok_law_of (T : Txt K mg) : FnOk P w K mg base CX0 2 T.d_law_of.f T.d_law_of.fd ["m", "some"] (sp_law_of K) := by
  refine T.d_law_of.F.ok sc_law_of (fun vs H Q E h => ?_) (fun cdv A outer s H vs Q E hr h => ?_)
  · obtain ⟨d, a, n, xs, rfl, _⟩ := h; rfl
  · have hu := hu_of hr
    refine ⟨_, (pss_one (ps_ret (pe_ix (r := rIxL K) ix_list (pv 1) (pe_call (ok_law_draw T) (hr.mono (by decide)) (by rfl) T.d_law_draw.m T.d_law_draw.F.kp T.d_law_draw.b .nil pass0 (pa_cons (pv 0) (pa_cons (pe_callB (r := rLn K) call_ln (by rfl) T.b_len PySem.boot_len (pa_cons (pv 1) pa_nil)) pa_nil))) (fun _ _ => rfl)))), ?_⟩
    obtain ⟨d, a, n, xs, rfl, M, ha, ⟨h1, h2, h3⟩, q⟩ := h
    have hl : 1 ≤ xs.length := by
      cases xs with
      | nil => exact absurd rfl h1
      | cons x r => simp
    refine ⟨_, rfl, _, rfl, _, rfl, a, _, rfl, .inl (sq_lst ha), ?_⟩
    refine ⟨d, xs.length, n, rfl, M, ⟨hl, lim_le (by omega), h3⟩, fun r H' hr g M' => ?_⟩
    have ha' := M.lst g ha
    exact ⟨a, xs, r, xs[r], rfl, rfl, sq_lst ha', atI_nat (by rw [List.getElem?_eq_getElem hr]), q _ _ (List.getElem_mem _) g M'⟩

def sp_law_divisor : Sp := fun vs H Q _ => ∃ a c : Nat, vs = [.int a, .int c] ∧ Q (.int (Nat.gcd a c : Nat)) H

theorem rl_succ (b n x i : Nat) : rl b n x (i + 1) = rl b n x i ++ [rem b n x i] := by
  unfold rl
  rw [List.range_succ, List.map_append]
  rfl
theorem rl_get {b n x i L : Nat} (h : i < L) : (vn (rl b n x L))[i]? = some (.int (rem b n x i : Nat)) := by
  unfold vn rl
  rw [List.map_map, List.getElem?_map, List.getElem?_range h]
  rfl
theorem flat_vn : ∀ xs : List Nat, (vn xs).all flatV = true
  | [] => rfl
  | x :: r => by
    show (true && (vn r).all flatV) = true
    rw [flat_vn r]
    rfl
def sp_law_powers (K : PySem.W.Frag) : Sp := fun vs H Q _ => ∃ (b n : Nat), vs = [.int b, .int n] ∧ (b ≤ 5000 ∧ 1 ≤ n ∧ n ≤ 5000) ∧
  ∀ (t l : Addr) H' (p q h L : Nat), Par b n p q h L → Gr [] H H' → H' t = some (.tup [.ref l, .int (h : Nat)]) → H' l = some (.lst (vn (rl b n 1 (h + L)))) → Q (.ref t) H'
theorem ok_law_powers (T : Txt K mg) : FnOk P w K mg base CX0 1 T.d_law_powers.f T.d_law_powers.fd ["b", "n"] (sp_law_powers K) := by
  refine T.d_law_powers.F.ok sc_law_powers (fun vs H Q E h => ?_) (fun cdv A outer s H vs Q E hr h => ?_)
  · obtain ⟨b, n, rfl, _⟩ := h; rfl
  · have hu := hu_of hr
    refine ⟨_, (pss_cons (ps_par (i := 2) (j := 3) (by rfl) sc_law_powers.nd rfl rfl (by decide) rfl rfl (pa_cons (pe_lst pa_nil) (pa_cons (pe_op op_mod pe_int (pv 1)) pa_nil)) (by rfl))
      (pss_cons (ps_while PassesOwn.never (pt_cmpR (r := rIn K true) op_notIn_seq (pv 3) (pv 2) rfl) (pss_cons (ps_expr (pe_bm PySem.F.plainAttrs_list PySem.F.slot_list_append PySem.F.type_list_append mt_append (pv 2) (pa_cons (pv 3) pa_nil)))
      (pss_one (ps_set (i := 3) sc_law_powers.nd rfl (by first | exact .inl rfl | exact .inr rfl) (pe_op op_mod (pe_callTy call_int1 (by rfl) T.b_int (by decide +kernel) (pa_cons (pe_op op_mul (pv 3) (pv 0)) pa_nil)) (pv 1))))))
      (pss_one (ps_ret (pe_tup (pa_cons (pv 2) (pa_cons (pe_bm (r := rIndex K) PySem.F.plainAttrs_list PySem.F.slot_list_index PySem.F.type_list_index mt_index (pv 2) (pa_cons (pv 3) pa_nil)) pa_nil))))))), ?_⟩
    obtain ⟨b, n, rfl, ⟨hb, hn1, hn⟩, q⟩ := h
    have g1 : Nat.gcd 1 n = 1 := Nat.gcd_one_left n
    refine ⟨Nat.zero_le _, fun l nl => ?_⟩
    refine ⟨_, rfl, _, n, rfl, rfl, (show (0 : Int) < (n : Int) by omega), ?_⟩
    refine ⟨_, _, rfl, ?_⟩
    have e0 : (1 : Int) % (n : Int) = ((rem b n 1 0 : Nat) : Int) := by
      unfold rem
      rw [Nat.pow_zero, Nat.mul_one]
      exact (Int.natCast_emod 1 n).symm
    dsimp only
    rw [e0]
    have nlH := nl
    refine ⟨fun m σ H' => ∃ i : Nat, m = n - i ∧ i ≤ n ∧ Gr [] H H' ∧ H' l = some (.lst (vn (rl b n 1 i))) ∧ σ = [some (.int b), some (.int n), some (.ref l), some (.int (rem b n 1 i : Nat))] ∧ (∀ u v, u < v → v < i → rem b n 1 u ≠ rem b n 1 v),
      ⟨n, 0, rfl, Nat.zero_le _, Gr.new nl, upd_same, rfl, fun u v _ z => absurd z (Nat.not_lt_zero _)⟩, ?_⟩
    rintro m σ H' ⟨i, rfl, hi, G, hL, rfl, hd⟩
    refine ⟨_, rfl, _, rfl, l, _, rfl, .inl (sq_lst hL), rfl, flat_vn _, _, rfl, ?_⟩
    by_cases hc : ∃ j, j < i ∧ rem b n 1 j = rem b n 1 i
    · obtain ⟨j, hj, ej⟩ := hc
      refine iteFb (by show (!inV (V.int ((rem b n 1 i : Nat) : Int)) (vn (rl b n 1 i))) = false; rw [inV_ni, decide_eq_true (mem_rl.mpr ⟨j, hj, ej⟩)]; rfl) ?_
      obtain ⟨p, q0, h, L, P⟩ := par_exists (b := b) hn1
      obtain ⟨ei, eh⟩ := ring_end P hn1 g1 hd hj ej
      refine ⟨_, rfl, _, rfl, .inl ⟨rfl, _, sq_lst hL⟩, _, rfl, l, _, _, j, .int (rem b n 1 j : Nat), rfl, rfl, sq_lst hL, rfl, flat_vn _, rl_get hj, ?_, ?_, by show 2 ≤ sizeLine; decide, fun t nt => ?_⟩
      · show (((rem b n 1 j : Nat) : Int) == ((rem b n 1 i : Nat) : Int)) = true
        rw [ej, beq_self_eq_true]
      · intro u z' hu hz
        rw [rl_get (by omega)] at hz
        cases hz
        show (((rem b n 1 u : Nat) : Int) == ((rem b n 1 i : Nat) : Int)) = false
        rw [beq_eq_false_iff_ne]
        intro z
        exact hd u j hu hj (by rw [ej]; omega)
      · refine q t l _ p q0 h L P (G.trans (Gr.new nt)) ?_ ?_
        · rw [upd_same, eh]
        · rw [upd_ne (ne_of_none hL nt), hL, ei]
    · have hno : ∀ j, j < i → rem b n 1 j ≠ rem b n 1 i := fun j hj ej => hc ⟨j, hj, ej⟩
      refine iteTb (by show (!inV (V.int ((rem b n 1 i : Nat) : Int)) (vn (rl b n 1 i))) = true; rw [inV_ni, decide_eq_false (fun z => by obtain ⟨j, hj, ej⟩ := mem_rl.mp z; exact hno j hj ej)]; rfl) ?_
      have hlt : rem b n 1 i < n := rem_lt hn1
      have hin : i + 1 ≤ n := by
        have := nodup_le n ((List.range (i + 1)).map fun u => rem b n 1 u) (by
          rw [List.nodup_iff_pairwise_ne, List.pairwise_map, List.pairwise_iff_getElem]
          intro u v hu hv huv
          rw [List.getElem_range, List.getElem_range]
          rw [List.length_range] at hv
          rcases Nat.lt_or_eq_of_le (show v ≤ i by omega) with z | z
          · exact hd u v huv z
          · rw [z]
            exact hno u (by omega)) (fun y hy => by
          obtain ⟨u, _, rfl⟩ := List.mem_map.mp hy
          exact rem_lt hn1)
        rw [List.length_map, List.length_range] at this
        exact this
      refine ⟨fun σ' H2 => Gr [] H H2 ∧ H2 l = some (.lst (vn (rl b n 1 (i + 1)))) ∧ σ' = [some (.int b), some (.int n), some (.ref l), some (.int (rem b n 1 (i + 1) : Nat))], ?_, ?_⟩
      · rintro σ' H2 ⟨G2, L2, rfl⟩
        refine ⟨n - (i + 1), by omega, i + 1, rfl, hin, G2, L2, rfl, fun u v huv hv => ?_⟩
        rcases Nat.lt_or_eq_of_le (show v ≤ i by omega) with z | z
        · exact hd u v huv z
        · rw [z]
          exact hno u (by omega)
      · have small : ∀ {k : Nat}, k ≤ 5000 → k < sizeLine := fun h => Nat.lt_of_lt_of_le (show _ < 6000 by omega) (by decide)
        refine ⟨_, rfl, .inl ⟨rfl, _, sq_lst hL⟩, _, rfl, l, _, _, rfl, rfl, hL, by rw [vn_len, rl_len]; exact small (by omega), ?_⟩
        rw [vn_snoc, ← rl_succ]
        refine ⟨_, rfl, _, rfl, _, b, rfl, rfl, .inl ⟨by omega, by omega⟩, .inl ⟨_, rfl, _, rfl, _, n, rfl, rfl, (show (0 : Int) < (n : Int) by omega), ?_⟩⟩
        dsimp only
        rw [icm, rem_succ]
        refine ⟨fun c o _ ec => ?_, upd_same, rfl⟩
        rw [upd_ne (ne_of_none ec nlH)]
        exact G c o (by simp) ec

def sp_law_period : Sp := fun vs H Q _ => ∃ (b n : Nat), vs = [.int b, .int n] ∧ (b ≤ 5000 ∧ 1 ≤ n ∧ n ≤ 5000) ∧
  ∀ (t : Addr) H' (p q h L : Nat), Par b n p q h L → Gr [] H H' → H' t = some (.tup [.int (L : Nat), .int (h : Nat)]) → Q (.ref t) H'

def sp_law_units : Sp := fun vs H Q _ => ∃ (n : Nat), vs = [.int n] ∧ n ≤ 5000 ∧ ∀ (a : Addr) H', Gr [] H H' → H' a = some (.lst (vn (copL n))) → Q (.ref a) H'
theorem cop_step {n k : Nat} : ((List.range (k + 1)).filter fun x => decide (Nat.gcd x n = 1)) = ((List.range k).filter fun x => decide (Nat.gcd x n = 1)) ++ (if Nat.gcd k n = 1 then [k] else []) := by
  rw [List.range_succ, List.filter_append]
  by_cases h : Nat.gcd k n = 1
  · rw [if_pos h, List.filter_cons_of_pos (p := fun x => decide (Nat.gcd x n = 1)) (decide_eq_true h)]
    rfl
  · rw [if_neg h, List.filter_cons_of_neg (p := fun x => decide (Nat.gcd x n = 1)) (by rw [decide_eq_true_eq]; exact h)]
    rfl

def sp_law_begun (K : PySem.W.Frag) : Sp := fun vs H Q _ => ∃ (a : Addr) (ns : List Int) (k : Nat), vs = [.ref a, .int k] ∧ SqL K H a (ns.map V.int) ∧ ns.length ≤ 63 ∧ k ≤ 1000 ∧ ∀ d H', H d = none → Gr [] H H' → MOk H' d 0 → Q (.ref d) H'
theorem eqv_nil (ys : List Int) : PyData.eqv (.list (ys.map PyData.int)) (.list []) = ys.isEmpty := by
  cases ys with
  | nil => rfl
  | cons y r => rfl
theorem lay_ints : ∀ ys : List Int, PyData.canLayAll0 (ys.map PyData.int) = true ∧ PyData.depthAll (ys.map PyData.int) = 0
  | [] => ⟨rfl, rfl⟩
  | y :: r => by
    obtain ⟨h1, h2⟩ := lay_ints r
    refine ⟨?_, ?_⟩
    · show (true && PyData.canLayAll0 (r.map PyData.int)) = true
      rw [h1]
      rfl
    · show max 0 (PyData.depthAll (r.map PyData.int)) = 0
      rw [h2]
      rfl
theorem shaped_ints (ys : List Int) : SeqAt.shaped (.list (ys.map PyData.int)) = true := by
  obtain ⟨h1, h2⟩ := lay_ints ys
  exact Fits.shaped h1 (by show PyData.depthAll _ + 1 ≤ 64; rw [h2]; decide)
theorem get_ints {ns : List Int} {i : Nat} {x : V} (h : (ns.map V.int)[i]? = some x) : ∃ n, x = .int n ∧ ns[i]? = some n ∧ i < ns.length := by
  rw [List.getElem?_map] at h
  cases e : ns[i]? with
  | none =>
    rw [e] at h
    cases h
  | some n =>
    rw [e] at h
    exact ⟨n, (Option.some.inj h).symm, rfl, (List.getElem?_eq_some_iff.mp e).1⟩
theorem cut_ints (ns : List Int) (lo hi : Option Int) : ∃ ys : List Int, cutV (ns.map V.int) lo hi = ys.map V.int ∧ ys.length ≤ ns.length := by
  unfold cutV
  rw [← List.map_drop, ← List.map_take]
  exact ⟨_, rfl, by rw [List.length_take, List.length_drop]; omega⟩
theorem ok_law_begun (T : Txt K mg) : FnOk P w K mg base CX0 1 T.d_law_begun.f T.d_law_begun.fd ["script", "k"] (sp_law_begun K) := by
  refine T.d_law_begun.F.ok sc_law_begun (fun vs H Q E h => ?_) (fun cdv A outer s H vs Q E hr h => ?_)
  · obtain ⟨a, ns, k, rfl, _⟩ := h; rfl
  · have hu := hu_of hr
    refine ⟨_, (pss_cons (ps_set (i := 2) sc_law_begun.nd rfl (by first | exact .inl rfl | exact .inr rfl) (pe_op op_cat (pe_slice (r := rSlL K) sl_list (pv 0) (po_some (pv 1)) po_none) (pe_slice (r := rSlL K) sl_list (pv 0) po_none (po_some (pv 1)))))
      (pss_cons (ps_setLc (i := 3) (own := [("cell", 4)]) (g := gName 4) (tt := _) rfl sc_law_begun.nd rfl rfl (sw_true rfl rfl rfl (by decide +kernel)) (pi_list (pv 2)) (blkOk_by (own := [("cell", 4)]) (N := ["script", "k", "cells", "great", "cell", "seed"]) (sc := defScope s_law_begun) (by decide +kernel)) (fun _ _ _ _ _ => (pg_name (i := 4) sc_law_begun.nd rfl (by first | exact .inl rfl | exact .inr rfl))) (fun _ _ _ _ _ => (pts_one (pt_cmpR op_ge (pv 4) (pe_op op_pow pe_int pe_int) (nomark _)))) (fun _ _ _ _ _ => (pv 4)))
      (pss_cons (ps_set (i := 5) sc_law_begun.nd rfl (by first | exact .inl rfl | exact .inr rfl) (pe_op op_add pe_int (pv 1)))
      (pss_cons (ps_for PassesOwn.never rfl (pi_list (pv 2)) (pg_name (i := 4) sc_law_begun.nd rfl (by first | exact .inl rfl | exact .inr rfl)) (pss_one (ps_set (i := 5) sc_law_begun.nd rfl (by first | exact .inl rfl | exact .inr rfl) (pe_op op_mod (pe_callTy call_int1 (by rfl) T.b_int (by decide +kernel) (pa_cons (pe_op op_add (pe_op op_mul (pv 5) pe_int) (pv 4)) pa_nil)) pe_int))))
      (pss_one (ps_ret (pe_disp (pps_cons pe_str (pe_ifExp (pt_cmpR (r := rNeD K) (op_neD hr.units) (pv 3) (pe_lst pa_nil) (nomark _)) (pe_ix (r := rIxL K) ix_list (pv 3) pe_int (fun _ _ => rfl)) pe_int) (pps_cons pe_str (pv 5) (pps_cons pe_str (pe_op op_cat (pv 2) (pe_lst (pa_cons (pe_op op_add (pe_op op_mul pe_int (pv 1)) pe_int) pa_nil))) (pps_cons pe_str pe_int pps_nil)))) (by rfl) (by rfl) (fun z => by cases z) (by decide)))))))), ?_⟩
    obtain ⟨a, ns, k, rfl, hS, hn, hk, q⟩ := h
    have sz : ∀ {k : Nat}, k ≤ 1000 → k < sizeLine := fun h => small1000 h
    refine ⟨_, rfl, _, rfl, (k : Int), rfl, ?_⟩
    dsimp only [tNoPart]
    refine ⟨a, _, rfl, hS, fun p1 n1 => ?_⟩
    obtain ⟨y1, e1, l1⟩ := cut_ints ns (some (k : Int)) none
    rw [e1]
    have g1 : Gr [] H (upd H p1 (.lst (y1.map V.int))) := Gr.new n1
    have h1 : (upd H p1 (.lst (y1.map V.int))) p1 = some (.lst (y1.map V.int)) := upd_same
    generalize upd H p1 (.lst (y1.map V.int)) = H1 at g1 h1 ⊢
    refine ⟨_, rfl, _, rfl, (k : Int), rfl, a, _, rfl, (Kp.of g1).sqL hS, fun p2 n2 => ?_⟩
    obtain ⟨y2, e2, l2⟩ := cut_ints ns none (some (k : Int))
    rw [e2]
    have g2 : Gr [] H1 (upd H1 p2 (.lst (y2.map V.int))) := Gr.new n2
    have h2 : (upd H1 p2 (.lst (y2.map V.int))) p2 = some (.lst (y2.map V.int)) := upd_same
    generalize upd H1 p2 (.lst (y2.map V.int)) = H2 at g2 h2 ⊢
    refine ⟨p1, p2, _, _, rfl, rfl, g2 p1 _ (by simp) h1, h2, by rw [List.length_map, List.length_map]; exact Nat.le_of_lt (sz (by omega)), fun p3 n3 => ?_⟩
    dsimp only
    rw [← List.map_append]
    have g3 : Gr [] H2 (upd H2 p3 (.lst ((y1 ++ y2).map V.int))) := Gr.new n3
    have h3 : (upd H2 p3 (.lst ((y1 ++ y2).map V.int))) p3 = some (.lst ((y1 ++ y2).map V.int)) := upd_same
    generalize upd H2 p3 (.lst ((y1 ++ y2).map V.int)) = H3 at g3 h3 ⊢
    have G3 := (g1.trans g2).trans g3
    clear g1 g2 g3 h1 h2 e1 e2
    obtain ⟨xs, ex⟩ : ∃ xs, xs = y1 ++ y2 := ⟨_, rfl⟩
    have hxl : xs.length ≤ 126 := by
      rw [ex, List.length_append]
      omega
    rw [← ex] at h3
    clear ex
    refine ⟨_, rfl, p3, rfl, ⟨_, sq_lst h3⟩, fun D nD => ?_⟩
    have hDp : D ≠ p3 := fun e => by
      rw [e, h3] at nD
      cases nD
    refine lc_list (K := K) (a := p3) (xs := xs.map V.int) (fun i H' => Gr [] H3 H' ∧ ∃ ys : List Int, ys.length ≤ i ∧ H' D = some (.lst (ys.map V.int))) ⟨Gr.new nD, [], Nat.le_refl _, upd_same⟩ (fun i H' _ z => (Kp.of z.1).sqL (sq_lst h3)) ?_ ?_
    · rintro i y H' hy ⟨G, ys, hl, hD⟩
      obtain ⟨n, rfl, hn', hi⟩ := get_ints hy
      refine ⟨rfl, ?_⟩
      refine ⟨_, rfl, _, _, rfl, rfl, ⟨by decide, by decide, by decide⟩, _, _, rfl, rfl, _, rfl, ?_⟩
      have ex : ∀ {o : HO}, Gr [] H3 (upd H' D o) := fun {o} c u _ e => by
        rw [upd_ne (ne_of_none e nD)]
        exact G c u (by simp) e
      refine ite2 (fun _ => ?_) (fun _ => ?_)
      · refine ⟨_, rfl, _, hD, by rw [List.length_map]; exact sz (by omega), ex, ys ++ [n], by rw [List.length_append]; simp; omega, ?_⟩
        rw [upd_same, List.map_append]
        rfl
      · exact ⟨G, ys, by omega, hD⟩
    rintro H4 ⟨g4, ys, hl, hD⟩
    have h4 := g4 p3 _ (by simp) h3
    rw [List.length_map] at hl
    refine ⟨_, rfl, _, _, rfl, rfl, ?_⟩
    refine ⟨_, rfl, p3, rfl, ⟨_, sq_lst h4⟩, ?_⟩
    refine for_list (K := K) (a := p3) (xs := xs.map V.int) (fun i σ H' => H' = H4 ∧ ∃ (sd : Int) (v : Option V), (0 ≤ sd ∧ sd < 2147483647) ∧ σ = [some (.ref a), some (.int k), some (.ref p3), some (.ref D), v, some (.int sd)]) ⟨rfl, 131 + (k : Int), none, ⟨by omega, by omega⟩, rfl⟩ (fun i σ H' _ z => by rw [z.1]; exact sq_lst h4) ?_ ?_
    · rintro i y σ H' hy ⟨rfl, sd, v, ⟨s0, s1⟩, rfl⟩
      obtain ⟨n, rfl, _, _⟩ := get_ints hy
      refine ⟨_, rfl, _, _, rfl, rfl, .inr ⟨by decide, by decide⟩, _, rfl, _, _, rfl, rfl, .inl ⟨_, rfl, _, _, rfl, rfl, (by show (0 : Int) < 2147483647; decide), ?_⟩⟩
      exact ⟨rfl, _, _, ⟨Int.emod_nonneg _ (by decide), Int.emod_lt_of_pos _ (by decide)⟩, rfl⟩
    rintro σ H' ⟨rfl, sd, v, hs, rfl⟩
    intro p np
    have gp : Gr [] H' (upd H' p (.dK [])) := Gr.new np
    have hp : (upd H' p (.dK [])) p = some (.dK []) := upd_same
    have hD5 := gp D _ (by simp) hD
    have h5 := gp p3 _ (by simp) h4
    have np0 := np
    generalize hH5 : upd H' p (.dK []) = H5 at gp hp hD5 h5 ⊢
    have G4 : ∀ (H7 : Hp) (p6 : Addr) (l0 : Int), Gr [] H5 H7 → H7 p6 = some (.lst ((xs ++ [43 * (k : Int) + 7]).map V.int)) → Q (.ref p) (upd H7 p (.dK (mergeK [] (mkv p6 l0 sd 0)))) := fun H7 p6 l0 g7 h6 => by
      rw [mm]
      have hp7 := g7 p _ (by simp) hp
      have hne : p6 ≠ p := by
        intro e
        rw [e, hp7] at h6
        cases h6
      refine q p _ (by
        cases z : H p with
        | none => rfl
        | some o =>
          have := g4 p o (by simp) (G3 p o (by simp) z)
          rw [np] at this
          cases this) (fun c u _ e => ?_) ⟨p6, xs ++ [43 * (k : Int) + 7], l0, sd, 0, upd_same, ?_, by simp, hs, Int.le_refl _, Int.le_refl _⟩
      · have e1 := g4 c u (by simp) (G3 c u (by simp) e)
        rw [upd_ne (ne_of_none e1 np)]
        exact g7 c u (by simp) (gp c u (by simp) e1)
      · rw [upd_ne hne]
        exact h6
    refine ⟨_, rfl, Nat.zero_le _, fun q0 nq => ?_⟩
    have hq := (Gr.new (W := []) (o := .lst []) nq)
    refine ⟨.list (ys.map PyData.int), .list [], dp_lst (hq D _ (by simp) hD5) (dpAll_ints ys), dp_lst upd_same .nil, shaped_ints ys, rfl, _, rfl, ?_⟩
    rw [eqv_nil]
    have gq : Gr [] H5 (upd H5 q0 (.lst [])) := hq
    have h6 := hq p3 _ (by simp) h5
    have hD6 := hq D _ (by simp) hD5
    generalize upd H5 q0 (.lst []) = H6 at gq h6 hD6 ⊢
    cases ys with
    | nil =>
      refine iteF ?_
      refine ⟨_, rfl, _, rfl, _, rfl, _, _, rfl, rfl, .inl ⟨by decide, by decide⟩, _, _, rfl, rfl, by show 1 ≤ sizeLine; decide, fun p7 n7 => ?_⟩
      have k1 := (Gr.new (W := []) (o := .lst [V.int (43 * (k : Int) + 7)]) n7) p3 _ (by simp) h6
      refine ⟨p3, p7, _, _, rfl, rfl, k1, upd_same, by rw [List.length_map]; exact Nat.le_of_lt (sz (by show xs.length + 1 ≤ 1000; omega)), fun p8 n8 => ?_⟩
      have g8 := (gq.trans (Gr.new (W := []) (o := .lst [V.int (43 * (k : Int) + 7)]) n7)).trans (Gr.new (W := []) (o := .lst (xs.map V.int ++ [V.int (43 * (k : Int) + 7)])) n8)
      refine ⟨g8 p _ (by simp) hp, mkv p8 0 sd 0, rfl, by show 4 ≤ 15; decide, G4 _ p8 0 g8 ?_⟩
      rw [upd_same, List.map_append]
      rfl
    | cons y r =>
      refine iteT ⟨_, rfl, D, _, 0, .int y, rfl, rfl, sq_lst hD6, atI_nat (j := 0) rfl, ?_⟩
      refine ⟨_, rfl, _, rfl, _, rfl, _, _, rfl, rfl, .inl ⟨by decide, by decide⟩, _, _, rfl, rfl, by show 1 ≤ sizeLine; decide, fun p7 n7 => ?_⟩
      have k1 := (Gr.new (W := []) (o := .lst [V.int (43 * (k : Int) + 7)]) n7) p3 _ (by simp) h6
      refine ⟨p3, p7, _, _, rfl, rfl, k1, upd_same, by rw [List.length_map]; exact Nat.le_of_lt (sz (by show xs.length + 1 ≤ 1000; omega)), fun p8 n8 => ?_⟩
      have g8 := (gq.trans (Gr.new (W := []) (o := .lst [V.int (43 * (k : Int) + 7)]) n7)).trans (Gr.new (W := []) (o := .lst (xs.map V.int ++ [V.int (43 * (k : Int) + 7)])) n8)
      refine ⟨g8 p _ (by simp) hp, mkv p8 y sd 0, rfl, by show 4 ≤ 15; decide, G4 _ p8 y g8 ?_⟩
      rw [upd_same, List.map_append]
      rfl

end
end Wn
namespace Wn
open PySem PySem.Spec PyProof.Rows L2
local macro_rules | `(tactic| walk_at "vc") => `(tactic| simp only [cxK, cxK2, start1, start2, start3, tRet, tRetN, tSeq, tNext, tIfS, tAsg, gName, tDrop, tVar, tC, tOp, tUn, tTest, tB, tNot, tAnd, tOr, tAndV, tOrV, tNotV, tIf, tCons, tNil, tCB, tCall, tChain, tAug, ipI, rI, rI0, rU, rIs, rGcd, rEq, rNe, scal,
  List.getElem?_cons_zero, List.getElem?_cons_succ, List.set_cons_zero, List.set_cons_succ, Option.some.injEq, List.cons.injEq, V.int.injEq, V.bl.injEq, V.ref.injEq, V.str.injEq, and_true, true_and, exists_eq_left, exists_eq_left', exists_and_left, exists_and_right, List.append_nil, List.nil_append, List.cons_append, exists_eq_right, exists_eq_right', and_assoc, exists_const, V.ty.injEq, ↓reduceIte, Bool.false_eq_true, Bool.not_true, Bool.not_false, decide_eq_true_eq])

section
variable {P : Program} {w : World} {K : PySem.W.Frag} {mg : Str → Option Value} {base : Heap}
theorem ok_init_BadPaper (T : Txt K mg) : FnOk P w K mg base CX0 1 T.I_BadPaper T.fd_BadPaper ["self", "part"] (spInit T.C_BadPaper "part") := by
  refine T.F_BadPaper.ok sc_BadPaper_init (fun vs H Q E h => ?_) (fun cdv A outer s H vs Q E hr h => ?_)
  · obtain ⟨a, v, rfl, _⟩ := h
    rfl
  · obtain ⟨a, v, rfl, ha, q⟩ := h
    refine ⟨_, pss_cons (ps_expr (pe_initW T.T_BadPaper (by rfl) T.g_WheelError T.r_WheelError T.i_WheelError (by rfl) (pa_cons (pv 0) (pa_cons pe_str pa_nil)))) (pss_one (ps_ostE T.T_BadPaper (pv 0) (pv 1))), ?_⟩
    exact ⟨_, rfl, a, _, rfl, by show 1 ≤ 1000; decide, ha, _, rfl, _, rfl, a, rfl, ha, fun d nd da => q d nd da⟩

/-! values of any kind -/
def tyD : PyData → String
  | .none => "NoneType"
  | .bool _ => "bool"
  | .int _ => "int"
  | .str _ => "str"
  | .list _ => "list"
  | .tuple _ => "tuple"
  | .dict _ => "dict"
theorem sqT_ty {K : PySem.W.Frag} {H : Hp} {a : Addr} {xs : List V} (h : SqT K H a xs) : TyX K H (.ref a) (.type "tuple") := by
  rcases h with (h | ⟨o, h⟩) | ⟨o, its, n, h, c, _⟩
  · exact .base (.tup h)
  · exact .fTuple h
  · exact .kTuple h c
theorem sqL_ty {K : PySem.W.Frag} {H : Hp} {a : Addr} {xs : List V} (h : SqL K H a xs) : TyX K H (.ref a) (.type "list") := by
  rcases h with (h | ⟨o, h⟩) | ⟨o, its, n, h, c, _⟩
  · exact .base (.lst h)
  · exact .base (.frz h)
  · exact .kList h c
theorem dp_ty {K : PySem.W.Frag} {H : Hp} {v : V} {d : PyData} (h : Dp K H v d) : TyX K H v (.type (tyD d)) ∧ tyD d ∈ tyNames := by
  cases h with
  | non => exact ⟨.base .non, by decide⟩
  | bl b => exact ⟨.base (.bl b), by show "bool" ∈ tyNames; decide⟩
  | int i => exact ⟨.base (.int i), by show "int" ∈ tyNames; decide⟩
  | str x => exact ⟨.base (.str x), by show "str" ∈ tyNames; decide⟩
  | lst s a => exact ⟨sqL_ty s, by show "list" ∈ tyNames; decide⟩
  | tup s a => exact ⟨sqT_ty s, by show "tuple" ∈ tyNames; decide⟩
def isI : PyData → Bool
  | .int _ => true
  | _ => false
def isW (lo hi : Int) : PyData → Bool
  | .int i => decide (lo ≤ i) && decide (i ≤ hi)
  | _ => false
theorem rIs_dp {K : PySem.W.Frag} {H : Hp} {v : V} {d : PyData} {n : String} {Q : VK} (h : Dp K H v d) (hn : n ∈ qyNames) (q : Q (.bl (isB (tyD d) n)) H) : rIs K [v, .ty n] H Q :=
  ⟨v, n, rfl, tyD d, ⟨(dp_ty h).1, (dp_ty h).2, hn⟩, q⟩
def sp_is_integerA (K : PySem.W.Frag) : Sp := fun vs H Q _ => ∃ (v : V) (d : PyData), vs = [v] ∧ Dp K H v d ∧ Q (.bl (isI d)) H
def sp_is_withinA (K : PySem.W.Frag) : Sp := fun vs H Q _ => ∃ (v : V) (d : PyData) (lo hi : Int), vs = [v, .int lo, .int hi] ∧ Dp K H v d ∧ Q (.bl (isW lo hi d)) H
theorem tyD_nn {d : PyData} (h1 : isB (tyD d) "int" = true) (h2 : isB (tyD d) "bool" = false) : ∃ i, d = .int i := by
  cases d with
  | int i => exact ⟨i, rfl⟩
  | none => cases h1
  | bool b => cases h2
  | str x => cases h1
  | list x => cases h1
  | tuple x => cases h1
  | dict x => cases h1
theorem okA_is_integer (T : Txt K mg) : FnOk P w K mg base CX0 1 T.d_is_integer.f T.d_is_integer.fd ["value"] (sp_is_integerA K) := by
  refine T.d_is_integer.F.ok sc_is_integer (fun vs H Q E h => ?_) (fun cdv A outer s H vs Q E hr h => ?_)
  · obtain ⟨v, d, rfl, _⟩ := h; rfl
  · have hu := hu_of hr
    refine ⟨_, (pss_one (ps_ret (pe_and (pe_callB (r := rIs K) call_is (by rfl) T.b_isinstance (by decide +kernel) (pa_cons (pv 0) (pa_cons (pe_bltn (v := .ty "int") (by rfl) T.b_int (by decide +kernel) rfl) pa_nil))) (pe_one (pe_not (pe_callB (r := rIs K) call_is (by rfl) T.b_isinstance (by decide +kernel) (pa_cons (pv 0) (pa_cons (pe_bltn (v := .ty "bool") (by rfl) T.b_bool (by decide +kernel) rfl) pa_nil)))))))), ?_⟩
    obtain ⟨v, d, rfl, hd, q⟩ := h
    refine ⟨_, rfl, v, "int", rfl, tyD d, ⟨(dp_ty hd).1, (dp_ty hd).2, by decide⟩, _, rfl, ?_⟩
    cases h1 : isB (tyD d) "int" with
    | false =>
      refine iteF ?_
      have e : isI d = false := by
        cases d with
        | int i => cases h1
        | none => rfl
        | bool b => rfl
        | str x => rfl
        | list x => rfl
        | tuple x => rfl
        | dict x => rfl
      rw [e] at q
      exact q
    | true =>
      refine iteT ⟨_, rfl, v, "bool", rfl, tyD d, ⟨(dp_ty hd).1, (dp_ty hd).2, by decide⟩, _, rfl, ?_⟩
      cases h2 : isB (tyD d) "bool" with
      | true =>
        have e : isI d = false := by
          cases d with
          | bool b => rfl
          | int i => cases h2
          | none => cases h2
          | str x => cases h2
          | list x => cases h2
          | tuple x => cases h2
          | dict x => cases h2
        rw [e] at q
        exact q
      | false =>
        obtain ⟨i, rfl⟩ := tyD_nn h1 h2
        exact q
theorem okA_is_within (T : Txt K mg) : FnOk P w K mg base CX0 2 T.d_is_within.f T.d_is_within.fd ["value", "low", "high"] (sp_is_withinA K) := by
  refine T.d_is_within.F.ok sc_is_within (fun vs H Q E h => ?_) (fun cdv A outer s H vs Q E hr h => ?_)
  · obtain ⟨v, d, lo, hi, rfl, _⟩ := h; rfl
  · have hu := hu_of hr
    refine ⟨_, (pss_one (ps_ret (pe_and (pe_call (okA_is_integer T) (hr.mono (by decide)) (by rfl) T.d_is_integer.m T.d_is_integer.F.kp T.d_is_integer.b .nil pass0 (pa_cons (pv 0) pa_nil)) (pe_one (pe_chain op_le op_le (pv 1) (pv 0) (pv 2)))))), ?_⟩
    obtain ⟨v, d, lo, hi, rfl, hd, q⟩ := h
    refine ⟨_, rfl, v, d, rfl, hd, _, rfl, ?_⟩
    cases d with
    | int i =>
      obtain rfl := dp_int hd
      refine iteT ?_
      walk_at "vc"
      by_cases h1 : lo ≤ i
      · have e : isW lo hi (.int i) = decide (i ≤ hi) := by
          show (decide (lo ≤ i) && decide (i ≤ hi)) = _
          rw [decide_eq_true h1, Bool.true_and]
        rw [if_pos h1, ← e]
        exact q
      · have e : isW lo hi (.int i) = false := by
          show (decide (lo ≤ i) && decide (i ≤ hi)) = _
          rw [decide_eq_false h1, Bool.false_and]
        rw [if_neg h1, ← e]
        exact q
    | none => exact iteF q
    | bool b => exact iteF q
    | str x => exact iteF q
    | list x => exact iteF q
    | tuple x => exact iteF q
    | dict x => exact iteF q

end
end Wn
namespace Wn
open PySem PySem.Spec PyProof.Rows L2
local macro_rules | `(tactic| walk_at "vc") => `(tactic| simp only [cxK, cxK2, start1, start2, start3, tRet, tRetN, tSeq, tNext, tIfS, tAsg, gName, tDrop, tVar, tC, tOp, tUn, tTest, tB, tNot, tAnd, tOr, tAndV, tOrV, tNotV, tIf, tCons, tNil, tCB, tCall, tChain, tAug, ipI, rI, rI0, rU, rIs, rGcd, rEq, rNe, scal,
  List.getElem?_cons_zero, List.getElem?_cons_succ, List.set_cons_zero, List.set_cons_succ, Option.some.injEq, List.cons.injEq, V.int.injEq, V.bl.injEq, V.ref.injEq, V.str.injEq, and_true, true_and, exists_eq_left, exists_eq_left', exists_and_left, exists_and_right, List.append_nil, List.nil_append, List.cons_append, exists_eq_right, exists_eq_right', and_assoc, exists_const, V.ty.injEq, ↓reduceIte, Bool.false_eq_true, Bool.not_true, Bool.not_false, decide_eq_true_eq])

section
variable {P : Program} {w : World} {K : PySem.W.Frag} {mg : Str → Option Value} {base : Heap}

theorem small5 {k : Nat} (h : k ≤ 5000) : k < sizeLine := Nat.lt_of_lt_of_le (show _ < 6000 by omega) (by decide)
theorem per_le {b n L : Nat} (hn : 1 ≤ n) (g : Nat.gcd b n = 1) (h : IsPer b n L) : L ≤ n := by
  obtain ⟨d, hd, hd'⟩ := per_exists hn g
  rw [h.uniq hd']
  exact hd

theorem sq_step (r s l n : Nat) : (r * s ^ l) % n = if l % 2 = 1 then ((r * s % n) * (s * s % n) ^ (l / 2)) % n else (r * (s * s % n) ^ (l / 2)) % n := by
  have e : ∀ a, (a * (s * s % n) ^ (l / 2)) % n = (a * (s * s) ^ (l / 2)) % n := fun a => by
    rw [Nat.mul_mod, ← Nat.pow_mod, ← Nat.mul_mod]
  split
  · rename_i h
    have hl : l = 2 * (l / 2) + 1 := by omega
    rw [e, Nat.mod_mul_mod]
    conv => lhs; rw [hl]
    rw [Nat.pow_succ, Nat.pow_mul, Nat.pow_two, Nat.mul_comm ((s * s) ^ (l / 2)) s, Nat.mul_assoc]
  · rename_i h
    have hl : l = 2 * (l / 2) := by omega
    rw [e]
    conv => lhs; rw [hl]
    rw [Nat.pow_mul, Nat.pow_two]
def sp_power_rest : Sp := fun vs H Q _ => ∃ b e n : Nat, vs = [.int b, .int e, .int n] ∧ (1 ≤ n ∧ n ≤ 5000) ∧ Q (.int (b ^ e % n : Nat)) H
theorem ok_power_rest (T : Txt K mg) : FnOk P w K mg base CX0 1 T.d_power_rest.f T.d_power_rest.fd ["number", "exponent", "divisor"] sp_power_rest := by
  refine T.d_power_rest.F.ok sc_power_rest (fun vs H Q E h => ?_) (fun cdv A outer s H vs Q E hr h => ?_)
  · obtain ⟨b, e, n, rfl, _⟩ := h; rfl
  · have hu := hu_of hr
    refine ⟨_, (pss_cons (ps_set (i := 3) sc_power_rest.nd rfl (by first | exact .inl rfl | exact .inr rfl) (pe_op op_mod pe_int (pv 2)))
      (pss_cons (ps_set (i := 4) sc_power_rest.nd rfl (by first | exact .inl rfl | exact .inr rfl) (pe_op op_mod (pv 0) (pv 2)))
      (pss_cons (ps_set (i := 5) sc_power_rest.nd rfl (by first | exact .inl rfl | exact .inr rfl) (pv 1))
      (pss_cons (ps_while PassesOwn.never (pt_cmpR op_gt (pv 5) pe_int (nomark _)) (pss_cons (ps_if (pt_cmpR op_eq (pe_op op_mod (pv 5) pe_int) pe_int (nomark _)) (pss_one (ps_set (i := 3) sc_power_rest.nd rfl (by first | exact .inl rfl | exact .inr rfl) (pe_op op_mod (pe_op op_mul (pv 3) (pv 4)) (pv 2)))) pss_nil)
      (pss_cons (ps_set (i := 4) sc_power_rest.nd rfl (by first | exact .inl rfl | exact .inr rfl) (pe_op op_mod (pe_op op_mul (pv 4) (pv 4)) (pv 2)))
      (pss_one (ps_set (i := 5) sc_power_rest.nd rfl (by first | exact .inl rfl | exact .inr rfl) (pe_op op_fdiv (pv 5) pe_int))))))
      (pss_one (ps_ret (pv 3))))))), ?_⟩
    obtain ⟨b, e, n, rfl, ⟨hn1, hn2⟩, q⟩ := h
    have hn0 : (0 : Int) < (n : Int) := by omega
    have e1 : (1 : Int) % (n : Int) = ((1 % n : Nat) : Int) := by rw [Int.natCast_emod]; rfl
    refine ⟨_, rfl, 1, n, rfl, rfl, hn0, ?_⟩
    refine ⟨_, rfl, _, rfl, b, n, rfl, rfl, hn0, ?_⟩
    refine ⟨_, rfl, ?_⟩
    refine ⟨fun m σ H' => H' = H ∧ ∃ r s : Nat, r < n ∧ s < n ∧ r * s ^ m % n = b ^ e % n ∧ σ = [some (.int b), some (.int e), some (.int n), some (.int r), some (.int s), some (.int m)], ⟨e, rfl, 1 % n, b % n, Nat.mod_lt _ hn1, Nat.mod_lt _ hn1, ?_, ?_⟩, ?_⟩
    · rw [Nat.mod_mul_mod, Nat.one_mul, ← Nat.pow_mod]
    · rw [← e1, Int.natCast_emod]
      rfl
    rintro m σ H' ⟨rfl, r, s, hr1, hs1, hrs, rfl⟩
    refine ⟨_, rfl, _, _, rfl, rfl, _, rfl, ?_⟩
    by_cases hc : (0 : Int) < (m : Int)
    · rw [decide_eq_true hc]
      have st := sq_step r s m n
      have e2 : (m : Int) % 2 = ((m % 2 : Nat) : Int) := by omega
      have e3 : (m : Int) / 2 = ((m / 2 : Nat) : Int) := by omega
      refine iteT ⟨fun σ' H2 => H2 = H' ∧ ∃ r s : Nat, r < n ∧ s < n ∧ r * s ^ (m / 2) % n = b ^ e % n ∧ σ' = [some (.int b), some (.int e), some (.int n), some (.int r), some (.int s), some (.int (m / 2 : Nat))], ?_, ?_⟩
      · rintro σ' H2 ⟨rfl, r', s', h1, h2, h3, rfl⟩
        exact ⟨m / 2, by omega, rfl, r', s', h1, h2, h3, rfl⟩
      · refine ⟨_, rfl, _, _, rfl, rfl, (by show (0 : Int) < 2; decide), rfl, _, rfl, ?_⟩
        by_cases ho : m % 2 = 1
        · rw [decide_eq_true (show V.int ((m : Int) % 2) = V.int 1 by rw [e2, ho]; rfl)]
          rw [if_pos ho] at st
          refine iteT ⟨_, rfl, _, rfl, _, _, rfl, rfl, .inl ⟨by omega, by omega⟩, _, rfl, _, _, rfl, rfl, hn0, ?_⟩
          refine ⟨_, rfl, _, rfl, _, _, rfl, rfl, .inl ⟨by omega, by omega⟩, _, rfl, _, _, rfl, rfl, hn0, ?_⟩
          refine ⟨_, rfl, _, _, rfl, rfl, ⟨by decide, by decide⟩, rfl, r * s % n, s * s % n, Nat.mod_lt _ hn1, Nat.mod_lt _ hn1, st.symm.trans hrs, ?_⟩
          dsimp only
          rw [icm, icm, e3]
          rfl
        · rw [decide_eq_false (show ¬ V.int ((m : Int) % 2) = V.int 1 from fun z => ho (by have := V.int.inj z; omega))]
          rw [if_neg ho] at st
          refine iteF ?_
          refine ⟨_, rfl, _, rfl, _, _, rfl, rfl, .inl ⟨by omega, by omega⟩, _, rfl, _, _, rfl, rfl, hn0, ?_⟩
          refine ⟨_, rfl, _, _, rfl, rfl, ⟨by decide, by decide⟩, rfl, r, s * s % n, hr1, Nat.mod_lt _ hn1, st.symm.trans hrs, ?_⟩
          dsimp only
          rw [icm, e3]
          rfl
    · rw [decide_eq_false hc]
      refine iteF ⟨_, rfl, ?_⟩
      have z : m = 0 := by omega
      subst z
      rw [Nat.pow_zero, Nat.mul_one, Nat.mod_eq_of_lt hr1] at hrs
      rw [← hrs] at q
      exact q


def spc (b n x s c : Nat) : List Nat := (List.range c).map fun i => rem b n x (s * i)
theorem spc_len (b n x s c : Nat) : (spc b n x s c).length = c := by simp [spc]
def sp_spaced : Sp := fun vs H Q _ => ∃ (b x n s c : Nat) (a : Addr), vs = [.int b, .ref a, .int s, .int c] ∧ H a = some (.tup [.int x, .int n]) ∧ (1 ≤ n ∧ n ≤ 5000 ∧ x < n ∧ c ≤ 5000) ∧
  ∀ t ob H', Gr [] H H' → ob.dict = none → H' t = some (.frz ob (.tup (vn (spc b n x s c)))) → Q (.ref t) H'
theorem ok_spaced (T : Txt K mg) : FnOk P w K mg base CX0 2 T.d_spaced.f T.d_spaced.fd ["base", "fraction", "size", "count"] sp_spaced := by
  refine T.d_spaced.F.ok sc_spaced (fun vs H Q E h => ?_) (fun cdv A outer s H vs Q E hr h => ?_)
  · obtain ⟨b, x, n, s, c, a, rfl, _⟩ := h; rfl
  · have hu := hu_of hr
    refine ⟨_, (pss_cons (ps_asg (pv 1) (pg_tup (by rfl) (pgs_cons (pg_name (i := 4) sc_spaced.nd rfl (by first | exact .inl rfl | exact .inr rfl)) (pgs_cons (pg_name (i := 5) sc_spaced.nd rfl (by first | exact .inl rfl | exact .inr rfl)) pgs_nil))))
      (pss_cons (ps_set (i := 6) sc_spaced.nd rfl (by first | exact .inl rfl | exact .inr rfl) (pe_call (ok_power_rest T) (hr.mono (by decide)) (by rfl) T.d_power_rest.m T.d_power_rest.F.kp T.d_power_rest.b .nil pass0 (pa_cons (pv 0) (pa_cons (pv 2) (pa_cons (pv 5) pa_nil)))))
      (pss_cons (ps_set (i := 7) sc_spaced.nd rfl (by first | exact .inl rfl | exact .inr rfl) (pe_lst pa_nil))
      (pss_cons (ps_set (i := 8) sc_spaced.nd rfl (by first | exact .inl rfl | exact .inr rfl) (pv 4))
      (pss_cons (ps_for PassesOwn.never rfl (pi_range1 (by rfl) T.b_range (pa_cons (pv 3) pa_nil)) (pg_name (i := 9) sc_spaced.nd rfl (by first | exact .inl rfl | exact .inr rfl)) (pss_cons (ps_expr (pe_bm PySem.F.plainAttrs_list PySem.F.slot_list_append PySem.F.type_list_append mt_append (pv 7) (pa_cons (pv 8) pa_nil)))
      (pss_one (ps_set (i := 8) sc_spaced.nd rfl (by first | exact .inl rfl | exact .inr rfl) (pe_op op_mod (pe_op op_mul (pv 8) (pv 6)) (pv 5))))))
      (pss_one (ps_ret (pe_callTy (r := rTpF K) call_tpF (by rfl) T.b_tuple (by decide +kernel) (pa_cons (pv 7) pa_nil))))))))), ?_⟩
    obtain ⟨b, x, n, s, c, a, rfl, ha, ⟨hn1, hn2, hx, hc⟩, q⟩ := h
    refine ⟨_, rfl, a, _, rfl, sq_tup ha, rfl, _, _, rfl, _, _, rfl, rfl, ?_⟩
    refine ⟨_, rfl, _, rfl, _, rfl, b, s, n, rfl, ⟨hn1, hn2⟩, ?_⟩
    refine ⟨Nat.zero_le _, fun l nl => ?_⟩
    refine ⟨_, rfl, ?_⟩
    refine ⟨_, rfl, (c : Int), rfl, by omega, by omega, ?_⟩
    have hl : b ^ s % n < n := Nat.mod_lt _ hn1
    refine for_range (lo := 0) (n := (c : Int).toNat) (fun i σ H' => Gr [] H H' ∧ H' l = some (.lst (vn (spc b n x s i))) ∧ ∃ v, σ = [some (.int b), some (.ref a), some (.int s), some (.int c), some (.int x), some (.int n), some (.int (b ^ s % n : Nat)), some (.ref l), some (.int (rem b n x (s * i) : Nat)), v]) ⟨Gr.new nl, upd_same, none, ?_⟩ ?_ ?_
    · rw [Nat.mul_zero, rem_zero hx]
      rfl
    · rintro i σ H' hi ⟨G, hL, v, rfl⟩
      have hr1 := rem_lt (b := b) (n := n) (x := x) (i := s * i) hn1
      refine ⟨_, rfl, .inl ⟨rfl, _, sq_lst hL⟩, _, rfl, l, _, _, rfl, rfl, hL, by rw [vn_len, spc_len]; exact small5 (by omega), ?_⟩
      refine ⟨_, rfl, _, rfl, _, _, rfl, rfl, .inl ⟨by omega, by omega⟩, _, rfl, _, n, rfl, rfl, (show (0 : Int) < (n : Int) by omega), ?_⟩
      dsimp only
      rw [icm, show rem b n x (s * i) * (b ^ s % n) % n = rem b n x (s * (i + 1)) by unfold rem; rw [Nat.mul_mod_mod, Nat.mod_mul_mod, Nat.mul_assoc, ← Nat.pow_add, Nat.mul_succ]]
      refine ⟨fun u o _ e => ?_, ?_, _, rfl⟩
      · rw [upd_ne (ne_of_none e nl)]
        exact G u o (by simp) e
      · rw [upd_same, vn_snoc]
        unfold spc
        rw [List.range_succ, List.map_append]
        rfl
    rintro σ H2 ⟨G, hL, v, rfl⟩
    rw [Int.toNat_natCast] at hL
    refine ⟨_, rfl, l, _, rfl, sq_lst hL, fun t ob hob nt => ?_⟩
    exact q t ob _ (G.trans (Gr.new nt)) hob upd_same

def di (xs : List Nat) : PyData := .tuple ((ni xs).map PyData.int)
theorem sm_ni {xs : List Nat} {m : Nat} (h : ∀ k ∈ xs, k < 8192) (hm : xs.length ≤ m) : Sm (di xs) 13 1 (m * 14) := by
  refine Sm.tup (W := 13) m (fun d hd => ?_) (by unfold ni; rw [List.length_map, List.length_map]; exact hm)
  obtain ⟨z, hz, rfl⟩ := List.mem_map.mp hd
  obtain ⟨k, hk, rfl⟩ := List.mem_map.mp hz
  exact Sm.int (by decide) (by rw [Int.natAbs_natCast]; exact h k hk) (by decide)
theorem sml_ni {xs : List Nat} {m : Nat} (h : ∀ k ∈ xs, k < 8192) (hm : xs.length ≤ m) : Sm (.list ((ni xs).map PyData.int)) 13 1 (m * 14) := by
  refine Sm.lst (W := 13) m (fun d hd => ?_) (by unfold ni; rw [List.length_map, List.length_map]; exact hm)
  obtain ⟨z, hz, rfl⟩ := List.mem_map.mp hd
  obtain ⟨k, hk, rfl⟩ := List.mem_map.mp hz
  exact Sm.int (by decide) (by rw [Int.natAbs_natCast]; exact h k hk) (by decide)
theorem dp_vnT {K : PySem.W.Frag} {H : Hp} {t : Addr} {xs : List Nat} (h : H t = some (.tup (vn xs))) : Dp K H (.ref t) (di xs) := by
  rw [vn_ni] at h
  exact dp_tup h (dpAll_ints _)
theorem dp_vnL {K : PySem.W.Frag} {H : Hp} {t : Addr} {xs : List Nat} (h : H t = some (.lst (vn xs))) : Dp K H (.ref t) (.list ((ni xs).map PyData.int)) := by
  rw [vn_ni] at h
  exact dp_lst h (dpAll_ints _)

/-! exponents of weights -/
theorem parF_ex (b n : Nat) (hn : 1 ≤ n) : ∃ hL : Nat × Nat, ∃ p q, Par b n p q hL.1 hL.2 := by
  obtain ⟨p, q, h, L, P⟩ := par_exists (b := b) hn
  exact ⟨(h, L), p, q, P⟩
noncomputable def hLF (b n : Nat) : Nat × Nat := Classical.epsilon fun hL : Nat × Nat => ∃ p q, Par b n p q hL.1 hL.2
theorem hLF_is (b n : Nat) (hn : 1 ≤ n) : ∃ p q, Par b n p q (hLF b n).1 (hLF b n).2 := Classical.epsilon_spec (p := fun hL : Nat × Nat => ∃ p q, Par b n p q hL.1 hL.2) (parF_ex b n hn)
theorem hLF_eq {b n p q h L : Nat} (hn : 1 ≤ n) (P : Par b n p q h L) : hLF b n = (h, L) := by
  obtain ⟨p', q', P'⟩ := hLF_is b n hn
  have ep : p' = p := P'.hp.uniq P.hp
  subst ep
  have eq : q' = q := Nat.eq_of_mul_eq_mul_left (P.p1 hn) (P'.e.symm.trans P.e)
  subst eq
  exact Prod.ext (P'.hh.uniq P.hh) (P'.hL.uniq P.hL)
def rows (b n c : Nat) : List Nat := (List.range c).map fun i => b ^ (i + 1) % n
theorem rows_len (b n c : Nat) : (rows b n c).length = c := by simp [rows]
theorem rows_lt {b n c k : Nat} (hn : 1 ≤ n) (h : k ∈ rows b n c) : k < n := by
  obtain ⟨i, _, rfl⟩ := List.mem_map.mp h
  exact Nat.mod_lt _ hn
noncomputable def rowE (b n : Nat) : List Nat := rows b n ((hLF b n).1 + (hLF b n).2)
theorem hL_le {b n p q h L : Nat} (hn : 1 ≤ n) (P : Par b n p q h L) : h + L ≤ n := by
  have F := fun {u v : Nat} (l : u < v) => rem_eq (x := 1) (Nat.gcd_one_left n) P.e P.hp.1 (P.gq hn) P.hh P.hL l
  have := nodup_le n ((List.range (h + L)).map fun u => rem b n 1 u) (by
    rw [List.nodup_iff_pairwise_ne, List.pairwise_map, List.pairwise_iff_getElem]
    intro u v hu hv huv
    rw [List.getElem_range, List.getElem_range]
    rw [List.length_range] at hv
    intro z
    obtain ⟨h1, h2⟩ := (F huv).mp z
    have := Nat.le_of_dvd (by omega) h2
    omega) (fun y hy => by
    obtain ⟨u, _, rfl⟩ := List.mem_map.mp hy
    exact rem_lt hn)
  rwa [List.length_map, List.length_range] at this
theorem rowE_len {b n : Nat} (hn : 1 ≤ n) : 1 ≤ (rowE b n).length ∧ (rowE b n).length ≤ n := by
  obtain ⟨p, q, P⟩ := hLF_is b n hn
  have h1 := hL_le hn P
  have h3 := P.hL.1
  unfold rowE
  rw [rows_len]
  omega
theorem rows_rl (b n c : Nat) : rows b n (c + 1) = (rl b n 1 (c + 1)).drop 1 ++ [rem b n 1 c * b % n] := by
  have e : rl b n 1 (c + 1) = [1 % n] ++ rows b n c := by
    unfold rl rows
    rw [List.range_succ_eq_map, List.map_cons, List.map_map]
    unfold rem
    rw [Nat.pow_zero, Nat.mul_one]
    refine congrArg (_ :: ·) (List.map_congr_left fun i _ => ?_)
    show 1 * b ^ (i + 1) % n = _
    rw [Nat.one_mul]
  rw [e, rem_succ]
  show rows b n (c + 1) = rows b n c ++ [rem b n 1 (c + 1)]
  unfold rows rem
  rw [List.range_succ, List.map_append, Nat.one_mul]
  rfl
/-- the remainder of a weight -/
def wt (w : Int) (n : Nat) : Nat := (w % (n : Int)).toNat
theorem wt_eq {w : Int} {n : Nat} (hn : 1 ≤ n) : w % (n : Int) = ((wt w n : Nat) : Int) := by
  unfold wt
  have := Int.emod_nonneg w (show (n : Int) ≠ 0 by omega)
  omega
noncomputable def fstE (b n : Nat) (w : Int) : Option Nat := if wt w n ∈ rowE b n then some ((rowE b n).idxOf (wt w n) + 1) else none
def BNW (b n : Nat) (w : Int) : Prop := BN b n ∧ -1000 ≤ w ∧ w ≤ 1000
def optD : Option Nat → PyData
  | none => .none
  | some k => .int (k : Nat)
def optV : Option Nat → V
  | none => .non
  | some k => .int (k : Nat)
noncomputable def expD (b n : Nat) (w : Int) : PyData := match fstE b n w with
  | none => .none
  | some k => .tuple [.int (k : Nat), .int (if (hLF b n).1 ≤ k then (hLF b n).2 else 0 : Nat)]
noncomputable def papD (b n : Nat) (w : Int) : PyData := match fstE b n w with
  | none => .tuple [.str "never", di (rowE b n)]
  | some k => .tuple [.str "exponent", .int (k : Nat)]
theorem fstE_le {b n k : Nat} {w : Int} (hn : 1 ≤ n) (h : fstE b n w = some k) : 1 ≤ k ∧ k ≤ n := by
  unfold fstE at h
  split at h
  · rename_i hm
    cases h
    have := List.idxOf_lt_length_iff.mpr hm
    have := (rowE_len (b := b) hn).2
    omega
  · cases h
theorem sqF {K : PySem.W.Frag} {H : Hp} {t : Addr} {ob : Obj} {xs : List V} (h : H t = some (.frz ob (.tup xs))) : SqT K H t xs := .inl (.inr ⟨ob, h⟩)
theorem dp_vnF {K : PySem.W.Frag} {H : Hp} {t : Addr} {ob : Obj} {xs : List Nat} (h : H t = some (.frz ob (.tup (vn xs)))) : Dp K H (.ref t) (di xs) := by
  rw [vn_ni] at h
  exact .tup (sqF h) (dpAll_ints _)
def sp_need_weight : Sp := fun vs H Q _ => ∃ s : Int, vs = [.int s] ∧ (-1000 ≤ s ∧ s ≤ 1000) ∧ Q .non H
def sp_leaves : Sp := fun vs H Q _ => ∃ (b n s : Nat) (w : Int), vs = [.int b, .int n, .int s, .int w] ∧ BN b n ∧ Q (.bl (decide (b ^ s % n = wt w n))) H
def sp_power_rests : Sp := fun vs H Q _ => ∃ (b n : Nat), vs = [.int b, .int n] ∧ BN b n ∧ ∀ t ob H', Gr [] H H' → ob.dict = none → H' t = some (.frz ob (.tup (vn (rowE b n)))) → Q (.ref t) H'
def sp_least_exponent : Sp := fun vs H Q _ => ∃ (b n : Nat) (w : Int), vs = [.int b, .int n, .int w] ∧ BNW b n w ∧ ∀ H', Gr [] H H' → Q (optV (fstE b n w)) H'
def sp_exponents (K : PySem.W.Frag) : Sp := fun vs H Q _ => ∃ (b n : Nat) (w : Int), vs = [.int b, .int n, .int w] ∧ BNW b n w ∧ ∀ v H', Gr [] H H' → Dp K H' v (expD b n w) → Q v H'
def sp_exponent_paper (K : PySem.W.Frag) : Sp := fun vs H Q _ => ∃ (b n : Nat) (w : Int), vs = [.int b, .int n, .int w] ∧ BNW b n w ∧ ∀ v H', Gr [] H H' → Dp K H' v (papD b n w) → Q v H'
theorem ok_need_weight (T : Txt K mg) : FnOk P w K mg base CX0 3 T.d_need_weight.f T.d_need_weight.fd ["value"] sp_need_weight := by
  refine T.d_need_weight.F.ok sc_need_weight (fun vs H Q E h => ?_) (fun cdv A outer s H vs Q E hr h => ?_)
  · obtain ⟨s, rfl, _⟩ := h; rfl
  · have hu := hu_of hr
    refine ⟨_, (pss_one (ps_if (pt_not (pt_val (pe_call (ok_is_within T) (hr.mono (by decide)) (by rfl) T.d_is_within.m T.d_is_within.F.kp T.d_is_within.b .nil pass0 (pa_cons (pv 0) (pa_cons (pe_un un_neg (pe_glob (v := .int 1000) (by rfl) T.c_MOST_WEIGHT ⟨_, rfl⟩)) (pa_cons (pe_glob (v := .int 1000) (by rfl) T.c_MOST_WEIGHT ⟨_, rfl⟩) pa_nil)))))) (pss_one ps_never) pss_nil)), ?_⟩
    obtain ⟨s, rfl, ⟨h1, h2⟩, q⟩ := h
    refine ⟨_, rfl, _, rfl, s, -1000, 1000, rfl, ⟨h1, h2⟩, true, rfl, iteF ?_⟩
    exact q
theorem ok_leaves_weight (T : Txt K mg) : FnOk P w K mg base CX0 2 T.d_leaves_weight.f T.d_leaves_weight.fd ["base", "denominator", "exponent", "weight"] sp_leaves := by
  refine T.d_leaves_weight.F.ok sc_leaves_weight (fun vs H Q E h => ?_) (fun cdv A outer s H vs Q E hr h => ?_)
  · obtain ⟨b, n, s, w, rfl, _⟩ := h; rfl
  · have hu := hu_of hr
    refine ⟨_, (pss_one (ps_ret (pe_cmpR op_eq (pe_call (ok_power_rest T) (hr.mono (by decide)) (by rfl) T.d_power_rest.m T.d_power_rest.F.kp T.d_power_rest.b .nil pass0 (pa_cons (pv 0) (pa_cons (pv 2) (pa_cons (pv 1) pa_nil)))) (pe_op op_mod (pv 3) (pv 1)) (nomark _)))), ?_⟩
    obtain ⟨b, n, s, w, rfl, ⟨hb1, hb2, hn1, hn2⟩, q⟩ := h
    refine ⟨_, rfl, _, rfl, _, rfl, b, s, n, rfl, ⟨hn1, hn2⟩, ?_⟩
    refine ⟨_, rfl, _, rfl, _, _, rfl, rfl, (show (0 : Int) < (n : Int) by omega), rfl, ?_⟩
    refine cast (congrArg (fun z => Q (V.bl z) H) ?_) q
    by_cases h : b ^ s % n = wt w n
    · rw [decide_eq_true h]
      exact (decide_eq_true (congrArg V.int (by rw [wt_eq hn1, h]))).symm
    · rw [decide_eq_false h]
      exact (decide_eq_false fun z => h (by have := V.int.inj z; rw [wt_eq hn1] at this; omega)).symm
theorem ok_power_rests (T : Txt K mg) : FnOk P w K mg base CX0 6 T.d_power_rests.f T.d_power_rests.fd ["base", "denominator"] sp_power_rests := by
  refine T.d_power_rests.F.ok sc_power_rests (fun vs H Q E h => ?_) (fun cdv A outer s H vs Q E hr h => ?_)
  · obtain ⟨b, n, rfl, _⟩ := h; rfl
  · have hu := hu_of hr
    refine ⟨_, (pss_cons (ps_set (i := 2) sc_power_rests.nd rfl (by first | exact .inl rfl | exact .inr rfl) (pe_op op_add (pe_call (ok_head_size T) (hr.mono (by decide)) (by rfl) T.d_head_size.m T.d_head_size.F.kp T.d_head_size.b .nil pass0 (pa_cons (pv 0) (pa_cons (pv 1) pa_nil))) (pe_call (ok_period T) (hr.mono (by decide)) (by rfl) T.d_period.m T.d_period.F.kp T.d_period.b .nil pass0 (pa_cons (pv 0) (pa_cons (pv 1) pa_nil)))))
      (pss_one (ps_ret (pe_call (ok_spaced T) (hr.mono (by decide)) (by rfl) T.d_spaced.m T.d_spaced.F.kp T.d_spaced.b .nil pass0 (pa_cons (pv 0) (pa_cons (pe_tup (pa_cons (pe_op op_mod (pv 0) (pv 1)) (pa_cons (pv 1) pa_nil))) (pa_cons pe_int (pa_cons (pv 2) pa_nil)))))))), ?_⟩
    obtain ⟨b, n, rfl, hbn, q⟩ := h
    obtain ⟨hb1, hb2, hn1, hn2⟩ := id hbn
    obtain ⟨p, r, P⟩ := hLF_is b n hn1
    have hLn := hL_le hn1 P
    refine ⟨_, rfl, _, rfl, b, n, rfl, hbn, fun p' r' h hp' e' hh => ?_⟩
    have ep : p' = p := hp'.uniq P.hp
    subst ep
    have er : r' = r := Nat.eq_of_mul_eq_mul_left (P.p1 hn1) (e'.symm.trans P.e)
    subst er
    rw [hh.uniq P.hh]
    refine ⟨_, rfl, _, rfl, b, n, rfl, hbn, fun p2 L hp2 hL => ?_⟩
    have ep : p2 = p' := hp2.uniq P.hp
    subst ep
    rw [hL.uniq P.hL]
    refine ⟨_, _, rfl, rfl, ?_⟩
    have hm : b % n < n := Nat.mod_lt _ hn1
    refine ⟨_, rfl, _, rfl, _, rfl, _, _, rfl, rfl, (show (0 : Int) < (n : Int) by omega), _, rfl, by show 2 ≤ sizeLine; decide, fun a na => ?_⟩
    dsimp only
    rw [← Int.natCast_emod]
    have g1 : Gr [] H (upd H a (.tup [.int (b % n : Nat), .int (n : Nat)])) := Gr.new na
    have h1 : (upd H a (.tup [.int (b % n : Nat), .int (n : Nat)])) a = some (.tup [.int (b % n : Nat), .int (n : Nat)]) := upd_same
    generalize upd H a (.tup [.int (b % n : Nat), .int (n : Nat)]) = H1 at g1 h1 ⊢
    refine ⟨_, rfl, b, b % n, n, 1, (hLF b n).1 + (hLF b n).2, a, by rw [Int.natCast_add]; rfl, h1, ⟨hn1, hn2, hm, by omega⟩, fun t ob H2 g2 hob ht => ?_⟩
    refine q t ob H2 (g1.trans g2) hob ?_
    rw [ht]
    have e : spc b n (b % n) 1 ((hLF b n).1 + (hLF b n).2) = rowE b n := by
      unfold spc rowE rows
      refine List.map_congr_left fun i _ => ?_
      unfold rem
      rw [Nat.one_mul, Nat.mod_mul_mod, Nat.pow_succ, Nat.mul_comm]
    rw [e]
theorem ok_least_exponent (T : Txt K mg) : FnOk P w K mg base CX0 7 T.d_least_exponent.f T.d_least_exponent.fd ["base", "denominator", "weight"] sp_least_exponent := by
  refine T.d_least_exponent.F.ok sc_least_exponent (fun vs H Q E h => ?_) (fun cdv A outer s H vs Q E hr h => ?_)
  · obtain ⟨b, n, w, rfl, _⟩ := h; rfl
  · have hu := hu_of hr
    refine ⟨_, (pss_cons (ps_expr (pe_call (ok_need_base T) (hr.mono (by decide)) (by rfl) T.d_need_base.m T.d_need_base.F.kp T.d_need_base.b .nil pass0 (pa_cons (pv 0) pa_nil)))
      (pss_cons (ps_expr (pe_call (ok_need_denominator T) (hr.mono (by decide)) (by rfl) T.d_need_denominator.m T.d_need_denominator.F.kp T.d_need_denominator.b .nil pass0 (pa_cons (pv 1) pa_nil)))
      (pss_cons (ps_expr (pe_call (ok_need_weight T) (hr.mono (by decide)) (by rfl) T.d_need_weight.m T.d_need_weight.F.kp T.d_need_weight.b .nil pass0 (pa_cons (pv 2) pa_nil)))
      (pss_cons (ps_set (i := 3) sc_least_exponent.nd rfl (by first | exact .inl rfl | exact .inr rfl) (pe_call (ok_power_rests T) (hr.mono (by decide)) (by rfl) T.d_power_rests.m T.d_power_rests.F.kp T.d_power_rests.b .nil pass0 (pa_cons (pv 0) (pa_cons (pv 1) pa_nil))))
      (pss_cons (ps_set (i := 4) sc_least_exponent.nd rfl (by first | exact .inl rfl | exact .inr rfl) (pe_op op_mod (pv 2) (pv 1)))
      (pss_cons (ps_if (pt_cmpR (r := rIn K true) op_notIn_seq (pv 4) (pv 3) rfl) (pss_one (ps_ret pe_non)) pss_nil)
      (pss_one (ps_ret (pe_op op_add (pe_bmT (r := rIdxT K) PySem.F.plainAttrs_tuple PySem.F.slot_tuple_index PySem.F.type_tuple_index mt_tup_indexN (pv 3) (pa_cons (pv 4) pa_nil)) pe_int))))))))), ?_⟩
    obtain ⟨b, n, w, rfl, ⟨hbn, hw⟩, q⟩ := h
    obtain ⟨hb1, hb2, hn1, hn2⟩ := id hbn
    refine ⟨_, rfl, b, rfl, ⟨by omega, by omega⟩, ?_⟩
    refine ⟨_, rfl, n, rfl, ⟨by omega, by omega⟩, ?_⟩
    refine ⟨_, rfl, w, rfl, hw, ?_⟩
    refine ⟨_, rfl, _, rfl, b, n, rfl, hbn, fun t ob H1 g1 hob ht => ?_⟩
    refine ⟨_, rfl, _, rfl, _, _, rfl, rfl, (show (0 : Int) < (n : Int) by omega), ?_⟩
    dsimp only
    rw [wt_eq hn1]
    refine ⟨_, rfl, _, rfl, t, _, rfl, .inr (sqF ht), rfl, flat_vn _, _, rfl, ?_⟩
    by_cases hm : wt w n ∈ rowE b n
    · have e : fstE b n w = some ((rowE b n).idxOf (wt w n) + 1) := if_pos hm
      rw [e] at q
      refine iteFb (by show (!inV _ _) = false; rw [inV_ni, decide_eq_true hm]; rfl) ?_
      have hi := List.idxOf_lt_length_iff.mpr hm
      refine ⟨_, rfl, ⟨t, ob, _, rfl, ht, hob⟩, _, rfl, t, rowE b n, wt w n, (rowE b n).idxOf (wt w n), rfl, rfl, sqF ht, ?_, ?_, _, _, rfl, rfl, ?_⟩
      · rw [List.getElem?_eq_getElem hi, List.getElem_idxOf hi]
      · intro m hmj z
        obtain ⟨hm2, e2⟩ := List.getElem?_eq_some_iff.mp z
        exact PySem.SeqAt.lt_idxOf_ne hmj hm2 e2
      · exact cast (congrArg (fun z => Q (V.int z) H1) (Int.natCast_add _ _)) (q H1 g1)
    · have e : fstE b n w = none := if_neg hm
      rw [e] at q
      refine iteTb (by show (!inV _ _) = true; rw [inV_ni, decide_eq_false hm]; rfl) ?_
      exact q H1 g1
theorem ok_exponents (T : Txt K mg) : FnOk P w K mg base CX0 8 T.d_exponents.f T.d_exponents.fd ["base", "denominator", "weight"] (sp_exponents K) := by
  refine T.d_exponents.F.ok sc_exponents (fun vs H Q E h => ?_) (fun cdv A outer s H vs Q E hr h => ?_)
  · obtain ⟨b, n, w, rfl, _⟩ := h; rfl
  · have hu := hu_of hr
    refine ⟨_, (pss_cons (ps_set (i := 3) sc_exponents.nd rfl (by first | exact .inl rfl | exact .inr rfl) (pe_call (ok_least_exponent T) (hr.mono (by decide)) (by rfl) T.d_least_exponent.m T.d_least_exponent.F.kp T.d_least_exponent.b .nil pass0 (pa_cons (pv 0) (pa_cons (pv 1) (pa_cons (pv 2) pa_nil)))))
      (pss_cons (ps_if (pt_cmpR op_isN (pv 3) pe_non (nomark _)) (pss_one (ps_ret pe_non)) pss_nil)
      (pss_cons (ps_if (pt_cmpR op_lt (pv 3) (pe_call (ok_head_size T) (hr.mono (by decide)) (by rfl) T.d_head_size.m T.d_head_size.F.kp T.d_head_size.b .nil pass0 (pa_cons (pv 0) (pa_cons (pv 1) pa_nil))) (nomark _)) (pss_one (ps_ret (pe_tup (pa_cons (pv 3) (pa_cons pe_int pa_nil))))) pss_nil)
      (pss_one (ps_ret (pe_tup (pa_cons (pv 3) (pa_cons (pe_call (ok_period T) (hr.mono (by decide)) (by rfl) T.d_period.m T.d_period.F.kp T.d_period.b .nil pass0 (pa_cons (pv 0) (pa_cons (pv 1) pa_nil))) pa_nil)))))))), ?_⟩
    obtain ⟨b, n, w, rfl, hW, q⟩ := h
    obtain ⟨⟨hb1, hb2, hn1, hn2⟩, hw⟩ := id hW
    refine ⟨_, rfl, _, rfl, _, rfl, b, n, w, rfl, hW, fun H1 g1 => ?_⟩
    unfold expD at q
    cases hf : fstE b n w with
    | none =>
      rw [hf] at q
      refine ⟨_, rfl, rfl, _, rfl, iteTb rfl ?_⟩
      exact q _ H1 g1 .non
    | some k =>
      rw [hf] at q
      dsimp only at q
      obtain ⟨p, r, P⟩ := hLF_is b n hn1
      refine ⟨_, rfl, rfl, _, rfl, iteFb (decide_eq_false (by intro z; cases z)) ?_⟩
      refine ⟨_, rfl, _, rfl, _, rfl, b, n, rfl, hW.1, fun p' r' h hp' e' hh => ?_⟩
      have ep : p' = p := hp'.uniq P.hp
      subst ep
      have er : r' = r := Nat.eq_of_mul_eq_mul_left (P.p1 hn1) (e'.symm.trans P.e)
      subst er
      rw [hh.uniq P.hh]
      refine ⟨_, _, rfl, rfl, _, rfl, ?_⟩
      by_cases hc : k < (hLF b n).1
      · rw [if_neg (by omega)] at q
        refine iteTb (decide_eq_true (show ((k : Nat) : Int) < (((hLF b n).1 : Nat) : Int) by omega)) ?_
        refine ⟨_, rfl, by show 2 ≤ sizeLine; decide, fun t nt => ?_⟩
        exact q _ _ (g1.trans (Gr.new nt)) (dp_tup upd_same (.cons (.int _) (.cons (.int _) .nil)))
      · rw [if_pos (by omega)] at q
        refine iteFb (decide_eq_false (show ¬ ((k : Nat) : Int) < (((hLF b n).1 : Nat) : Int) by omega)) ?_
        refine ⟨_, rfl, _, rfl, _, rfl, b, n, rfl, hW.1, fun p2 L hp2 hL => ?_⟩
        have ep : p2 = p' := hp2.uniq P.hp
        subst ep
        rw [hL.uniq P.hL]
        refine ⟨by show 2 ≤ sizeLine; decide, fun t nt => ?_⟩
        exact q _ _ (g1.trans (Gr.new nt)) (dp_tup upd_same (.cons (.int _) (.cons (.int _) .nil)))
theorem ok_exponent_paper (T : Txt K mg) : FnOk P w K mg base CX0 8 T.d_exponent_paper.f T.d_exponent_paper.fd ["base", "denominator", "weight"] (sp_exponent_paper K) := by
  refine T.d_exponent_paper.F.ok sc_exponent_paper (fun vs H Q E h => ?_) (fun cdv A outer s H vs Q E hr h => ?_)
  · obtain ⟨b, n, w, rfl, _⟩ := h; rfl
  · have hu := hu_of hr
    refine ⟨_, (pss_cons (ps_set (i := 3) sc_exponent_paper.nd rfl (by first | exact .inl rfl | exact .inr rfl) (pe_call (ok_least_exponent T) (hr.mono (by decide)) (by rfl) T.d_least_exponent.m T.d_least_exponent.F.kp T.d_least_exponent.b .nil pass0 (pa_cons (pv 0) (pa_cons (pv 1) (pa_cons (pv 2) pa_nil)))))
      (pss_cons (ps_if (pt_cmpR op_isN (pv 3) pe_non (nomark _)) (pss_one (ps_ret (pe_tup (pa_cons pe_str (pa_cons (pe_call (ok_power_rests T) (hr.mono (by decide)) (by rfl) T.d_power_rests.m T.d_power_rests.F.kp T.d_power_rests.b .nil pass0 (pa_cons (pv 0) (pa_cons (pv 1) pa_nil))) pa_nil))))) pss_nil)
      (pss_one (ps_ret (pe_tup (pa_cons pe_str (pa_cons (pv 3) pa_nil))))))), ?_⟩
    obtain ⟨b, n, w, rfl, hW, q⟩ := h
    obtain ⟨⟨hb1, hb2, hn1, hn2⟩, hw⟩ := id hW
    refine ⟨_, rfl, _, rfl, _, rfl, b, n, w, rfl, hW, fun H1 g1 => ?_⟩
    unfold papD at q
    cases hf : fstE b n w with
    | none =>
      rw [hf] at q
      refine ⟨_, rfl, rfl, _, rfl, iteTb rfl ?_⟩
      refine ⟨_, rfl, _, rfl, b, n, rfl, hW.1, fun t ob H2 g2 hob ht => ?_⟩
      refine ⟨by show 2 ≤ sizeLine; decide, fun t2 nt => ?_⟩
      have g3 : Gr [] H2 (upd H2 t2 (.tup [.str "never", .ref t])) := Gr.new nt
      exact q _ _ ((g1.trans g2).trans g3) (dp_tup upd_same (.cons (.str _) (.cons (dp_vnF (g3 t _ (by simp) ht)) .nil)))
    | some k =>
      rw [hf] at q
      dsimp only at q
      refine ⟨_, rfl, rfl, _, rfl, iteFb (decide_eq_false (by intro z; cases z)) ?_⟩
      refine ⟨_, rfl, by show 2 ≤ sizeLine; decide, fun t nt => ?_⟩
      exact q _ _ (g1.trans (Gr.new nt)) (dp_tup upd_same (.cons (.str _) (.cons (.int _) .nil)))

theorem allI : ∀ {ds : List PyData}, ds.all isI = true → ∃ zs : List Int, ds = zs.map PyData.int
  | [], _ => ⟨[], rfl⟩
  | .int i :: r, h => by
    rw [List.all_cons, Bool.and_eq_true] at h
    obtain ⟨zs, e⟩ := allI h.2
    exact ⟨i :: zs, by rw [e]; rfl⟩
theorem dpAll_int {K : PySem.W.Frag} {H : Hp} : ∀ {vs : List V} {zs : List Int}, DpAll K H vs (zs.map PyData.int) → vs = zs.map V.int
  | _, [], .nil => rfl
  | _, z :: zs, .cons a b => by
    rw [dp_int a, dpAll_int b]
    rfl
theorem eqv_ints : ∀ (zs ys : List Int), PyData.eqv (.tuple (zs.map PyData.int)) (.tuple (ys.map PyData.int)) = decide (zs = ys)
  | [], [] => rfl
  | [], y :: ys => rfl
  | z :: zs, [] => rfl
  | z :: zs, y :: ys => by
    have ih := eqv_ints zs ys
    have e : PyData.eqv (.tuple ((z :: zs).map PyData.int)) (.tuple ((y :: ys).map PyData.int)) = ((z == y) && PyData.eqv (.tuple (zs.map PyData.int)) (.tuple (ys.map PyData.int))) := rfl
    rw [e, ih]
    by_cases h : z = y
    · subst h
      rw [beq_self_eq_true, Bool.true_and]
      by_cases h2 : zs = ys
      · rw [h2, decide_eq_true rfl, decide_eq_true rfl]
      · rw [decide_eq_false h2, decide_eq_false fun q => h2 (by injection q)]
    · rw [beq_eq_false_iff_ne.mpr h, Bool.false_and, decide_eq_false fun q => h (by injection q)]
/-- is it the tuple of these numbers -/
def isRow (row : List Nat) : PyData → Bool
  | .tuple ds => ds.all isI && PyData.eqv (.tuple ds) (di row)
  | _ => false
def sp_proves_never (K : PySem.W.Frag) : Sp := fun vs H Q _ => ∃ (b n : Nat) (w : Int) (v : V) (d : PyData), vs = [.int b, .int n, .int w, v] ∧ BN b n ∧ Dp K H v d ∧ SeqAt.shaped d = true ∧ SeqAt.shaped (di (rowE b n)) = true ∧
  (∀ xs ds, d = .tuple ds → xs = ds.length → xs ≤ 6000) ∧ ∀ H', Gr [] H H' → Q (.bl (isRow (rowE b n) d && decide (wt w n ∉ rowE b n))) H'
theorem ok_proves_never (T : Txt K mg) : FnOk P w K mg base CX0 7 T.d_proves_never.f T.d_proves_never.fd ["base", "denominator", "weight", "remainders"] (sp_proves_never K) := by
  refine T.d_proves_never.F.ok sc_proves_never (fun vs H Q E h => ?_) (fun cdv A outer s H vs Q E hr h => ?_)
  · obtain ⟨b, n, w, v, d, rfl, _⟩ := h; rfl
  · have hu := hu_of hr
    refine ⟨_, (pss_cons (ps_if (PW.pt (pw_or (pt_not (pt_val (pe_callB (r := rIs K) call_is (by rfl) T.b_isinstance (by decide +kernel) (pa_cons (pv 3) (pa_cons (pe_bltn (v := .ty "tuple") (by rfl) T.b_tuple (by decide +kernel) rfl) pa_nil))))) (pw_or1 (pt_not (pt_val (pe_callB (r := rAll K) (cr_all rfl) (by rfl) T.b_all (by decide +kernel) (pa_cons (pe_lc (own := [("rest", 4)]) (g := gName 4) (tt := tYes) rfl sc_proves_never.nd (pi_tup (pv 3)) (blkOk_by (own := [("rest", 4)]) (N := ["base", "denominator", "weight", "remainders", "rest"]) (sc := defScope s_proves_never) (by decide +kernel)) (fun _ _ _ _ _ => (pg_name (i := 4) sc_proves_never.nd rfl (by first | exact .inl rfl | exact .inr rfl))) (fun _ _ _ _ _ => pts_nil) (fun _ _ _ _ _ => (pe_call (okA_is_integer T) (hr.mono (by decide)) (by rfl) T.d_is_integer.m T.d_is_integer.F.kp T.d_is_integer.b .nil pass0 (pa_cons (pv 4) pa_nil)))) pa_nil))))))) (pss_one (ps_ret pe_bl)) pss_nil)
      (pss_one (ps_ret (pe_and (pe_cmpR (r := rEqD K) (op_eqD hr.units) (pv 3) (pe_call (ok_power_rests T) (hr.mono (by decide)) (by rfl) T.d_power_rests.m T.d_power_rests.F.kp T.d_power_rests.b .nil pass0 (pa_cons (pv 0) (pa_cons (pv 1) pa_nil))) (nomark _)) (pe_one (pe_cmpR (r := rIn K true) op_notIn_seq (pe_op op_mod (pv 2) (pv 1)) (pv 3) rfl)))))), ?_⟩
    obtain ⟨b, n, w, v, d, rfl, hbn, hd, hs1, hs2, hlen, q⟩ := h
    obtain ⟨hb1, hb2, hn1, hn2⟩ := id hbn
    refine ⟨_, rfl, v, "tuple", rfl, tyD d, ⟨(dp_ty hd).1, (dp_ty hd).2, by decide⟩, _, rfl, ?_⟩
    by_cases ht : ∃ ds, d = .tuple ds
    case neg =>
      have e : isB (tyD d) "tuple" = false ∧ isRow (rowE b n) d = false := by
        cases d with
        | tuple ds => exact absurd ⟨ds, rfl⟩ ht
        | none => exact ⟨rfl, rfl⟩
        | bool b => exact ⟨rfl, rfl⟩
        | int i => exact ⟨rfl, rfl⟩
        | str x => exact ⟨rfl, rfl⟩
        | list x => exact ⟨rfl, rfl⟩
        | dict x => exact ⟨rfl, rfl⟩
      rw [e.2, Bool.false_and] at q
      rw [e.1]
      exact iteT (q H (Gr.refl _ _))
    obtain ⟨ds, rfl⟩ := ht
    refine iteF ?_
    cases hd with
    | @tup a xs _ hx hA =>
    have hl : ds.length ≤ 6000 := hlen _ ds rfl rfl
    have hlx := dpAll_len hA
    refine ⟨_, rfl, a, rfl, ⟨_, hx⟩, fun D nD => ?_⟩
    have getD : ∀ {ds : List PyData} {xs : List V} {H : Hp}, DpAll K H xs ds → ∀ (i : Nat) (y : V), xs[i]? = some y → ∃ d, ds[i]? = some d ∧ Dp K H y d := by
      intro ds
      induction ds with
      | nil =>
        intro xs H h i y hy
        cases h
        simp at hy
      | cons d0 ds ih =>
        intro xs H h i y hy
        cases h with
        | cons h1 h2 =>
          cases i with
          | zero =>
            simp at hy
            subst hy
            exact ⟨d0, rfl, h1⟩
          | succ i =>
            obtain ⟨d2, e1, e2⟩ := ih h2 i y (by simpa using hy)
            exact ⟨d2, by simpa using e1, e2⟩
    refine lc_tup (K := K) (a := a) (xs := xs) (fun i H' => Gr [] H H' ∧ H' D = some (.lst (((ds.take i).map isI).map V.bl))) ⟨Gr.new nD, upd_same⟩ (fun i H' _ z => (Kp.of z.1).sqT hx) ?_ ?_
    · rintro i y H' hy ⟨G, hD⟩
      obtain ⟨d0, e0, h0⟩ := getD hA i y hy
      have hi : i < ds.length := (List.getElem?_eq_some_iff.mp e0).1
      have ed : ds[i] = d0 := (List.getElem?_eq_some_iff.mp e0).2
      refine ⟨rfl, ?_⟩
      dsimp only [tYes]
      refine iteT ?_
      refine ⟨_, rfl, y, d0, rfl, Dp.kp (Kp.of G) h0, ?_⟩
      refine ⟨_, hD, Nat.lt_of_lt_of_le (show _ < 7000 by rw [List.length_map, List.length_map, List.length_take]; omega) (by decide), fun u o _ e => ?_, ?_⟩
      · rw [upd_ne (ne_of_none e nD)]
        exact G u o (by simp) e
      · rw [upd_same, List.take_succ_eq_append_getElem hi, List.map_append, List.map_append, ed]
        rfl
    rintro H1 ⟨g1, hD⟩
    rw [hlx, List.take_of_length_le (Nat.le_refl _)] at hD
    refine ⟨D, ds.map isI, rfl, sq_lst hD, _, rfl, ?_⟩
    have eall : (ds.map isI).all id = ds.all isI := by rw [List.all_map]; rfl
    rw [eall]
    cases hall : ds.all isI with
    | false =>
      have e : isRow (rowE b n) (.tuple ds) = false := by
        show (ds.all isI && _) = false
        rw [hall, Bool.false_and]
      rw [e, Bool.false_and] at q
      exact iteT (q H1 g1)
    | true =>
      refine iteF ?_
      obtain ⟨zs, rfl⟩ := allI hall
      have ex := dpAll_int hA
      subst ex
      have hx1 := (Kp.of g1).sqT hx
      refine ⟨_, rfl, _, rfl, _, rfl, b, n, rfl, hbn, fun t ob H2 g2 hob ht => ?_⟩
      have hx2 := (Kp.of g2).sqT hx1
      refine ⟨_, _, .tup hx2 (dpAll_ints zs), dp_vnF ht, hs1, hs2, _, rfl, ?_⟩
      have ee : PyData.eqv (.tuple (zs.map PyData.int)) (di (rowE b n)) = decide (zs = ni (rowE b n)) := eqv_ints zs _
      have er : isRow (rowE b n) (.tuple (zs.map PyData.int)) = decide (zs = ni (rowE b n)) := by
        show (_ && _) = _
        rw [hall, Bool.true_and, ee]
      rw [er] at q
      rw [ee]
      by_cases hz : zs = ni (rowE b n)
      · rw [decide_eq_true hz, Bool.true_and] at q
        rw [decide_eq_true hz]
        refine iteT ?_
        subst hz
        refine ⟨_, rfl, _, rfl, _, _, rfl, rfl, (show (0 : Int) < (n : Int) by omega), ?_⟩
        dsimp only
        rw [wt_eq hn1]
        rw [← vn_ni] at hx2
        refine ⟨_, rfl, a, _, rfl, .inr hx2, rfl, flat_vn _, ?_⟩
        refine cast (congrArg (fun z => Q (V.bl z) H2) ?_) (q H2 (g1.trans g2))
        show decide _ = (!inV _ _)
        rw [inV_ni]
        by_cases hm : wt w n ∈ rowE b n
        · rw [decide_eq_true hm, decide_eq_false (fun z => z hm)]
          rfl
        · rw [decide_eq_false hm, decide_eq_true hm]
          rfl
      · rw [decide_eq_false hz, Bool.false_and] at q
        rw [decide_eq_false hz]
        exact iteF (q H2 (g1.trans g2))

end
end Wn
namespace Wn
open PySem PySem.Spec PyProof.Rows L2
local macro_rules | `(tactic| walk_at "vc") => `(tactic| simp only [cxK, cxK2, start1, start2, start3, tRet, tRetN, tSeq, tNext, tIfS, tAsg, gName, tDrop, tVar, tC, tOp, tUn, tTest, tB, tNot, tAnd, tOr, tAndV, tOrV, tNotV, tIf, tCons, tNil, tCB, tCall, tChain, tAug, ipI, rI, rI0, rU, rIs, rGcd, rEq, rNe, scal,
  List.getElem?_cons_zero, List.getElem?_cons_succ, List.set_cons_zero, List.set_cons_succ, Option.some.injEq, List.cons.injEq, V.int.injEq, V.bl.injEq, V.ref.injEq, V.str.injEq, and_true, true_and, exists_eq_left, exists_eq_left', exists_and_left, exists_and_right, List.append_nil, List.nil_append, List.cons_append, exists_eq_right, exists_eq_right', and_assoc, exists_const, V.ty.injEq, ↓reduceIte, Bool.false_eq_true, Bool.not_true, Bool.not_false, decide_eq_true_eq])

section
variable {P : Program} {w : World} {K : PySem.W.Frag} {mg : Str → Option Value} {base : Heap}

def jdE (b n : Nat) (w : Int) : PyData → Bool
  | .int k => (decide (1 ≤ k) && decide (k ≤ 10000)) && decide (b ^ k.toNat % n = wt w n)
  | _ => false
noncomputable def jdg (b n : Nat) (w : Int) : PyData → Bool × Str
  | .tuple [.str s, e] => if s = "exponent" then (jdE b n w e, ("exponent" : Str)) else if s = "never" then (isRow (rowE b n) e && decide (wt w n ∉ rowE b n), ("never" : Str)) else (false, ("form" : Str))
  | _ => (false, ("form" : Str))
theorem jdg_pair (b n : Nat) (w : Int) (s : Str) (e : PyData) : jdg b n w (.tuple [.str s, e]) = if s = "exponent" then (jdE b n w e, ("exponent" : Str)) else if s = "never" then (isRow (rowE b n) e && decide (wt w n ∉ rowE b n), ("never" : Str)) else (false, ("form" : Str)) := rfl
theorem jdg_form {b n : Nat} {w : Int} {d : PyData} (h : ∀ s e, d ≠ .tuple [.str s, e]) : jdg b n w d = (false, ("form" : Str)) := by
  unfold jdg
  split
  · rename_i s e
    exact absurd rfl (h s e)
  · rfl
/-- what may be judged -/
def GoodD (d : PyData) : Prop := ∀ s e, d = .tuple [.str s, e] → SeqAt.shaped e = true ∧ ∀ xs ds, e = .tuple ds → xs = ds.length → xs ≤ 6000
def sp_checkX (T : Txt K mg) : Sp := fun vs H Q E => ∃ (b n : Nat) (w : Int) (v : V) (d : PyData), vs = [.int b, .int n, .int w, v] ∧ BNW b n w ∧ Dp K H v d ∧ GoodD d ∧
  ((jdg b n w d).1 = true → ∀ H', Gr [] H H' → Q (.str (jdg b n w d).2) H') ∧
  ((jdg b n w d).1 = false → ∀ H1 dd, Gr [] H H1 → H1 dd = none → E (.ref T.C_BadPaper) (some dd) (upd H1 dd (.xd [("part", .str (jdg b n w d).2)])))
theorem rowE_shaped {b n : Nat} (hn : 1 ≤ n) (hn2 : n ≤ 5000) : SeqAt.shaped (di (rowE b n)) = true := by
  refine (sm_ni (m := 5000) (fun k hk => ?_) ?_).shaped
  · have := rows_lt hn hk
    omega
  · have := (rowE_len (b := b) hn).2
    omega
theorem okX_check_exponent (T : Txt K mg) : FnOk P w K mg base (L2.CX P w) 8 T.d_check_exponent.f T.d_check_exponent.fd ["base", "denominator", "weight", "paper"] (sp_checkX T) := by
  refine T.d_check_exponent.F.okX sc_check_exponent (fun vs H Q E h => ?_) (fun cdv A outer s H vs Q E hr h => ?_)
  · obtain ⟨b, n, w, v, d, rfl, _⟩ := h; rfl
  · have hu := hu_of hr
    refine ⟨_, (pss_cons (ps_expr (pe_call (ok_need_base T) (hr.mono (by decide)) (by rfl) T.d_need_base.m T.d_need_base.F.kp T.d_need_base.b .nil pass0 (pa_cons (pv 0) pa_nil)))
      (pss_cons (ps_expr (pe_call (ok_need_denominator T) (hr.mono (by decide)) (by rfl) T.d_need_denominator.m T.d_need_denominator.F.kp T.d_need_denominator.b .nil pass0 (pa_cons (pv 1) pa_nil)))
      (pss_cons (ps_expr (pe_call (ok_need_weight T) (hr.mono (by decide)) (by rfl) T.d_need_weight.m T.d_need_weight.F.kp T.d_need_weight.b .nil pass0 (pa_cons (pv 2) pa_nil)))
      (pss_cons (ps_if (PW.pt (pw_or (pt_not (pt_val (pe_callB (r := rIs K) call_is (by rfl) T.b_isinstance (by decide +kernel) (pa_cons (pv 3) (pa_cons (pe_bltn (v := .ty "tuple") (by rfl) T.b_tuple (by decide +kernel) rfl) pa_nil))))) (pw_or (pt_cmpR op_ne (pe_callB (r := rLn K) call_ln (by rfl) T.b_len PySem.boot_len (pa_cons (pv 3) pa_nil)) pe_int (nomark _)) (pw_or1 (pt_not (pt_val (pe_callB (r := rIs K) call_is (by rfl) T.b_isinstance (by decide +kernel) (pa_cons (pe_ix (r := rIxT K) ix_tup (pv 3) pe_int (fun _ _ => rfl)) (pa_cons (pe_bltn (v := .ty "str") (by rfl) T.b_str (by decide +kernel) rfl) pa_nil))))))))) (pss_one (ps_raise rfl (takes_of rfl rfl rfl rfl) (pmkE T.T_BadPaper (ok_init_BadPaper T) (hr.mono (by decide)) T.b_BadPaper pass0 (by rfl) T.g_BadPaper (pa_cons pe_str pa_nil)))) pss_nil)
      (pss_cons (ps_asg (pv 3) (pg_tup (by rfl) (pgs_cons (pg_name (i := 4) sc_check_exponent.nd rfl (by first | exact .inl rfl | exact .inr rfl)) (pgs_cons (pg_name (i := 5) sc_check_exponent.nd rfl (by first | exact .inl rfl | exact .inr rfl)) pgs_nil))))
      (pss_cons (ps_if (pt_cmpR op_eq (pv 4) pe_str (nomark _)) (PSs.nox (pss_one (ps_set (i := 6) sc_check_exponent.nd rfl (by first | exact .inl rfl | exact .inr rfl) (pe_and (pe_call (okA_is_within T) (hr.mono (by decide)) (by rfl) T.d_is_within.m T.d_is_within.F.kp T.d_is_within.b .nil pass0 (pa_cons (pv 5) (pa_cons pe_int (pa_cons (pe_glob (v := .int 10000) (by rfl) T.c_MOST_EXPONENT ⟨_, rfl⟩) pa_nil)))) (pe_one (pe_call (ok_leaves_weight T) (hr.mono (by decide)) (by rfl) T.d_leaves_weight.m T.d_leaves_weight.F.kp T.d_leaves_weight.b .nil pass0 (pa_cons (pv 0) (pa_cons (pv 1) (pa_cons (pv 5) (pa_cons (pv 2) pa_nil)))))))))) (pss_one (ps_if (pt_cmpR op_eq (pv 4) pe_str (nomark _)) (PSs.nox (pss_one (ps_set (i := 6) sc_check_exponent.nd rfl (by first | exact .inl rfl | exact .inr rfl) (pe_call (ok_proves_never T) (hr.mono (by decide)) (by rfl) T.d_proves_never.m T.d_proves_never.F.kp T.d_proves_never.b .nil pass0 (pa_cons (pv 0) (pa_cons (pv 1) (pa_cons (pv 2) (pa_cons (pv 5) pa_nil)))))))) (pss_one (ps_raise rfl (takes_of rfl rfl rfl rfl) (pmkE T.T_BadPaper (ok_init_BadPaper T) (hr.mono (by decide)) T.b_BadPaper pass0 (by rfl) T.g_BadPaper (pa_cons pe_str pa_nil)))))))
      (pss_cons (ps_if (pt_not (pt_val (pv 6))) (pss_one (ps_raise rfl (takes_of rfl rfl rfl rfl) (pmkE T.T_BadPaper (ok_init_BadPaper T) (hr.mono (by decide)) T.b_BadPaper pass0 (by rfl) T.g_BadPaper (pa_cons (pv 4) pa_nil)))) pss_nil)
      (PSs.nox (pss_one (ps_ret (pv 4))))))))))), ?_⟩
    obtain ⟨b, n, w, v, d, rfl, hW, hd, hgood, q, e⟩ := h
    obtain ⟨hbn, hw⟩ := id hW
    obtain ⟨hb1, hb2, hn1, hn2⟩ := id hbn
    refine ⟨_, rfl, b, rfl, ⟨by omega, by omega⟩, ?_⟩
    refine ⟨_, rfl, n, rfl, ⟨by omega, by omega⟩, ?_⟩
    refine ⟨_, rfl, w, rfl, hw, ?_⟩
    refine ⟨_, rfl, v, "tuple", rfl, tyD d, ⟨(dp_ty hd).1, (dp_ty hd).2, by decide⟩, _, rfl, ?_⟩
    have form : ∀ H1, Gr [] H H1 → (∀ s x, d ≠ .tuple [.str s, x]) → ∀ dd, H1 dd = none → E (.ref T.C_BadPaper) (some dd) (upd H1 dd (.xd [("part", .str "form")])) := fun H1 g hne dd nd => by
      have := e (by rw [jdg_form hne]) H1 dd g nd
      rw [jdg_form hne] at this
      exact this
    by_cases ht : ∃ ds, d = .tuple ds
    case neg =>
      have e1 : isB (tyD d) "tuple" = false := by
        cases d with
        | tuple ds => exact absurd ⟨ds, rfl⟩ ht
        | none => rfl
        | bool b => rfl
        | int i => rfl
        | str x => rfl
        | list x => rfl
        | dict x => rfl
      rw [e1]
      refine iteT (iteT ?_)
      exact mk1_go fun dd nd => form H (Gr.refl _ _) (fun s x z => ht ⟨_, z⟩) dd nd
    obtain ⟨ds, rfl⟩ := ht
    refine iteF ?_
    cases hd with
    | @tup a xs _ hx hA =>
    have hlx := dpAll_len hA
    refine ⟨_, rfl, a, xs, rfl, .inr hx, rfl, _, rfl, ?_⟩
    by_cases h2 : xs.length = 2
    case neg =>
      refine iteTb (by rw [Bool.not_eq_true']; exact decide_eq_false fun z => h2 (by have := V.int.inj z; omega)) (iteT ?_)
      exact mk1_go fun dd nd => form H (Gr.refl _ _) (fun s x z => h2 (by
        injection z with z
        rw [hlx, z]
        rfl)) dd nd
    refine iteFb (by rw [h2]; rfl) ?_
    obtain ⟨x0, x1, rfl⟩ : ∃ x0 x1, xs = [x0, x1] := by
      match xs, h2 with
      | [x0, x1], _ => exact ⟨x0, x1, rfl⟩
    cases hA with
    | @cons _ _ d0 ds1 h0 hA1 =>
    cases hA1 with
    | @cons _ _ d1 ds2 h1 hA2 =>
    cases hA2
    refine ⟨_, rfl, a, _, 0, x0, rfl, rfl, hx, atI_nat (j := 0) rfl, x0, "str", rfl, tyD d0, ⟨(dp_ty h0).1, (dp_ty h0).2, by decide⟩, _, rfl, ?_⟩
    by_cases hs : ∃ s, d0 = .str s
    case neg =>
      have e1 : isB (tyD d0) "str" = false := by
        cases d0 with
        | str ds => exact absurd ⟨ds, rfl⟩ hs
        | none => rfl
        | bool b => rfl
        | int i => rfl
        | tuple x => rfl
        | list x => rfl
        | dict x => rfl
      rw [e1]
      refine iteT ?_
      exact mk1_go fun dd nd => form H (Gr.refl _ _) (fun s x z => hs ⟨s, by injection z with z; injection z⟩) dd nd
    obtain ⟨s0, rfl⟩ := hs
    cases h0
    refine iteF ?_
    obtain ⟨hsh, hln⟩ := hgood s0 d1 rfl
    rw [jdg_pair] at q e
    refine ⟨_, rfl, a, _, rfl, hx, rfl, _, _, rfl, _, _, rfl, rfl, ?_⟩
    refine ⟨_, rfl, rfl, _, rfl, ?_⟩
    by_cases hse : s0 = ("exponent" : Str)
    · rw [if_pos hse] at q e
      dsimp only at q e
      subst hse
      refine iteTb (decide_eq_true rfl) ?_
      refine ⟨_, rfl, x1, d1, 1, 10000, rfl, h1, _, rfl, ?_⟩
      cases hw1 : isW 1 10000 d1 with
      | false =>
        have ej : jdE b n w d1 = false := by
          cases d1 with
          | int k =>
            show ((decide (1 ≤ k) && decide (k ≤ 10000)) && _) = false
            rw [show (decide (1 ≤ k) && decide (k ≤ 10000)) = false from hw1, Bool.false_and]
          | none => rfl
          | bool b => rfl
          | str x => rfl
          | tuple x => rfl
          | list x => rfl
          | dict x => rfl
        refine iteF ?_
        refine ⟨_, rfl, false, rfl, iteT ⟨_, rfl, mk1_go fun dd nd => ?_⟩⟩
        exact e ej H dd (Gr.refl _ _) nd
      | true =>
        obtain ⟨k, rfl⟩ : ∃ k, d1 = .int k := by
          cases d1 with
          | int k => exact ⟨k, rfl⟩
          | none => cases hw1
          | bool b => cases hw1
          | str x => cases hw1
          | tuple x => cases hw1
          | list x => cases hw1
          | dict x => cases hw1
        have hk : (decide (1 ≤ k) && decide (k ≤ 10000)) = true := hw1
        rw [Bool.and_eq_true, decide_eq_true_eq, decide_eq_true_eq] at hk
        obtain ⟨kn, rfl⟩ : ∃ kn : Nat, k = (kn : Int) := ⟨k.toNat, by omega⟩
        have ej : jdE b n w (.int (kn : Nat)) = decide (b ^ kn % n = wt w n) := by
          show ((decide (1 ≤ (kn : Int)) && decide ((kn : Int) ≤ 10000)) && decide (b ^ (kn : Int).toNat % n = wt w n)) = _
          rw [show (decide (1 ≤ (kn : Int)) && decide ((kn : Int) ≤ 10000)) = true from hw1, Bool.true_and, Int.toNat_natCast]
        rw [ej] at q e
        obtain rfl := dp_int h1
        refine iteT ⟨_, rfl, _, rfl, _, rfl, _, rfl, b, n, kn, w, rfl, hbn, ?_⟩
        cases hh : decide (b ^ kn % n = wt w n) with
        | true =>
          refine ⟨_, rfl, true, rfl, iteF ⟨_, rfl, ?_⟩⟩
          exact q hh H (Gr.refl _ _)
        | false =>
          refine ⟨_, rfl, false, rfl, iteT ⟨_, rfl, mk1_go fun dd nd => ?_⟩⟩
          exact e hh H dd (Gr.refl _ _) nd
    · rw [if_neg hse] at q e
      refine iteFb (decide_eq_false fun z => hse (by injection z)) ?_
      refine ⟨_, rfl, rfl, _, rfl, ?_⟩
      by_cases hsn : s0 = ("never" : Str)
      · rw [if_pos hsn] at q e
        dsimp only at q e
        subst hsn
        refine iteTb (decide_eq_true rfl) ?_
        refine ⟨_, rfl, _, rfl, _, rfl, _, rfl, b, n, w, x1, d1, rfl, hbn, h1, hsh, rowE_shaped hn1 hn2, hln, fun H1 g1 => ?_⟩
        cases hh : (isRow (rowE b n) d1 && decide (wt w n ∉ rowE b n)) with
        | true =>
          refine ⟨_, rfl, true, rfl, iteF ⟨_, rfl, ?_⟩⟩
          exact q hh H1 g1
        | false =>
          refine ⟨_, rfl, false, rfl, iteT ⟨_, rfl, mk1_go fun dd nd => ?_⟩⟩
          exact e hh H1 dd g1 nd
      · rw [if_neg hsn] at q e
        dsimp only at q e
        refine iteFb (decide_eq_false fun z => hsn (by injection z)) ?_
        exact mk1_go fun dd nd => e rfl H dd (Gr.refl _ _) nd

end
end Wn
namespace Wn
open PySem PySem.Spec PyProof.Rows L2
local macro_rules | `(tactic| walk_at "vc") => `(tactic| simp only [cxK, cxK2, start1, start2, start3, tRet, tRetN, tSeq, tNext, tIfS, tAsg, gName, tDrop, tVar, tC, tOp, tUn, tTest, tB, tNot, tAnd, tOr, tAndV, tOrV, tNotV, tIf, tCons, tNil, tCB, tCall, tChain, tAug, ipI, rI, rI0, rU, rIs, rGcd, rEq, rNe, scal,
  List.getElem?_cons_zero, List.getElem?_cons_succ, List.set_cons_zero, List.set_cons_succ, Option.some.injEq, List.cons.injEq, V.int.injEq, V.bl.injEq, V.ref.injEq, V.str.injEq, and_true, true_and, exists_eq_left, exists_eq_left', exists_and_left, exists_and_right, List.append_nil, List.nil_append, List.cons_append, exists_eq_right, exists_eq_right', and_assoc, exists_const, V.ty.injEq, ↓reduceIte, Bool.false_eq_true, Bool.not_true, Bool.not_false, decide_eq_true_eq])

section
variable {P : Program} {w : World} {K : PySem.W.Frag} {mg : Str → Option Value} {base : Heap}

def sp_law_raised : Sp := fun vs H Q _ => ∃ b e n : Nat, vs = [.int b, .int e, .int n] ∧ (1 ≤ n ∧ n ≤ 5000) ∧ Q (.int (b ^ e % n : Nat)) H
theorem ok_law_raised (T : Txt K mg) : FnOk P w K mg base CX0 1 T.d_law_raised.f T.d_law_raised.fd ["b", "times", "n"] sp_law_raised := by
  refine T.d_law_raised.F.ok sc_law_raised (fun vs H Q E h => ?_) (fun cdv A outer s H vs Q E hr h => ?_)
  · obtain ⟨b, e, n, rfl, _⟩ := h; rfl
  · have hu := hu_of hr
    refine ⟨_, (pss_cons (ps_par3 (i := 3) (j := 4) (l := 5) (by rfl) sc_law_raised.nd rfl rfl rfl (by decide) (by decide) (by decide) rfl rfl rfl (pa_cons (pe_op op_mod pe_int (pv 2)) (pa_cons (pe_op op_mod (pe_callTy call_int1 (by rfl) T.b_int (by decide +kernel) (pa_cons (pv 0) pa_nil)) (pv 2)) (pa_cons (pv 1) pa_nil))) (by rfl))
      (pss_cons (ps_while PassesOwn.never (pt_cmpR op_gt (pv 5) pe_int (nomark _)) (pss_cons (ps_if (pt_cmpR op_eq (pe_op op_mod (pe_callTy call_int1 (by rfl) T.b_int (by decide +kernel) (pa_cons (pv 5) pa_nil)) pe_int) pe_int (nomark _)) (pss_one (ps_set (i := 3) sc_law_raised.nd rfl (by first | exact .inl rfl | exact .inr rfl) (pe_op op_mod (pe_callTy call_int1 (by rfl) T.b_int (by decide +kernel) (pa_cons (pe_op op_mul (pv 3) (pv 4)) pa_nil)) (pv 2)))) pss_nil)
      (pss_cons (ps_set (i := 4) sc_law_raised.nd rfl (by first | exact .inl rfl | exact .inr rfl) (pe_op op_mod (pe_callTy call_int1 (by rfl) T.b_int (by decide +kernel) (pa_cons (pe_op op_mul (pv 4) (pv 4)) pa_nil)) (pv 2)))
      (pss_one (ps_set (i := 5) sc_law_raised.nd rfl (by first | exact .inl rfl | exact .inr rfl) (pe_op op_fdiv (pv 5) pe_int))))))
      (pss_one (ps_ret (pv 3))))), ?_⟩
    obtain ⟨b, e, n, rfl, ⟨hn1, hn2⟩, q⟩ := h
    have hn0 : (0 : Int) < (n : Int) := by omega
    have e1 : (1 : Int) % (n : Int) = ((1 % n : Nat) : Int) := by rw [Int.natCast_emod]; rfl
    refine ⟨_, rfl, 1, n, rfl, rfl, hn0, ?_⟩
    refine ⟨_, rfl, .inl ⟨_, rfl, _, rfl, b, n, rfl, rfl, hn0, _, rfl, ?_⟩⟩
    refine ⟨_, _, _, rfl, ?_⟩
    refine ⟨fun m σ H' => H' = H ∧ ∃ r s : Nat, r < n ∧ s < n ∧ r * s ^ m % n = b ^ e % n ∧ σ = [some (.int b), some (.int e), some (.int n), some (.int r), some (.int s), some (.int m)], ⟨e, rfl, 1 % n, b % n, Nat.mod_lt _ hn1, Nat.mod_lt _ hn1, ?_, ?_⟩, ?_⟩
    · rw [Nat.mod_mul_mod, Nat.one_mul, ← Nat.pow_mod]
    · rw [← e1, Int.natCast_emod]
      rfl
    rintro m σ H' ⟨rfl, r, s, hr1, hs1, hrs, rfl⟩
    refine ⟨_, rfl, _, _, rfl, rfl, _, rfl, ?_⟩
    by_cases hc : (0 : Int) < (m : Int)
    · rw [decide_eq_true hc]
      have st := sq_step r s m n
      have e2 : (m : Int) % 2 = ((m % 2 : Nat) : Int) := by omega
      have e3 : (m : Int) / 2 = ((m / 2 : Nat) : Int) := by omega
      refine iteT ⟨fun σ' H2 => H2 = H' ∧ ∃ r s : Nat, r < n ∧ s < n ∧ r * s ^ (m / 2) % n = b ^ e % n ∧ σ' = [some (.int b), some (.int e), some (.int n), some (.int r), some (.int s), some (.int (m / 2 : Nat))], ?_, ?_⟩
      · rintro σ' H2 ⟨rfl, r', s', h1, h2, h3, rfl⟩
        exact ⟨m / 2, by omega, rfl, r', s', h1, h2, h3, rfl⟩
      · refine ⟨_, rfl, .inl ⟨_, rfl, _, _, rfl, rfl, (by show (0 : Int) < 2; decide), rfl, _, rfl, ?_⟩⟩
        by_cases ho : m % 2 = 1
        · rw [decide_eq_true (show V.int ((m : Int) % 2) = V.int 1 by rw [e2, ho]; rfl)]
          rw [if_pos ho] at st
          refine iteT ⟨_, rfl, _, rfl, _, _, rfl, rfl, .inl ⟨by omega, by omega⟩, .inl ⟨_, rfl, _, rfl, _, _, rfl, rfl, hn0, ?_⟩⟩
          refine ⟨_, rfl, _, rfl, _, _, rfl, rfl, .inl ⟨by omega, by omega⟩, .inl ⟨_, rfl, _, rfl, _, _, rfl, rfl, hn0, ?_⟩⟩
          refine ⟨_, rfl, _, _, rfl, rfl, ⟨by decide, by decide⟩, rfl, r * s % n, s * s % n, Nat.mod_lt _ hn1, Nat.mod_lt _ hn1, st.symm.trans hrs, ?_⟩
          dsimp only
          rw [icm, icm, e3]
          rfl
        · rw [decide_eq_false (show ¬ V.int ((m : Int) % 2) = V.int 1 from fun z => ho (by have := V.int.inj z; omega))]
          rw [if_neg ho] at st
          refine iteF ?_
          refine ⟨_, rfl, _, rfl, _, _, rfl, rfl, .inl ⟨by omega, by omega⟩, .inl ⟨_, rfl, _, rfl, _, _, rfl, rfl, hn0, ?_⟩⟩
          refine ⟨_, rfl, _, _, rfl, rfl, ⟨by decide, by decide⟩, rfl, r, s * s % n, hr1, Nat.mod_lt _ hn1, st.symm.trans hrs, ?_⟩
          dsimp only
          rw [icm, e3]
          rfl
    · rw [decide_eq_false hc]
      refine iteF ⟨_, rfl, ?_⟩
      have z : m = 0 := by omega
      subst z
      rw [Nat.pow_zero, Nat.mul_one, Nat.mod_eq_of_lt hr1] at hrs
      rw [hrs]
      exact q

theorem vn_last {xs : List Nat} {y : Nat} : atI (vn (xs ++ [y])) (-1) = some (.int (y : Nat)) := by
  have h : (vn (xs ++ [y])).length = xs.length + 1 := by rw [vn_len, List.length_append]; rfl
  unfold atI
  have e : ixN (vn (xs ++ [y])).length (-1) = some xs.length := by
    rw [h]
    unfold ixN
    rw [if_neg (by omega), if_pos (by omega)]
    congr 1
    omega
  rw [e]
  show (vn (xs ++ [y]))[xs.length]? = _
  unfold vn
  rw [List.getElem?_map, List.getElem?_append_right (Nat.le_refl _), Nat.sub_self]
  rfl
noncomputable def fndV (b n k : Nat) : List V := [.int (k : Nat), .int (if (hLF b n).1 ≤ k then (hLF b n).2 else 0 : Nat)]
def sp_law_own : Sp := fun vs H Q _ => ∃ (b n : Nat) (w : Int), vs = [.int b, .int n, .int w] ∧ BN b n ∧ ∀ (t r : Addr) (fv : V) H', Gr [] H H' → H' t = some (.tup [fv, .ref r]) → H' r = some (.lst (vn (rowE b n))) →
  (fstE b n w = none → fv = .non) → (∀ k, fstE b n w = some k → ∃ f, fv = .ref f ∧ H' f = some (.tup (fndV b n k))) → Q (.ref t) H'
theorem ok_law_own (T : Txt K mg) : FnOk P w K mg base CX0 2 T.d_law_own.f T.d_law_own.fd ["b", "n", "weight_so"] sp_law_own := by
  refine T.d_law_own.F.ok sc_law_own (fun vs H Q E h => ?_) (fun cdv A outer s H vs Q E hr h => ?_)
  · obtain ⟨b, n, w, rfl, _⟩ := h; rfl
  · have hu := hu_of hr
    refine ⟨_, (pss_cons (ps_asg (pe_call (ok_law_powers T) (hr.mono (by decide)) (by rfl) T.d_law_powers.m T.d_law_powers.F.kp T.d_law_powers.b .nil pass0 (pa_cons (pv 0) (pa_cons (pv 1) pa_nil))) (pg_tup (by rfl) (pgs_cons (pg_name (i := 3) sc_law_own.nd rfl (by first | exact .inl rfl | exact .inr rfl)) (pgs_cons (pg_name (i := 4) sc_law_own.nd rfl (by first | exact .inl rfl | exact .inr rfl)) pgs_nil))))
      (pss_cons (ps_set (i := 5) sc_law_own.nd rfl (by first | exact .inl rfl | exact .inr rfl) (pe_op op_cat (pe_slice (r := rSlL K) sl_list (pv 3) (po_some pe_int) po_none) (pe_lst (pa_cons (pe_op op_mod (pe_callTy call_int1 (by rfl) T.b_int (by decide +kernel) (pa_cons (pe_op op_mul (pe_ix (r := rIxL K) ix_list (pv 3) (pe_un un_neg pe_int) (fun _ _ => rfl)) (pv 0)) pa_nil)) (pv 1)) pa_nil))))
      (pss_cons (ps_if (pt_cmpR (r := rIn K true) op_notIn_seq (pe_op op_mod (pe_callTy call_int1 (by rfl) T.b_int (by decide +kernel) (pa_cons (pv 2) pa_nil)) (pv 1)) (pv 5) rfl) (pss_one (ps_ret (pe_tup (pa_cons pe_non (pa_cons (pv 5) pa_nil))))) pss_nil)
      (pss_cons (ps_set (i := 6) sc_law_own.nd rfl (by first | exact .inl rfl | exact .inr rfl) (pe_op op_add (pe_bm (r := rIndex K) PySem.F.plainAttrs_list PySem.F.slot_list_index PySem.F.type_list_index mt_index (pv 5) (pa_cons (pe_op op_mod (pe_callTy call_int1 (by rfl) T.b_int (by decide +kernel) (pa_cons (pv 2) pa_nil)) (pv 1)) pa_nil)) pe_int))
      (pss_one (ps_ret (pe_tup (pa_cons (pe_tup (pa_cons (pv 6) (pa_cons (pe_ifExp (pt_cmpR op_ge (pv 6) (pv 4) (nomark _)) (pe_op op_sub (pe_callB (r := rLn K) call_ln (by rfl) T.b_len PySem.boot_len (pa_cons (pv 3) pa_nil)) (pv 4)) pe_int) pa_nil))) (pa_cons (pv 5) pa_nil))))))))), ?_⟩
    obtain ⟨b, n, w, rfl, hbn, q⟩ := h
    obtain ⟨hb1, hb2, hn1, hn2⟩ := id hbn
    have hn0 : (0 : Int) < (n : Int) := by omega
    refine ⟨_, rfl, _, rfl, b, n, rfl, ⟨by omega, hn1, hn2⟩, fun t l H1 p r h L P g1 ht hl => ?_⟩
    have eh := hLF_eq hn1 P
    have hL1 := P.hL.1
    have hle := hL_le hn1 P
    refine ⟨t, _, rfl, sq_tup ht, rfl, _, _, rfl, _, _, rfl, rfl, ?_⟩
    obtain ⟨c, hc⟩ : ∃ c, h + L = c + 1 := ⟨h + L - 1, by omega⟩
    rw [hc] at hl
    have hl2 : H1 l = some (.lst (vn (rl b n 1 c ++ [rem b n 1 c]))) := by rw [hl, rl_succ]
    refine ⟨_, rfl, (1 : Int), rfl, ?_⟩
    dsimp only [tNoPart]
    refine ⟨l, _, rfl, sq_lst hl, fun p1 n1 => ?_⟩
    have ec : cutV (vn (rl b n 1 (c + 1))) (some (1 : Int)) none = vn ((rl b n 1 (c + 1)).drop 1) := by
      rw [show (1 : Int) = ((1 : Nat) : Int) from rfl, cut_hi (by rw [vn_len, rl_len]; omega)]
      unfold vn
      rw [List.map_drop]
    rw [ec]
    have g2 : Gr [] H1 (upd H1 p1 (.lst (vn ((rl b n 1 (c + 1)).drop 1)))) := Gr.new n1
    have h1 : (upd H1 p1 (.lst (vn ((rl b n 1 (c + 1)).drop 1)))) p1 = some (.lst (vn ((rl b n 1 (c + 1)).drop 1))) := upd_same
    have hl3 := g2 l _ (by simp) hl2
    have hl4 := g2 l _ (by simp) hl
    generalize upd H1 p1 (.lst (vn ((rl b n 1 (c + 1)).drop 1))) = H2 at g2 h1 hl3 hl4 ⊢
    have hm := rem_lt (b := b) (n := n) (x := 1) (i := c) hn1
    refine ⟨_, rfl, _, rfl, l, _, _, _, rfl, rfl, sq_lst hl3, vn_last, _, rfl, _, _, rfl, rfl, .inl ⟨by omega, by omega⟩, .inl ⟨_, rfl, _, rfl, _, _, rfl, rfl, hn0, by show 1 ≤ sizeLine; decide, fun p2 n2 => ?_⟩⟩
    dsimp only
    rw [icm]
    have g3 : Gr [] H2 (upd H2 p2 (.lst (vn [rem b n 1 c * b % n]))) := Gr.new n2
    refine ⟨p1, p2, _, _, rfl, rfl, g3 p1 _ (by simp) h1, upd_same (o := .lst (vn [rem b n 1 c * b % n])), Nat.le_of_lt (Nat.lt_of_lt_of_le (show _ < 7000 by rw [vn_len, List.length_drop, rl_len]; show c + 1 - 1 + 1 < 7000; omega) (by decide)), fun r2 nr => ?_⟩
    have er : vn ((rl b n 1 (c + 1)).drop 1) ++ vn [rem b n 1 c * b % n] = vn (rowE b n) := by
      unfold rowE
      rw [eh]
      show _ = vn (rows b n (h + L))
      rw [hc, rows_rl]
      unfold vn
      rw [List.map_append]
    have er2 : vn ((rl b n 1 (c + 1)).drop 1) ++ [V.int ((rem b n 1 c * b % n : Nat) : Int)] = vn (rowE b n) := er
    rw [er]
    have g4 := (g2.trans g3).trans (Gr.new (W := []) (o := .lst (vn (rowE b n))) nr)
    have hl5 := g4 l _ (by simp) hl
    have hr : (upd (upd H2 p2 (.lst (vn [rem b n 1 c * b % n]))) r2 (.lst (vn (rowE b n)))) r2 = some (.lst (vn (rowE b n))) := upd_same
    have G3 := g1.trans g4
    change tSeq _ _ _ _ (upd (upd H2 p2 (.lst (vn [rem b n 1 c * b % n]))) r2 (.lst (vn (rowE b n))))
    clear g2 g3 g4 g1 h1 hl3 hl4
    generalize upd (upd H2 p2 (.lst (vn [rem b n 1 c * b % n]))) r2 (.lst (vn (rowE b n))) = H3 at hl5 hr G3 ⊢
    refine ⟨_, rfl, .inl ⟨_, rfl, _, rfl, _, _, rfl, rfl, hn0, ?_⟩⟩
    dsimp only
    rw [wt_eq hn1]
    refine ⟨_, rfl, r2, _, rfl, .inl (sq_lst hr), rfl, flat_vn _, _, rfl, ?_⟩
    by_cases hmem : wt w n ∈ rowE b n
    · have e : fstE b n w = some ((rowE b n).idxOf (wt w n) + 1) := if_pos hmem
      refine iteFb (by show (!inV _ _) = false; rw [inV_ni, decide_eq_true hmem]; rfl) ?_
      have hi := List.idxOf_lt_length_iff.mpr hmem
      have hi2 := (rowE_len (b := b) hn1).2
      refine ⟨_, rfl, .inl ⟨rfl, _, sq_lst hr⟩, _, rfl, .inl ⟨_, rfl, _, rfl, _, _, rfl, rfl, hn0, ?_⟩⟩
      dsimp only
      rw [wt_eq hn1]
      refine ⟨r2, _, _, (rowE b n).idxOf (wt w n), .int (wt w n : Nat), rfl, rfl, sq_lst hr, rfl, flat_vn _, ?_, ?_, ?_, _, _, rfl, rfl, ?_⟩
      · unfold vn
        rw [List.getElem?_map, List.getElem?_eq_getElem hi, List.getElem_idxOf hi]
        rfl
      · show (((wt w n : Nat) : Int) == ((wt w n : Nat) : Int)) = true
        exact beq_self_eq_true _
      · intro m z hm2 hz
        obtain ⟨hmm, rfl⟩ := vn_get hz
        have := PySem.SeqAt.lt_idxOf_ne hm2 hmm
        show (((((rowE b n)[m] : Nat)) : Int) == ((wt w n : Nat) : Int)) = false
        rw [beq_eq_false_iff_ne]
        intro z2
        exact this (by omega)
      dsimp only
      have e1 : (((rowE b n).idxOf (wt w n) : Nat) : Int) + 1 = (((rowE b n).idxOf (wt w n) + 1 : Nat) : Int) := by rw [Int.natCast_add]; rfl
      rw [e1]
      generalize (rowE b n).idxOf (wt w n) + 1 = k at e ⊢
      refine ⟨_, rfl, _, rfl, _, rfl, _, _, rfl, rfl, _, rfl, ?_⟩
      refine ite2 (fun hcc => ?_) (fun hcc => ?_)
      · have hk : h ≤ k := by
          have := of_decide_eq_true hcc
          omega
        refine ⟨_, rfl, l, _, rfl, .inl (sq_lst hl5), _, rfl, _, _, rfl, rfl, by show 2 ≤ sizeLine; decide, fun p6 n6 => ?_⟩
        have ez : (((vn (rl b n 1 (c + 1))).length : Nat) : Int) - (h : Int) = ((if (hLF b n).1 ≤ k then (hLF b n).2 else 0 : Nat) : Int) := by
          rw [vn_len, rl_len, eh, if_pos hk]
          show ((c + 1 : Nat) : Int) - (h : Int) = (L : Int)
          omega
        dsimp only
        rw [ez]
        have g6 : Gr [] H3 (upd H3 p6 (.tup (fndV b n k))) := Gr.new n6
        refine ⟨_, rfl, by show 2 ≤ sizeLine; decide, fun p7 n7 => ?_⟩
        have g7 : Gr [] (upd H3 p6 (.tup (fndV b n k))) (upd (upd H3 p6 (.tup (fndV b n k))) p7 (.tup [.ref p6, .ref r2])) := Gr.new n7
        refine q p7 r2 (.ref p6) _ ((G3.trans g6).trans g7) upd_same ((g6.trans g7) r2 _ (by simp) hr) (fun z => by rw [e] at z; cases z) fun k2 z => ⟨p6, rfl, ?_⟩
        rw [e] at z
        cases z
        exact g7 p6 _ (by simp) upd_same
      · have hk : ¬ h ≤ k := by
          have := of_decide_eq_false (Bool.eq_false_iff.mpr hcc)
          omega
        refine ⟨by show 2 ≤ sizeLine; decide, fun p6 n6 => ?_⟩
        have ez : [V.int ((k : Nat) : Int), .int 0] = fndV b n k := by
          unfold fndV
          rw [eh, if_neg hk]
          rfl
        rw [ez]
        have g6 : Gr [] H3 (upd H3 p6 (.tup (fndV b n k))) := Gr.new n6
        refine ⟨_, rfl, by show 2 ≤ sizeLine; decide, fun p7 n7 => ?_⟩
        have g7 : Gr [] (upd H3 p6 (.tup (fndV b n k))) (upd (upd H3 p6 (.tup (fndV b n k))) p7 (.tup [.ref p6, .ref r2])) := Gr.new n7
        refine q p7 r2 (.ref p6) _ ((G3.trans g6).trans g7) upd_same ((g6.trans g7) r2 _ (by simp) hr) (fun z => by rw [e] at z; cases z) fun k2 z => ⟨p6, rfl, ?_⟩
        rw [e] at z
        cases z
        exact g7 p6 _ (by simp) upd_same
    · have e : fstE b n w = none := if_neg hmem
      refine iteTb (by show (!inV _ _) = true; rw [inV_ni, decide_eq_false hmem]; rfl) ?_
      refine ⟨_, rfl, by show 2 ≤ sizeLine; decide, fun p7 n7 => ?_⟩
      have g7 : Gr [] H3 (upd H3 p7 (.tup [.non, .ref r2])) := Gr.new n7
      exact q p7 r2 .non _ (G3.trans g7) upd_same (g7 r2 _ (by simp) hr) (fun _ => rfl) fun k z => by rw [e] at z; cases z

end
end Wn
namespace Wn
open PySem PySem.Spec PyProof.Rows L2
local macro_rules | `(tactic| walk_at "vc") => `(tactic| simp only [cxK, cxK2, start1, start2, start3, tRet, tRetN, tSeq, tNext, tIfS, tAsg, gName, tDrop, tVar, tC, tOp, tUn, tTest, tB, tNot, tAnd, tOr, tAndV, tOrV, tNotV, tIf, tCons, tNil, tCB, tCall, tChain, tAug, ipI, rI, rI0, rU, rIs, rGcd, rEq, rNe, scal,
  List.getElem?_cons_zero, List.getElem?_cons_succ, List.set_cons_zero, List.set_cons_succ, Option.some.injEq, List.cons.injEq, V.int.injEq, V.bl.injEq, V.ref.injEq, V.str.injEq, and_true, true_and, exists_eq_left, exists_eq_left', exists_and_left, exists_and_right, List.append_nil, List.nil_append, List.cons_append, exists_eq_right, exists_eq_right', and_assoc, exists_const, V.ty.injEq, ↓reduceIte, Bool.false_eq_true, Bool.not_true, Bool.not_false, decide_eq_true_eq])

section
variable {P : Program} {w : World} {K : PySem.W.Frag} {mg : Str → Option Value} {base : Heap}

noncomputable def dueD (r : Bool × Str) : PyData := if r.1 = true then .list [.str r.2] else .str r.2
/-- what a repr tells of a proof that there is none -/
def RepD (row : List Nat) (d : PyData) : Prop := ∀ e, d = .tuple [.str "never", e] → Fits e ∧ (e.shown = (di row).shown ↔ isRow row e = true)
def sp_law_due (K : PySem.W.Frag) : Sp := fun vs H Q _ => ∃ (b n : Nat) (w : Int) (v : V) (d : PyData), vs = [.int b, .int n, .int w, v] ∧ BN b n ∧ Dp K H v d ∧ RepD (rowE b n) d ∧ ∀ v' H', Gr [] H H' → Dp K H' v' (dueD (jdg b n w d)) → Q v' H'
theorem fst_none {b n : Nat} {w : Int} : fstE b n w = none ↔ wt w n ∉ rowE b n := by
  unfold fstE
  by_cases h : wt w n ∈ rowE b n
  · rw [if_pos h]
    exact ⟨fun z => (by cases z), fun z => absurd h z⟩
  · rw [if_neg h]
    exact ⟨fun _ => h, fun _ => rfl⟩
theorem raised_zero0 {n r : Nat} {w : Int} (hn : 1 ≤ n) (hr : r < n) : ((r : Int) - w) % (n : Int) = 0 ↔ r = wt w n := by
  have e : ((r : Int) - w) % (n : Int) = 0 ↔ (r : Int) % (n : Int) = w % (n : Int) := Int.emod_eq_emod_iff_emod_sub_eq_zero.symm
  rw [e, Int.emod_eq_of_lt (a := (r : Int)) (b := (n : Int)) (Int.natCast_nonneg r) (by omega)]
  have h := wt_eq (w := w) hn
  omega
theorem raised_zero {b n k : Nat} {w : Int} (hn : 1 ≤ n) : (((b ^ k % n : Nat) : Int) - w) % (n : Int) = 0 ↔ b ^ k % n = wt w n := raised_zero0 hn (Nat.mod_lt _ hn)
theorem ok_law_is_int (T : Txt K mg) : FnOk P w K mg base CX0 1 T.d_law_is_int.f T.d_law_is_int.fd ["thing", "low", "high"] (sp_is_withinA K) := by
  refine T.d_law_is_int.F.ok sc_law_is_int (fun vs H Q E h => ?_) (fun cdv A outer s H vs Q E hr h => ?_)
  · obtain ⟨v, d, lo, hi, rfl, _⟩ := h; rfl
  · have hu := hu_of hr
    refine ⟨_, (pss_one (ps_ret (pe_and (pe_callB (r := rIs K) call_is (by rfl) T.b_isinstance (by decide +kernel) (pa_cons (pv 0) (pa_cons (pe_bltn (v := .ty "int") (by rfl) T.b_int (by decide +kernel) rfl) pa_nil))) (pe_and (pe_not (pe_callB (r := rIs K) call_is (by rfl) T.b_isinstance (by decide +kernel) (pa_cons (pv 0) (pa_cons (pe_bltn (v := .ty "bool") (by rfl) T.b_bool (by decide +kernel) rfl) pa_nil)))) (pe_one (pe_chain op_le op_le (pv 1) (pv 0) (pv 2))))))), ?_⟩
    obtain ⟨v, d, lo, hi, rfl, hd, q⟩ := h
    refine ⟨_, rfl, v, "int", rfl, tyD d, ⟨(dp_ty hd).1, (dp_ty hd).2, by decide⟩, _, rfl, ?_⟩
    cases h1 : isB (tyD d) "int" with
    | false =>
      refine iteF ?_
      have e : isW lo hi d = false := by
        cases d with
        | int i => cases h1
        | none => rfl
        | bool b => rfl
        | str x => rfl
        | list x => rfl
        | tuple x => rfl
        | dict x => rfl
      rw [e] at q
      exact q
    | true =>
      refine iteT ⟨_, rfl, v, "bool", rfl, tyD d, ⟨(dp_ty hd).1, (dp_ty hd).2, by decide⟩, _, rfl, ?_⟩
      cases h2 : isB (tyD d) "bool" with
      | true =>
        have e : isW lo hi d = false := by
          cases d with
          | bool b => rfl
          | int i => cases h2
          | none => cases h2
          | str x => cases h2
          | list x => cases h2
          | tuple x => cases h2
          | dict x => cases h2
        rw [e] at q
        exact ⟨_, rfl, iteF q⟩
      | false =>
        obtain ⟨i, rfl⟩ := tyD_nn h1 h2
        obtain rfl := dp_int hd
        refine ⟨_, rfl, iteT ?_⟩
        walk_at "vc"
        by_cases h1 : lo ≤ i
        · have e : isW lo hi (.int i) = decide (i ≤ hi) := by
            show (decide (lo ≤ i) && decide (i ≤ hi)) = _
            rw [decide_eq_true h1, Bool.true_and]
          rw [if_pos h1, ← e]
          exact q
        · have e : isW lo hi (.int i) = false := by
            show (decide (lo ≤ i) && decide (i ≤ hi)) = _
            rw [decide_eq_false h1, Bool.false_and]
          rw [if_neg h1, ← e]
          exact q
theorem okG_law_due (T : Txt K mg) : FnG P w K mg base CX0 4 T.d_law_due.f T.d_law_due.fd ["b", "n", "weight_so", "thing"] (sp_law_due K) := by
  refine fnG0 T.d_law_due.F sc_law_due (fun vs H Q E h => ?_) (fun cdv A outer s H vs Q E hgd hr h => ?_)
  · obtain ⟨b, n, w, v, d, rfl, _⟩ := h; rfl
  · have hu := hu_of hr
    refine ⟨_, (pss_cons (ps_if (PW.pt (pw_or (pt_not (pt_val (pe_callB (r := rIs K) call_is (by rfl) T.b_isinstance (by decide +kernel) (pa_cons (pv 3) (pa_cons (pe_bltn (v := .ty "tuple") (by rfl) T.b_tuple (by decide +kernel) rfl) pa_nil))))) (pw_or (pt_cmpR op_ne (pe_callB (r := rLn K) call_ln (by rfl) T.b_len PySem.boot_len (pa_cons (pv 3) pa_nil)) pe_int (nomark _)) (pw_or1 (pt_not (pt_val (pe_callB (r := rIs K) call_is (by rfl) T.b_isinstance (by decide +kernel) (pa_cons (pe_ix (r := rIxT K) ix_tup (pv 3) pe_int (fun _ _ => rfl)) (pa_cons (pe_bltn (v := .ty "str") (by rfl) T.b_str (by decide +kernel) rfl) pa_nil))))))))) (pss_one (ps_ret pe_str)) pss_nil)
      (pss_cons (ps_if (pt_cmpR op_eq (pe_ix (r := rIxT K) ix_tup (pv 3) pe_int (fun _ _ => rfl)) pe_str (nomark _)) (pss_cons (ps_set (i := 4) sc_law_due.nd rfl (by first | exact .inl rfl | exact .inr rfl) (pe_and (pe_call (ok_law_is_int T) (hr.mono (by decide)) (by rfl) T.d_law_is_int.m T.d_law_is_int.F.kp T.d_law_is_int.b .nil pass0 (pa_cons (pe_ix (r := rIxT K) ix_tup (pv 3) pe_int (fun _ _ => rfl)) (pa_cons pe_int (pa_cons pe_int pa_nil)))) (pe_one (pe_cmpR op_eq (pe_op op_mod (pe_callTy call_int1 (by rfl) T.b_int (by decide +kernel) (pa_cons (pe_op op_sub (pe_call (ok_law_raised T) (hr.mono (by decide)) (by rfl) T.d_law_raised.m T.d_law_raised.F.kp T.d_law_raised.b .nil pass0 (pa_cons (pv 0) (pa_cons (pe_ix (r := rIxT K) ix_tup (pv 3) pe_int (fun _ _ => rfl)) (pa_cons (pv 1) pa_nil)))) (pv 2)) pa_nil)) (pv 1)) pe_int (nomark _)))))
      (pss_one (ps_ret (pe_ifExp (pt_val (pv 4)) (pe_lst (pa_cons pe_str pa_nil)) pe_str)))) pss_nil)
      (pss_cons (ps_if (pt_cmpR op_ne (pe_ix (r := rIxT K) ix_tup (pv 3) pe_int (fun _ _ => rfl)) pe_str (nomark _)) (pss_one (ps_ret pe_str)) pss_nil)
      (pss_cons (ps_asg (pe_call (ok_law_own T) (hr.mono (by decide)) (by rfl) T.d_law_own.m T.d_law_own.F.kp T.d_law_own.b .nil pass0 (pa_cons (pv 0) (pa_cons (pv 1) (pa_cons (pv 2) pa_nil)))) (pg_tup (by rfl) (pgs_cons (pg_name (i := 5) sc_law_due.nd rfl (by first | exact .inl rfl | exact .inr rfl)) (pgs_cons (pg_name (i := 6) sc_law_due.nd rfl (by first | exact .inl rfl | exact .inr rfl)) pgs_nil))))
      (pss_one (ps_ret (pe_ifExp (PW.pt (pw_and (pt_cmpR op_isN (pv 5) pe_non (nomark _)) (pw_and1 (pt_cmpR op_eq (pe_callB (r := rRepr K) (call_repr hgd (gu_of hr)) (by rfl) T.b_repr (by decide +kernel) (pa_cons (pe_ix (r := rIxT K) ix_tup (pv 3) pe_int (fun _ _ => rfl)) pa_nil)) (pe_callB (r := rRepr K) (call_repr hgd (gu_of hr)) (by rfl) T.b_repr (by decide +kernel) (pa_cons (pe_callTy (r := rTpO K) call_tpO (by rfl) T.b_tuple (by decide +kernel) (pa_cons (pv 6) pa_nil)) pa_nil)) (nomark _))))) (pe_lst (pa_cons pe_str pa_nil)) pe_str))))))), ?_⟩
    obtain ⟨b, n, w, v, d, rfl, hbn, hd, hrep, q⟩ := h
    obtain ⟨hb1, hb2, hn1, hn2⟩ := id hbn
    have hn0 : (0 : Int) < (n : Int) := by omega
    refine ⟨_, rfl, v, "tuple", rfl, tyD d, ⟨(dp_ty hd).1, (dp_ty hd).2, by decide⟩, _, rfl, ?_⟩
    have form : (∀ s x, d ≠ .tuple [.str s, x]) → Q (.str "form") H := fun hne => by
      refine q _ H (Gr.refl _ _) ?_
      rw [jdg_form hne]
      exact .str _
    by_cases ht : ∃ ds, d = .tuple ds
    case neg =>
      have e1 : isB (tyD d) "tuple" = false := by
        cases d with
        | tuple ds => exact absurd ⟨ds, rfl⟩ ht
        | none => rfl
        | bool b => rfl
        | int i => rfl
        | str x => rfl
        | list x => rfl
        | dict x => rfl
      rw [e1]
      exact iteT (iteT (form fun s x z => ht ⟨_, z⟩))
    obtain ⟨ds, rfl⟩ := ht
    refine iteF ?_
    cases hd with
    | @tup a xs _ hx hA =>
    have hlx := dpAll_len hA
    refine ⟨_, rfl, a, xs, rfl, .inr hx, rfl, _, rfl, ?_⟩
    by_cases h2 : xs.length = 2
    case neg =>
      refine iteTb (by rw [Bool.not_eq_true']; exact decide_eq_false fun z => h2 (by have := V.int.inj z; omega)) (iteT (form fun s x z => h2 ?_))
      injection z with z
      rw [hlx, z]
      rfl
    refine iteFb (by rw [h2]; rfl) ?_
    obtain ⟨x0, x1, rfl⟩ : ∃ x0 x1, xs = [x0, x1] := by
      match xs, h2 with
      | [x0, x1], _ => exact ⟨x0, x1, rfl⟩
    cases hA with
    | @cons _ _ d0 ds1 h0 hA1 =>
    cases hA1 with
    | @cons _ _ d1 ds2 h1 hA2 =>
    cases hA2
    refine ⟨_, rfl, a, _, 0, x0, rfl, rfl, hx, atI_nat (j := 0) rfl, x0, "str", rfl, tyD d0, ⟨(dp_ty h0).1, (dp_ty h0).2, by decide⟩, _, rfl, ?_⟩
    by_cases hs : ∃ s, d0 = .str s
    case neg =>
      have e1 : isB (tyD d0) "str" = false := by
        cases d0 with
        | str ds => exact absurd ⟨ds, rfl⟩ hs
        | none => rfl
        | bool b => rfl
        | int i => rfl
        | tuple x => rfl
        | list x => rfl
        | dict x => rfl
      rw [e1]
      exact iteT (form fun s x z => hs ⟨s, by injection z with z; injection z⟩)
    obtain ⟨s0, rfl⟩ := hs
    cases h0
    refine iteF ?_
    rw [jdg_pair] at q
    refine ⟨_, rfl, a, _, 0, .str s0, rfl, rfl, hx, atI_nat (j := 0) rfl, rfl, _, rfl, ?_⟩
    by_cases hse : s0 = ("exponent" : Str)
    · rw [if_pos hse] at q
      subst hse
      refine iteTb (decide_eq_true rfl) ?_
      refine ⟨_, rfl, a, _, 1, x1, rfl, rfl, hx, atI_nat (j := 1) rfl, x1, d1, 1, 10000, rfl, h1, _, rfl, ?_⟩
      have fin : ∀ B : Bool, jdE b n w d1 = B → (B = true → ∀ l, H l = none → Q (.ref l) (upd H l (.lst [.str "exponent"]))) ∧ (B = false → Q (.str "exponent") H) := fun B hB => by
        rw [hB] at q
        refine ⟨fun z l nl => ?_, fun z => ?_⟩
        · subst z
          exact q _ _ (Gr.new nl) (dp_lst upd_same (.cons (.str _) .nil))
        · subst z
          exact q _ H (Gr.refl _ _) (.str _)
      cases hw1 : isW 1 10000 d1 with
      | false =>
        have ej : jdE b n w d1 = false := by
          cases d1 with
          | int k =>
            show ((decide (1 ≤ k) && decide (k ≤ 10000)) && _) = false
            rw [show (decide (1 ≤ k) && decide (k ≤ 10000)) = false from hw1, Bool.false_and]
          | none => rfl
          | bool b => rfl
          | str x => rfl
          | tuple x => rfl
          | list x => rfl
          | dict x => rfl
        refine iteF ?_
        refine ⟨_, rfl, false, rfl, iteF ?_⟩
        exact (fin _ ej).2 rfl
      | true =>
        obtain ⟨k, rfl⟩ : ∃ k, d1 = .int k := by
          cases d1 with
          | int k => exact ⟨k, rfl⟩
          | none => cases hw1
          | bool b => cases hw1
          | str x => cases hw1
          | tuple x => cases hw1
          | list x => cases hw1
          | dict x => cases hw1
        have hk : (decide (1 ≤ k) && decide (k ≤ 10000)) = true := hw1
        rw [Bool.and_eq_true, decide_eq_true_eq, decide_eq_true_eq] at hk
        obtain ⟨kn, rfl⟩ : ∃ kn : Nat, k = (kn : Int) := ⟨k.toNat, by omega⟩
        have ej : jdE b n w (.int (kn : Nat)) = decide (b ^ kn % n = wt w n) := by
          show ((decide (1 ≤ (kn : Int)) && decide ((kn : Int) ≤ 10000)) && decide (b ^ (kn : Int).toNat % n = wt w n)) = _
          rw [show (decide (1 ≤ (kn : Int)) && decide ((kn : Int) ≤ 10000)) = true from hw1, Bool.true_and, Int.toNat_natCast]
        obtain rfl := dp_int h1
        refine iteT ⟨_, rfl, _, rfl, a, _, 1, .int (kn : Nat), rfl, rfl, hx, atI_nat (j := 1) rfl, _, rfl, b, kn, n, rfl, ⟨hn1, hn2⟩, ?_⟩
        refine ⟨_, rfl, _, _, rfl, rfl, .inl ⟨_, rfl, _, rfl, _, _, rfl, rfl, hn0, rfl, ?_⟩⟩
        have eB : decide (V.int ((((b ^ kn % n : Nat) : Int) - w) % (n : Int)) = V.int 0) = decide (b ^ kn % n = wt w n) := by
          by_cases hz : b ^ kn % n = wt w n
          · rw [decide_eq_true hz]
            exact decide_eq_true (congrArg V.int ((raised_zero hn1).mpr hz))
          · rw [decide_eq_false hz]
            exact decide_eq_false fun z => hz ((raised_zero hn1).mp (V.int.inj z))
        have f := fin _ ej
        cases hB : decide (b ^ kn % n = wt w n) with
        | true =>
          rw [hB] at f eB
          refine ⟨_, rfl, true, congrArg V.bl eB, iteT ?_⟩
          exact ⟨by show 1 ≤ sizeLine; decide, fun l nl => f.1 rfl l nl⟩
        | false =>
          rw [hB] at f eB
          refine ⟨_, rfl, false, congrArg V.bl eB, iteF ?_⟩
          exact f.2 rfl
    rw [if_neg hse] at q
    refine iteFb (decide_eq_false fun z => hse (by injection z)) ?_
    refine ⟨_, rfl, a, _, 0, .str s0, rfl, rfl, hx, atI_nat (j := 0) rfl, rfl, _, rfl, ?_⟩
    by_cases hsn : s0 = ("never" : Str)
    case neg =>
      rw [if_neg hsn] at q
      refine iteTb (by rw [Bool.not_eq_true']; exact decide_eq_false fun z => hsn (by injection z)) ?_
      exact q _ H (Gr.refl _ _) (.str _)
    rw [if_pos hsn] at q
    subst hsn
    obtain ⟨hf1, hf2⟩ := hrep d1 rfl
    refine iteFb (by rw [decide_eq_true rfl]; rfl) ?_
    refine ⟨_, rfl, _, rfl, _, rfl, b, n, w, rfl, hbn, fun t r fv H1 g1 ht hr hnone hsome => ?_⟩
    refine ⟨t, _, rfl, sq_tup ht, rfl, _, _, rfl, _, _, rfl, rfl, ?_⟩
    have finF : (isRow (rowE b n) d1 && decide (wt w n ∉ rowE b n)) = false → ∀ H', Gr [] H H' → Q (.str "never") H' := fun hB H' g => by
      rw [hB] at q
      exact q _ H' g (.str _)
    cases hf : fstE b n w with
    | some k =>
      obtain ⟨f, rfl, hfv⟩ := hsome k hf
      have hm : ¬ wt w n ∉ rowE b n := fun z => by rw [fst_none.mpr z] at hf; cases hf
      refine ⟨_, rfl, rfl, _, rfl, iteFb (decide_eq_false (by intro z; cases z)) ?_⟩
      refine iteF ?_
      exact finF (by rw [decide_eq_false hm, Bool.and_false]) H1 g1
    | none =>
      obtain rfl := hnone hf
      have hm := fst_none.mp hf
      refine ⟨_, rfl, rfl, _, rfl, iteTb rfl ?_⟩
      have hx1 := (Kp.of g1).sqT hx
      refine ⟨_, rfl, a, _, 1, x1, rfl, rfl, hx1, atI_nat (j := 1) rfl, x1, d1, rfl, Dp.kp (Kp.of g1) h1, hf1, ?_⟩
      refine ⟨_, rfl, r, _, rfl, .inl ⟨sq_lst hr, fun t2 nt2 => ?_⟩⟩
      have g2 : Gr [] H1 (upd H1 t2 (.tup (vn (rowE b n)))) := Gr.new nt2
      have fR : Fits (di (rowE b n)) := (sm_ni (m := 5000) (fun k hk => by
        have := rows_lt hn1 hk
        omega) (by
        have := (rowE_len (b := b) hn1).2
        omega)).fits
      refine ⟨_, di (rowE b n), rfl, dp_vnT upd_same, fR, rfl, _, rfl, ?_⟩
      cases hi : isRow (rowE b n) d1 with
      | true =>
        have es := hf2.mpr hi
        refine iteTb (decide_eq_true (congrArg V.str es)) ?_
        rw [hi, decide_eq_true hm] at q
        refine ⟨by show 1 ≤ sizeLine; decide, fun l nl => ?_⟩
        exact q _ _ ((g1.trans g2).trans (Gr.new nl)) (dp_lst upd_same (.cons (.str _) .nil))
      | false =>
        have es : d1.shown ≠ (di (rowE b n)).shown := fun z => by rw [hf2.mp z] at hi; cases hi
        refine iteFb (decide_eq_false fun z => es (by injection z)) ?_
        exact finF (by rw [hi, Bool.false_and]) _ (g1.trans g2)

def sp_law_heard (K : PySem.W.Frag) : Sp := fun vs H Q _ => ∃ (b n : Nat) (w : Int) (v : V) (d : PyData), vs = [.int b, .int n, .int w, v] ∧ BNW b n w ∧ Dp K H v d ∧ GoodD d ∧ ∀ v' H', Gr [] H H' → Dp K H' v' (dueD (jdg b n w d)) → Q v' H'
theorem ok_law_heard (T : Txt K mg) : FnOk P w K mg base CX0 9 T.d_law_heard.f T.d_law_heard.fd ["b", "n", "weight_so", "thing"] (sp_law_heard K) := by
  refine T.d_law_heard.F.ok sc_law_heard (fun vs H Q E h => ?_) (fun cdv A outer s H vs Q E hr h => ?_)
  · obtain ⟨b, n, w, v, d, rfl, _⟩ := h; rfl
  · have hu := hu_of hr
    refine ⟨_, (pss_one (ps_try_as (i := 4) (Wout := fun _ _ _ _ => False) rfl rfl sc_law_heard.nd rfl rfl ⟨rfl, by decide, .inl T.g_BadPaper⟩ takes0 (fun W pn xe tk _ => (pss_one (ps_ret (pe_lst (pa_cons (pe_callS (E := fun σ => WE W σ) (okX_check_exponent T) (hr.mono (by decide)) (by rfl) T.d_check_exponent.m T.d_check_exponent.F.kp T.d_check_exponent.b (fun σ => passAt tk σ) (pa_cons (pv 0) (pa_cons (pv 1) (pa_cons (pv 2) (pa_cons (pv 3) pa_nil))))) pa_nil))))) (fun a oe cls d pn hz hf => (pss_one (ps_ret (pe_byE T.T_BadPaper.xf T.T_BadPaper.no hz hf (pv 4))))))), ?_⟩
    obtain ⟨b, n, w, v, d, rfl, hW, hd, hg, q⟩ := h
    refine ⟨_, rfl, _, rfl, _, rfl, _, rfl, b, n, w, v, d, rfl, hW, hd, hg, fun hB H1 g1 => ?_, fun hB H1 dd g1 nd => ?_⟩
    · refine ⟨by show 1 ≤ sizeLine; decide, fun l nl => ?_⟩
      refine q _ _ (g1.trans (Gr.new nl)) ?_
      unfold dueD
      rw [if_pos hB]
      exact dp_lst upd_same (.cons (.str _) .nil)
    · refine ⟨true, T.ex1_BadPaper, fun _ a0 ha0 => ?_, fun z => Bool.noConfusion z⟩
      refine ⟨_, rfl, rfl, rfl, dd, _, rfl, upd_same, ?_⟩
      refine q _ _ (g1.trans (Gr.new nd)) ?_
      unfold dueD
      rw [if_neg (by rw [hB]; decide)]
      exact .str _

end
end Wn
namespace Wn
open PySem PySem.Spec PyProof.Rows L2
local macro_rules | `(tactic| walk_at "vc") => `(tactic| simp only [cxK, cxK2, start1, start2, start3, tRet, tRetN, tSeq, tNext, tIfS, tAsg, gName, tDrop, tVar, tC, tOp, tUn, tTest, tB, tNot, tAnd, tOr, tAndV, tOrV, tNotV, tIf, tCons, tNil, tCB, tCall, tChain, tAug, ipI, rI, rI0, rU, rIs, rGcd, rEq, rNe, scal,
  List.getElem?_cons_zero, List.getElem?_cons_succ, List.set_cons_zero, List.set_cons_succ, Option.some.injEq, List.cons.injEq, V.int.injEq, V.bl.injEq, V.ref.injEq, V.str.injEq, and_true, true_and, exists_eq_left, exists_eq_left', exists_and_left, exists_and_right, List.append_nil, List.nil_append, List.cons_append, exists_eq_right, exists_eq_right', and_assoc, exists_const, V.ty.injEq, ↓reduceIte, Bool.false_eq_true, Bool.not_true, Bool.not_false, decide_eq_true_eq])

section
variable {P : Program} {w : World} {K : PySem.W.Frag} {mg : Str → Option Value} {base : Heap}

/-! values beside lists that still grow: the heap without them -/
def hid (W : List Addr) (H : Hp) : Hp := fun a => if a ∈ W then none else H a
theorem hid_get {W : List Addr} {H : Hp} {a : Addr} {o : HO} (h : H a = some o) (n : a ∉ W) : hid W H a = some o := by
  unfold hid
  rw [if_neg n]
  exact h
theorem hid_inv {W : List Addr} {H : Hp} {a : Addr} {o : HO} (h : hid W H a = some o) : a ∉ W ∧ H a = some o := by
  unfold hid at h
  by_cases m : a ∈ W
  · rw [if_pos m] at h
    cases h
  · rw [if_neg m] at h
    exact ⟨m, h⟩
theorem hid_kp {W : List Addr} {H H' : Hp} (g : Gr W H H') : Kp (hid W H) (hid W H') :=
  ⟨fun a _ e => hid_get (g a _ (hid_inv e).1 (hid_inv e).2) (hid_inv e).1, fun a _ e => hid_get (g a _ (hid_inv e).1 (hid_inv e).2) (hid_inv e).1, fun a _ _ e => hid_get (g a _ (hid_inv e).1 (hid_inv e).2) (hid_inv e).1⟩
theorem hid_out {W : List Addr} {H : Hp} : Kp (hid W H) H := ⟨fun a _ e => (hid_inv e).2, fun a _ e => (hid_inv e).2, fun a _ _ e => (hid_inv e).2⟩
theorem hid_in0 {H : Hp} : Kp H (hid [] H) := ⟨fun a _ e => hid_get e (by simp), fun a _ e => hid_get e (by simp), fun a _ _ e => hid_get e (by simp)⟩
theorem ne_none {H : Hp} {a S : Addr} {o : HO} (e : H a = some o) (n : H S = none) : a ∉ [S] := fun m => by
  rw [List.mem_singleton] at m
  subst m
  rw [n] at e
  cases e
theorem hid_in {H H' : Hp} {S : Addr} (n : H S = none) (g : Gr [S] H H') : Kp H (hid [S] H') :=
  ⟨fun a _ e => hid_get (g a _ (ne_none e n) e) (ne_none e n), fun a _ e => hid_get (g a _ (ne_none e n) e) (ne_none e n), fun a _ _ e => hid_get (g a _ (ne_none e n) e) (ne_none e n)⟩
def Wst (W : List Addr) (H : Hp) : Prop := ∀ a, a ∈ W → H a ≠ none
theorem Wst.gr {W : List Addr} {H H' : Hp} (s : Wst W H) (g : Gr [] H H') : Wst W H' := fun a m z => by
  cases e : H a with
  | none => exact s a m e
  | some o =>
    rw [g a o (by simp) e] at z
    cases z
theorem Wst.ne {W : List Addr} {H : Hp} {p : Addr} (s : Wst W H) (n : H p = none) : p ∉ W := fun m => s p m n
theorem gr0 {W : List Addr} {H H' : Hp} (g : Gr [] H H') : Gr W H H' := g.mono (by simp)
section
variable {K : PySem.W.Frag} {σ : L2.St} {H : Hp} {W : List Addr}
theorem dpAll_take {H : Hp} : ∀ {vs : List V} {ds : List PyData} (j : Nat), DpAll K H vs ds → DpAll K H (vs.take j) (ds.take j)
  | _, _, 0, _ => by
    rw [List.take_zero, List.take_zero]
    exact .nil
  | _, _, j + 1, .nil => .nil
  | _, _, j + 1, .cons a b => .cons a (dpAll_take j b)
def EvW (K : PySem.W.Frag) (W : List Addr) (te : TE) (σ : L2.St) (H : Hp) (d : PyData) : Prop := ∀ H1, Gr W H H1 → Wst W H1 → ∀ Q : VK, (∀ v H2, Gr [] H1 H2 → Dp K (hid W H2) v d → Q v H2) → te σ H1 Q
def EsW (K : PySem.W.Frag) (W : List Addr) (ta : TA) (σ : L2.St) (H : Hp) (ds : List PyData) : Prop := ∀ H1, Gr W H H1 → Wst W H1 → ∀ Q : List V → Hp → Prop, (∀ vs H2, Gr [] H1 H2 → DpAll K (hid W H2) vs ds → Q vs H2) → ta σ H1 Q
def ElW (W : List Addr) (te : TE) (σ : L2.St) (H : Hp) (xs : List Nat) : Prop := ∀ H1, Gr W H H1 → Wst W H1 → ∀ Q : VK, (∀ p H2, Gr [] H1 H2 → p ∉ W → H2 p = some (.lst (vn xs)) → Q (.ref p) H2) → te σ H1 Q
theorem ew_var {i : Nat} {v : V} {d : PyData} (e : σ[i]? = some (some v)) (h : Dp K (hid W H) v d) : EvW K W (tVar i) σ H d := fun H1 g _ Q q => ⟨v, e, q v H1 (Gr.refl _ _) (Dp.kp (hid_kp g) h)⟩
theorem ew_int {i : Int} : EvW K W (tC (.int i)) σ H (.int i) := fun H1 _ _ Q q => q _ H1 (Gr.refl _ _) (.int i)
theorem ew_bl {i : Bool} : EvW K W (tC (.bl i)) σ H (.bool i) := fun H1 _ _ Q q => q _ H1 (Gr.refl _ _) (.bl i)
theorem ew_str {i : Str} : EvW K W (tC (.str i)) σ H (.str i) := fun H1 _ _ Q q => q _ H1 (Gr.refl _ _) (.str i)
theorem ew_non : EvW K W (tC .non) σ H .none := fun H1 _ _ Q q => q _ H1 (Gr.refl _ _) .non
theorem esw_nil : EsW K W tNil σ H [] := fun H1 _ _ Q q => q _ H1 (Gr.refl _ _) .nil
theorem esw_cons {te : TE} {ta : TA} {d : PyData} {ds : List PyData} (h : EvW K W te σ H d) (r : EsW K W ta σ H ds) : EsW K W (tCons te ta) σ H (d :: ds) := fun H1 g s Q q =>
  h H1 g s _ fun v H2 g2 dv => r H2 (g.trans (gr0 g2)) (s.gr g2) _ fun vs H3 g3 dvs => q _ H3 (g2.trans g3) (.cons (Dp.kp (hid_kp (gr0 g3)) dv) dvs)
theorem ew_tup {ta : TA} {ds : List PyData} (h : EsW K W ta σ H ds) (hz : ds.length ≤ 1000 := by exact Nat.le_of_ble_eq_true rfl) : EvW K W (tTup ta) σ H (.tuple ds) := fun H1 g s Q q =>
  h H1 g s _ fun vs H2 g2 a => ⟨by rw [dpAll_len a]; exact Nat.le_of_lt (small1000 hz), fun p np => q _ _ (g2.trans (Gr.new np)) (dp_tup (hid_get upd_same ((s.gr g2).ne np)) (DpAll.kp (hid_kp (Gr.new np)) a))⟩
theorem ew_lst {ta : TA} {ds : List PyData} (h : EsW K W ta σ H ds) (hz : ds.length ≤ 1000 := by exact Nat.le_of_ble_eq_true rfl) : EvW K W (tLst ta) σ H (.list ds) := fun H1 g s Q q =>
  h H1 g s _ fun vs H2 g2 a => ⟨by rw [dpAll_len a]; exact Nat.le_of_lt (small1000 hz), fun p np => q _ _ (g2.trans (Gr.new np)) (dp_lst (hid_get upd_same ((s.gr g2).ne np)) (DpAll.kp (hid_kp (Gr.new np)) a))⟩
theorem elw_var {i : Nat} {r : Addr} {xs : List Nat} (e : σ[i]? = some (some (.ref r))) (h : H r = some (.lst (vn xs))) (n : r ∉ W) : ElW W (tVar i) σ H xs := fun H1 g _ Q q => ⟨_, e, q r H1 (Gr.refl _ _) n (g r _ n h)⟩
def lstD (xs : List Nat) : PyData := .list ((ni xs).map PyData.int)
theorem elw_d {te : TE} {xs : List Nat} (h : ElW W te σ H xs) : EvW K W te σ H (lstD xs) := fun H1 g s Q q => h H1 g s _ fun p H2 g2 n e => q _ H2 g2 (dp_vnL (hid_get e n))
theorem elw_take {te : TE} {xs : List Nat} {j : Nat} (h : ElW W te σ H xs) (hj : j ≤ xs.length) : ElW W (tSl (rSlL K) te tNoPart (tPart (tC (.int (j : Nat))))) σ H (xs.take j) := fun H1 g s Q q =>
  h H1 g s _ fun p H2 g2 n e => ⟨(j : Int), rfl, p, vn xs, rfl, sq_lst e, fun t nt => q t _ (g2.trans (Gr.new nt)) ((s.gr g2).ne nt) (by
    rw [upd_same, cut_lo (by rw [vn_len]; exact hj)]
    unfold vn
    rw [List.map_take])⟩
theorem elw_drop {te : TE} {xs : List Nat} {j : Nat} (h : ElW W te σ H xs) (hj : j ≤ xs.length) : ElW W (tSl (rSlL K) te (tPart (tC (.int (j : Nat)))) tNoPart) σ H (xs.drop j) := fun H1 g s Q q =>
  h H1 g s _ fun p H2 g2 n e => ⟨(j : Int), rfl, p, vn xs, rfl, sq_lst e, fun t nt => q t _ (g2.trans (Gr.new nt)) ((s.gr g2).ne nt) (by
    rw [upd_same, cut_hi (by rw [vn_len]; exact hj)]
    unfold vn
    rw [List.map_drop])⟩
theorem cut_init {xs : List Nat} {y : Nat} : cutV (vn (xs ++ [y])) none (some (-1)) = vn xs := by
  unfold cutV
  have e : HT.sIx (vn (xs ++ [y])).length (vn (xs ++ [y])).length (some (-1)) = xs.length := by
    have e0 : ∀ n d : Nat, HT.sIx n d (some (-1)) = ((-1 : Int) + (n : Int)).toNat := fun n d => by
      unfold HT.sIx
      exact if_pos (by decide)
    rw [e0, vn_len, List.length_append]
    show ((-1 : Int) + ((xs.length + 1 : Nat) : Int)).toNat = _
    omega
  rw [e, HT.sIx_none, List.drop_zero, Nat.sub_zero]
  unfold vn
  rw [← List.map_take, List.take_append_of_le_length (Nat.le_refl _), List.take_length]
theorem elw_init {te : TE} {xs : List Nat} {y : Nat} (h : ElW W te σ H (xs ++ [y])) : ElW W (tSl (rSlL K) te tNoPart (tPart (tUn (rU fun i => V.int (-i)) (tC (.int 1))))) σ H xs := fun H1 g s Q q =>
  h H1 g s _ fun p H2 g2 n e => ⟨1, rfl, (-1 : Int), rfl, p, vn (xs ++ [y]), rfl, sq_lst e, fun t nt => q t _ (g2.trans (Gr.new nt)) ((s.gr g2).ne nt) (by rw [upd_same, cut_init])⟩
theorem elw_cat {ta tb : TE} {xs ys : List Nat} (h1 : ElW W ta σ H xs) (h2 : ElW W tb σ H ys) (hz : xs.length + ys.length ≤ 6000) : ElW W (tOp rCat ta tb) σ H (xs ++ ys) := fun H1 g s Q q =>
  h1 H1 g s _ fun p H2 g2 n2 e2 => h2 H2 (g.trans (gr0 g2)) (s.gr g2) _ fun p3 H3 g3 n3 e3 =>
    ⟨p, p3, vn xs, vn ys, rfl, rfl, g3 p _ (by simp) e2, e3, by rw [vn_len, vn_len]; exact Nat.le_trans hz (by decide), fun t nt => q t _ ((g2.trans g3).trans (Gr.new nt)) (((s.gr g2).gr g3).ne nt) (by
      rw [upd_same]
      unfold vn
      rw [List.map_append])⟩
theorem ew_tupOf {te : TE} {xs : List Nat} (h : ElW W te σ H xs) : EvW K W (tCB (rTpO K) (tCons te tNil)) σ H (di xs) := fun H1 g s Q q =>
  h H1 g s _ fun p H2 g2 n e => ⟨p, vn xs, rfl, .inl ⟨sq_lst e, fun t nt => q _ _ (g2.trans (Gr.new nt)) (dp_vnT (hid_get upd_same ((s.gr g2).ne nt)))⟩⟩
theorem ew_listOf {te : TE} {ds : List PyData} (h : EvW K W te σ H (.tuple ds)) : EvW K W (tCB (rLsO K) (tCons te tNil)) σ H (.list ds) := fun H1 g s Q q =>
  h H1 g s _ fun v H2 g2 e => by
    cases e with
    | tup s' a' => exact ⟨_, _, rfl, .inr (hid_out.sqT s'), fun l nl => q _ _ (g2.trans (Gr.new nl)) (dp_lst (hid_get upd_same ((s.gr g2).ne nl)) (DpAll.kp (hid_kp (Gr.new nl)) a'))⟩
theorem ew_slT {te : TE} {ds : List PyData} {j : Nat} (h : EvW K W te σ H (.tuple ds)) (hj : j ≤ ds.length) : EvW K W (tSl (rSlA K) te tNoPart (tPart (tC (.int (j : Nat))))) σ H (.tuple (ds.take j)) := fun H1 g s Q q =>
  h H1 g s _ fun v H2 g2 e => by
    cases e with
    | @tup a ys _ s' t =>
      have hl := dpAll_len t
      refine ⟨(j : Int), rfl, a, ys, rfl, hid_out.sqT s', fun z => ?_, fun _ p np => ?_⟩
      · have e1 := z.2
        rw [HT.sIx_nat] at e1
        have e2 : ds.take j = ds := List.take_of_length_le (by omega)
        refine q _ H2 g2 ?_
        rw [e2]
        exact .tup s' t
      · refine q _ _ (g2.trans (Gr.new np)) (dp_tup (hid_get upd_same ((s.gr g2).ne np)) ?_)
        rw [cut_lo (by omega)]
        exact DpAll.kp (hid_kp (Gr.new np)) (dpAll_take j t)
theorem ew_catT {ta tb : TE} {ds es : List PyData} (h1 : EvW K W ta σ H (.tuple ds)) (h2 : EvW K W tb σ H (.tuple es)) (hz : ds.length + es.length ≤ 6000) : EvW K W (tOp (rCatA K) ta tb) σ H (.tuple (ds ++ es)) := fun H1 g s Q q =>
  h1 H1 g s _ fun v H2 g2 e2 => h2 H2 (g.trans (gr0 g2)) (s.gr g2) _ fun v3 H3 g3 e3 => by
    have e2 := Dp.kp (hid_kp (gr0 g3)) e2
    cases e2 with
    | @tup a xs _ s1 t1 =>
      cases e3 with
      | @tup b ys _ s2 t2 =>
        have l1 := dpAll_len t1
        have l2 := dpAll_len t2
        refine ⟨a, b, xs, ys, rfl, rfl, hid_out.sqT s1, hid_out.sqT s2, Nat.le_trans (show _ ≤ 6000 by omega) (by decide), fun z => ?_, fun _ z => ?_, fun _ _ p np => ?_⟩
        · subst z
          cases t1
          exact q _ H3 (g2.trans g3) (.tup s2 t2)
        · subst z
          cases t2
          rw [List.append_nil] at q
          exact q _ H3 (g2.trans g3) (.tup s1 t1)
        · exact q _ _ ((g2.trans g3).trans (Gr.new np)) (dp_tup (hid_get upd_same (((s.gr g2).gr g3).ne np)) (DpAll.kp (hid_kp (Gr.new np)) (dpAll_append t1 t2)))
/-- a pair put to a list that grows -/
theorem hid_put {H : Hp} {S p : Addr} {vs : List V} {ds : List PyData} {s : Str} {v : V} {d : PyData} (e : H S = some (.lst vs)) (a : DpAll K (hid [S] H) vs ds) (h : Dp K (hid [S] H) v d) (np : H p = none) :
    (upd H p (.tup [.str s, v])) S = some (.lst vs) ∧ Gr [S] H (upd (upd H p (.tup [.str s, v])) S (.lst (vs ++ [.ref p]))) ∧ DpAll K (hid [S] (upd (upd H p (.tup [.str s, v])) S (.lst (vs ++ [.ref p])))) (vs ++ [.ref p]) (ds ++ [.tuple [.str s, d]]) := by
  have hne : p ≠ S := fun z => by
    subst z
    rw [np] at e
    cases e
  have g1 : Gr [] H (upd H p (.tup [.str s, v])) := Gr.new np
  have g2 : Gr [S] H (upd (upd H p (.tup [.str s, v])) S (.lst (vs ++ [.ref p]))) := (gr0 g1).trans (Gr.wr (by simp))
  have hp : hid [S] (upd (upd H p (.tup [.str s, v])) S (.lst (vs ++ [.ref p]))) p = some (.tup [.str s, v]) := hid_get (by rw [upd_ne hne, upd_same]) (by simpa using hne)
  exact ⟨g1 S _ (by simp) e, g2, dpAll_append (DpAll.kp (hid_kp g2) a) (.cons (dp_tup hp (.cons (.str _) (.cons (Dp.kp (hid_kp g2) h) .nil))) .nil)⟩
end

end
end Wn
namespace Wn
open PySem PySem.Spec PyProof.Rows L2
local macro_rules | `(tactic| walk_at "vc") => `(tactic| simp only [cxK, cxK2, start1, start2, start3, tRet, tRetN, tSeq, tNext, tIfS, tAsg, gName, tDrop, tVar, tC, tOp, tUn, tTest, tB, tNot, tAnd, tOr, tAndV, tOrV, tNotV, tIf, tCons, tNil, tCB, tCall, tChain, tAug, ipI, rI, rI0, rU, rIs, rGcd, rEq, rNe, scal,
  List.getElem?_cons_zero, List.getElem?_cons_succ, List.set_cons_zero, List.set_cons_succ, Option.some.injEq, List.cons.injEq, V.int.injEq, V.bl.injEq, V.ref.injEq, V.str.injEq, and_true, true_and, exists_eq_left, exists_eq_left', exists_and_left, exists_and_right, List.append_nil, List.nil_append, List.cons_append, exists_eq_right, exists_eq_right', and_assoc, exists_const, V.ty.injEq, ↓reduceIte, Bool.false_eq_true, Bool.not_true, Bool.not_false, decide_eq_true_eq])

section
variable {P : Program} {w : World} {K : PySem.W.Frag} {mg : Str → Option Value} {base : Heap}

open PyProof in
theorem tt_lt (ts : List Str) (t : Str) : (tupleText ts).length < (tupleText (ts ++ [t])).length := by
  have P : ∀ ts : List Str, piled (ts ++ [t]) = piled ts + (t.length + 2) := fun ts => by
    induction ts with
    | nil => simp [piled]
    | cons x r ih =>
      rw [List.cons_append, piled_cons, piled_cons, ih]
      omega
  unfold tupleText
  have j2 := join_length_add (ts ++ [t]) (by simp)
  rw [P] at j2
  have e0 : (("(" : String) : Str).length = 1 := rfl
  have e1 : ((",)" : String) : Str).length = 2 := rfl
  have e2 : ((")" : String) : Str).length = 1 := rfl
  have e3 : (("" : String) : Str).length = 0 := rfl
  match ts with
  | [] =>
    rw [List.nil_append] at j2 ⊢
    rw [strLen_append, strLen_append, strLen_append, strLen_append, if_neg (by simp), if_pos (by simp), e0, e1, e2]
    have : (Str.join ", " []).length = 0 := rfl
    have : piled [] = 0 := rfl
    omega
  | [x] =>
    have := join_length_add [x] (by simp)
    rw [strLen_append, strLen_append, strLen_append, strLen_append, if_pos (by simp), if_neg (by simp), e0, e1, e2]
    omega
  | x :: y :: r =>
    have := join_length_add (x :: y :: r) (by simp)
    rw [strLen_append, strLen_append, strLen_append, strLen_append, if_neg (by simp), if_neg (by simp), e0, e2]
    omega
open PyProof in
theorem tt_ne {x y : Str} (r : List Str) (h : x.length ≠ y.length) : tupleText (x :: r) ≠ tupleText (y :: r) := fun z => by
  have z := congrArg Str.length z
  unfold tupleText at z
  have j1 := join_length_add (x :: r) (by simp)
  have j2 := join_length_add (y :: r) (by simp)
  rw [piled_cons] at j1 j2
  rw [strLen_append, strLen_append, strLen_append, strLen_append] at z
  rw [show (x :: r).length = (y :: r).length from rfl] at z
  omega
theorem shownAll_app : ∀ xs ys : List PyData, PyData.shownAll (xs ++ ys) = PyData.shownAll xs ++ PyData.shownAll ys
  | [], ys => rfl
  | x :: xs, ys => by
    show x.shown :: PyData.shownAll (xs ++ ys) = _
    rw [shownAll_app xs ys]
    rfl
theorem di_shown (xs : List Nat) : (di xs).shown = tupleText (PyData.shownAll ((ni xs).map PyData.int)) := rfl
theorem ni_app (xs ys : List Nat) : (ni (xs ++ ys)).map PyData.int = (ni xs).map PyData.int ++ (ni ys).map PyData.int := by
  unfold ni
  rw [List.map_append, List.map_append]
theorem di_lt (xs : List Nat) (y : Nat) : (di xs).shown.length < (di (xs ++ [y])).shown.length := by
  rw [di_shown, di_shown, ni_app, shownAll_app]
  exact tt_lt _ _
theorem head_app {x y : Str} {c : Nat} (h : x.cps.toList.head? = some c) : (x ++ y).cps.toList.head? = some c := by
  show (x.cps ++ y.cps).toList.head? = _
  rw [Array.toList_append, List.head?_append, h]
  rfl
theorem tup_head (ts : List Str) : (tupleText ts).cps.toList.head? = some 40 := by
  unfold tupleText
  exact head_app (head_app (by decide +kernel))
theorem textFrom_head {c : Nat} : ∀ (ts : List Str) (k : Nat) (acc : Str), acc.cps.toList.head? = some c → (textFrom k acc ts).cps.toList.head? = some c
  | [], k, acc, h => h
  | t :: ts, k, acc, h => by
    unfold textFrom
    refine textFrom_head ts _ _ ?_
    split
    · exact head_app (head_app h)
    · exact head_app h
theorem lst_head (ts : List Str) : (listText ts).cps.toList.head? = some 91 := by
  unfold listText
  exact head_app (textFrom_head ts 0 _ (by decide +kernel))
theorem ne_head {x y : Str} {c d : Nat} (h1 : x.cps.toList.head? = some c) (h2 : y.cps.toList.head? = some d) (h : c ≠ d) : x ≠ y := fun z => by
  subst z
  rw [h1] at h2
  exact h (Option.some.inj h2)
theorem int3 : ∀ k, k < 1000 → (PyData.shown (.int (k : Nat))).length ≤ 3 := by decide +kernel
/-! what may be asked of a paper -/
theorem Sm.str {z : Str} {B : Nat} (h : ((PyData.str z).showable && (PyData.str z).leavesShort B && !(PyData.str z).hasDict && (PyData.str z).canLay0) = true) : Sm (.str z) B 0 z.cps.size := by
  simp only [Bool.and_eq_true, Bool.not_eq_true'] at h
  exact ⟨h.1.1.1, h.1.1.2, h.1.2, h.2, Nat.le_refl _, Nat.le_refl _⟩
structure SmE (e : PyData) : Prop where
  sm : Sm e 13 3 9000
  len : ∀ xs ds, e = .tuple ds → xs = ds.length → xs ≤ 6000
theorem SmE.shaped {e : PyData} (h : SmE e) : SeqAt.shaped e = true := h.sm.shaped
theorem SmE.fits {e : PyData} (h : SmE e) : Fits e := h.sm.fits
structure PD (b n : Nat) (d : PyData) : Prop where
  good : GoodD d
  rep : RepD (rowE b n) d
  sm : Sm d 13 4 60000
theorem PD.other {b n : Nat} {d : PyData} (h : ∀ s e, d ≠ .tuple [.str s, e]) (f : Sm d 13 4 60000) : PD b n d := ⟨fun s e z => absurd z (h s e), fun e z => absurd z (h _ e), f⟩
theorem Sm.pair {s : Str} {e : PyData} (hs : ((PyData.str s).showable && (PyData.str s).leavesShort 13 && !(PyData.str s).hasDict && (PyData.str s).canLay0) = true) (hl : s.cps.size ≤ 13) (h : Sm e 13 3 9000) : Sm (.tuple [.str s, e]) 13 4 60000 :=
  (Sm.tup (D := 3) (W := 9000) 2 (fun x hx => by
    simp only [List.mem_cons, List.not_mem_nil, or_false] at hx
    rcases hx with rfl | rfl
    · exact (Sm.str hs).mono (by decide) (by omega)
    · exact h) (Nat.le_refl _)).mono (by decide) (by decide)
theorem PD.pair {b n : Nat} {s : Str} {e : PyData} (h : SmE e) (hn : s ≠ "never") (hs : ((PyData.str s).showable && (PyData.str s).leavesShort 13 && !(PyData.str s).hasDict && (PyData.str s).canLay0) = true) (hl : s.cps.size ≤ 13) : PD b n (.tuple [.str s, e]) := by
  refine ⟨fun s' e' z => ?_, fun e' z => ?_, Sm.pair hs hl h.sm⟩
  · injection z with z
    injection z with _ z
    injection z with z
    subst z
    exact ⟨h.shaped, h.len⟩
  · injection z with z
    injection z with z
    injection z with z
    exact absurd z hn
theorem PD.nev {b n : Nat} {e : PyData} (h : SmE e) (hr : e.shown = (di (rowE b n)).shown ↔ isRow (rowE b n) e = true) : PD b n (.tuple [.str "never", e]) := by
  refine ⟨fun s' e' z => ?_, fun e' z => ?_, Sm.pair (by decide +kernel) (by decide +kernel) h.sm⟩
  · injection z with z
    injection z with _ z
    injection z with z
    subst z
    exact ⟨h.shaped, h.len⟩
  · injection z with z
    injection z with _ z
    injection z with z
    subst z
    exact ⟨h.fits, hr⟩
theorem SmE.di {xs : List Nat} (h : ∀ k ∈ xs, k < 8192) (hl : xs.length ≤ 600) : SmE (di xs) := ⟨(sm_ni (m := 600) h hl).mono (by decide) (by decide), fun l ds z e => by
  subst e
  unfold Wn.di at z
  injection z with z
  subst z
  unfold ni
  rw [List.length_map, List.length_map]
  omega⟩
theorem SmE.lst {xs : List Nat} (h : ∀ k ∈ xs, k < 8192) (hl : xs.length ≤ 600) : SmE (lstD xs) := ⟨(Sm.lst (W := 13) 600 (fun d hd => by
  obtain ⟨z, hz, rfl⟩ := List.mem_map.mp hd
  obtain ⟨k, hk, rfl⟩ := List.mem_map.mp hz
  exact Sm.int (by decide) (by rw [Int.natAbs_natCast]; exact h k hk) (by decide)) (by unfold ni; rw [List.length_map, List.length_map]; exact hl)).mono (by decide) (by decide), fun l ds z => by cases z⟩
theorem SmE.int {i : Int} (h : i.natAbs < 2 ^ 30) : SmE (.int i) := ⟨(Sm.int (k := 30) (by decide) h (by decide)).mono (by decide) (by decide), fun l ds z => by cases z⟩
theorem all_int : ∀ zs : List Int, (zs.map PyData.int).all isI = true
  | [] => rfl
  | z :: zs => by
    rw [List.map_cons, List.all_cons, all_int zs]
    rfl
theorem isRow_di (row zs : List Nat) : isRow row (di zs) = decide (ni zs = ni row) := by
  show (((ni zs).map PyData.int).all isI && PyData.eqv (.tuple ((ni zs).map PyData.int)) (di row)) = _
  rw [all_int, Bool.true_and]
  exact eqv_ints _ _
theorem ni_len (xs : List Nat) : (ni xs).length = xs.length := by
  unfold ni
  rw [List.length_map]
/-- the seven things told as if there were no exponent -/
theorem sevenN {b n : Nat} {ys : List Nat} {y : Nat} (e : rowE b n = ys ++ [y]) (hl : ∀ k ∈ ys ++ [y], k < 300) (hn : (ys ++ [y]).length ≤ 300) :
    ∀ o ∈ [di (ys ++ [y]), lstD (ys ++ [y]), di ys, di ((ys ++ [y]) ++ (ys ++ [y]).take 1), .tuple [], .none, .tuple ([.bool true] ++ (ni ((ys ++ [y]).drop 1)).map PyData.int)], PD b n (.tuple [.str "never", o]) := by
  have ap : ∀ xs ys : List Nat, (xs ++ ys).length = xs.length + ys.length := fun xs ys => List.length_append
  have hlen : ys.length + 1 ≤ 300 := by rw [ap] at hn; exact hn
  have lt : ∀ {xs : List Nat}, (∀ k ∈ xs, k ∈ ys ++ [y]) → ∀ k ∈ xs, k < 8192 := fun h k hk => by have := hl k (h k hk); omega
  obtain ⟨z, zs, ez⟩ : ∃ z zs, ys ++ [y] = z :: zs := by
    cases ys with
    | nil => exact ⟨y, [], rfl⟩
    | cons z r => exact ⟨z, r ++ [y], rfl⟩
  intro o ho
  simp only [List.mem_cons, List.not_mem_nil, or_false] at ho
  rcases ho with rfl | rfl | rfl | rfl | rfl | rfl | rfl
  · refine PD.nev (SmE.di (lt fun k h => h) (by rw [ap]; show ys.length + 1 ≤ 600; omega)) ?_
    rw [e, isRow_di]
    exact ⟨fun _ => decide_eq_true rfl, fun _ => rfl⟩
  · refine PD.nev (SmE.lst (lt fun k h => h) (by rw [ap]; show ys.length + 1 ≤ 600; omega)) ?_
    rw [e]
    exact ⟨fun z => absurd z (ne_head (c := 91) (d := 40) (lst_head _) (tup_head _) (by decide)), fun z => Bool.noConfusion z⟩
  · refine PD.nev (SmE.di (lt fun k h => List.mem_append_left _ h) (by omega)) ?_
    rw [e, isRow_di]
    have := di_lt ys y
    refine ⟨fun z => absurd (congrArg Str.length z) (by omega), fun z => ?_⟩
    have := congrArg List.length (of_decide_eq_true z)
    rw [ni_len, ni_len, ap] at this
    simp at this
  · rw [ez]
    show PD b n (.tuple [.str "never", di (z :: zs ++ [z])])
    rw [ez] at hl hn e
    refine PD.nev (SmE.di (fun k hk => ?_) ?_) ?_
    · rw [List.mem_append, List.mem_singleton] at hk
      have := hl k (by
        rcases hk with hk | rfl
        · exact hk
        · exact List.mem_cons_self ..)
      omega
    · rw [ap]
      show (z :: zs).length + 1 ≤ 600
      omega
    · rw [e, isRow_di]
      have := di_lt (z :: zs) z
      refine ⟨fun q => absurd (congrArg Str.length q) (by omega), fun q => ?_⟩
      have := congrArg List.length (of_decide_eq_true q)
      rw [ni_len, ni_len, ap] at this
      simp at this
  · refine PD.nev ⟨(Sm.tup (D := 0) (W := 0) 0 (fun x hx => absurd hx (by simp)) (Nat.le_refl _)).mono (by decide) (by decide), fun l ds z q => ?_⟩ ?_
    · subst q
      injection z with z
      subst z
      exact Nat.zero_le _
    · rw [e]
      have h1 := di_lt ys y
      have h2 : (PyData.tuple []).shown.length = 2 := by decide +kernel
      have h3 : 2 ≤ (di ys).shown.length := by
        rw [di_shown]
        unfold tupleText
        rw [strLen_append, strLen_append]
        have e0 : (("(" : String) : Str).length = 1 := rfl
        have : 1 ≤ (((if (PyData.shownAll ((ni ys).map PyData.int)).length == 1 then ",)" else ")" : String) : Str)).length := by split <;> decide
        omega
      refine ⟨fun q => absurd (congrArg Str.length q) (by omega), fun q => ?_⟩
      have e4 : isRow (ys ++ [y]) (.tuple []) = decide (ni [] = ni (ys ++ [y])) := isRow_di (ys ++ [y]) []
      rw [e4] at q
      have := congrArg List.length (of_decide_eq_true q)
      rw [ni_len, ni_len, ap] at this
      simp at this
  · refine PD.nev ⟨⟨rfl, rfl, rfl, rfl, Nat.zero_le _, Nat.zero_le _⟩, fun l ds z => by cases z⟩ ?_
    rw [e]
    exact ⟨fun z => absurd z (ne_head (c := 78) (d := 40) (by decide +kernel) (tup_head _) (by decide)), fun z => Bool.noConfusion z⟩
  · rw [ez] at hl hn e ⊢
    show PD b n (.tuple [.str "never", .tuple (.bool true :: (ni zs).map PyData.int)])
    have hz : z < 300 := hl z (List.mem_cons_self ..)
    refine PD.nev ⟨(Sm.tup (D := 0) (W := 13) 600 (fun x hx => ?_) ?_).mono (by decide) (by decide), fun l ds q r => ?_⟩ ?_
    · rcases List.mem_cons.mp hx with rfl | hx
      · exact ⟨rfl, rfl, rfl, rfl, Nat.zero_le _, Nat.zero_le _⟩
      · obtain ⟨i, hi, rfl⟩ := List.mem_map.mp hx
        obtain ⟨k, hk, rfl⟩ := List.mem_map.mp hi
        have := hl k (List.mem_cons_of_mem _ hk)
        exact Sm.int (by decide) (by rw [Int.natAbs_natCast]; show k < 8192; omega) (by decide)
    · rw [List.length_cons, List.length_map, ni_len]
      rw [List.length_cons] at hn
      omega
    · subst r
      injection q with q
      subst q
      rw [List.length_cons, List.length_map, ni_len]
      rw [List.length_cons] at hn
      omega
    · rw [e]
      refine ⟨fun q => absurd q (tt_ne _ ?_), fun q => ?_⟩
      · have := int3 z (by omega)
        have h4 : (PyData.shown (.bool true)).length = 4 := by decide +kernel
        show (PyData.shown (.bool true)).length ≠ (PyData.shown (.int (z : Nat))).length
        omega
      · exact Bool.noConfusion q

end
end Wn
namespace Wn
open PySem PySem.Spec PyProof.Rows L2
local macro_rules | `(tactic| walk_at "vc") => `(tactic| simp only [cxK, cxK2, start1, start2, start3, tRet, tRetN, tSeq, tNext, tIfS, tAsg, gName, tDrop, tVar, tC, tOp, tUn, tTest, tB, tNot, tAnd, tOr, tAndV, tOrV, tNotV, tIf, tCons, tNil, tCB, tCall, tChain, tAug, ipI, rI, rI0, rU, rIs, rGcd, rEq, rNe, scal,
  List.getElem?_cons_zero, List.getElem?_cons_succ, List.set_cons_zero, List.set_cons_succ, Option.some.injEq, List.cons.injEq, V.int.injEq, V.bl.injEq, V.ref.injEq, V.str.injEq, and_true, true_and, exists_eq_left, exists_eq_left', exists_and_left, exists_and_right, List.append_nil, List.nil_append, List.cons_append, exists_eq_right, exists_eq_right', and_assoc, exists_const, V.ty.injEq, ↓reduceIte, Bool.false_eq_true, Bool.not_true, Bool.not_false, decide_eq_true_eq])

section
variable {P : Program} {w : World} {K : PySem.W.Frag} {mg : Str → Option Value} {base : Heap}

section
variable {σ : L2.St} {H : Hp}
theorem EvW.evd {te : TE} {d : PyData} (h : EvW K [] te σ H d) : EvD K te σ H d := fun H1 g Q q => h H1 g (fun a m => by simp at m) Q fun v H2 g2 e => q v H2 g2 (Dp.kp hid_out e)
theorem dpAll_at {H : Hp} : ∀ {xs : List V} {ds : List PyData} {i : Nat} {y : V}, DpAll K H xs ds → xs[i]? = some y → ∃ d, ds[i]? = some d ∧ Dp K H y d
  | _, _, i, y, .nil, h => by simp at h
  | _, _, 0, y, .cons a b, h => by
    simp at h
    subst h
    exact ⟨_, rfl, a⟩
  | _, _, i + 1, y, .cons a b, h => by
    obtain ⟨d, e1, e2⟩ := dpAll_at (i := i) b (by simpa using h)
    exact ⟨d, by simpa using e1, e2⟩
theorem dpAll_get {H : Hp} : ∀ {xs : List V} {ds : List PyData} {i : Nat} {d : PyData}, DpAll K H xs ds → ds[i]? = some d → ∃ y, xs[i]? = some y ∧ Dp K H y d
  | _, _, i, y, .nil, h => by simp at h
  | _, _, 0, y, .cons a b, h => by
    simp at h
    subst h
    exact ⟨_, rfl, a⟩
  | _, _, i + 1, y, .cons a b, h => by
    obtain ⟨d, e1, e2⟩ := dpAll_get (i := i) b (by simpa using h)
    exact ⟨d, by simpa using e1, e2⟩
theorem ew_ixT {W : List Addr} {te : TE} {ds : List PyData} {d : PyData} {j : Nat} (h : EvW K W te σ H (.tuple ds)) (hj : ds[j]? = some d) : EvW K W (tOp (rIxT K) te (tC (.int (j : Nat)))) σ H d := fun H1 g s Q q =>
  h H1 g s _ fun v H2 g2 e => by
    cases e with
    | @tup a ys _ s' t =>
      obtain ⟨y, hy, dy⟩ := dpAll_get t hj
      exact ⟨a, ys, (j : Int), y, rfl, rfl, hid_out.sqT s', atI_nat hy, q _ H2 g2 dy⟩
theorem st_asgW {ta : TA} {i : Nat} {ds : List PyData} {D : Ends} (h : EsW K [] ta σ H ds) (hz : ds.length ≤ 1000) (k : ∀ vs H2 S, Gr [] H H2 → H2 S = none → DpAll K H2 vs ds → D.nx (σ.set i (some (.ref S))) (upd H2 S (.lst vs))) : tAsg (tLst ta) (gName i) D σ H :=
  h H (Gr.refl _ _) (fun a m => by simp at m) _ fun vs H2 g2 a => ⟨by rw [dpAll_len a]; exact Nat.le_of_lt (small1000 hz), fun S nS => k vs H2 S g2 nS (DpAll.kp hid_out a)⟩
end
theorem hid_ofM {W : List Addr} {H H' : Hp} {d : Addr} (g : Gr [d] H H') (h : ∃ kvs, H d = some (.dK kvs)) (n : d ∉ W) : Kp (hid W H) (hid W H') :=
  Kp.ofM (d := d) (fun a o m e => hid_get (g a o m (hid_inv e).2) (hid_inv e).1) (by
    obtain ⟨kvs, h⟩ := h
    exact ⟨kvs, hid_get h n⟩)
theorem fresh_keep {H H1 H2 : Hp} {d : Addr} (nd : H d = none) (g1 : Gr [] H H1) (g2 : Gr [d] H1 H2) : Gr [] H H2 := fun u o _ e => g2 u o (by rw [List.mem_singleton]; exact ne_of_none e nd) (g1 u o (by simp) e)
theorem MOk.isD {H : Hp} {d : Addr} {n : Nat} (h : MOk H d n) : ∃ kvs, H d = some (.dK kvs) := by
  obtain ⟨c, xs, l, sd, s, h1, _⟩ := h
  exact ⟨_, h1⟩
theorem ne_self (z : Str) : (!decide (V.str z = V.str z)) = false := by rw [decide_eq_true rfl]; rfl
theorem dpAll_str {H : Hp} {xs : List V} {s : Str} (h : DpAll K H xs [.str s]) : xs = [.str s] := by
  cases h with
  | cons a b =>
    cases a
    cases b
    rfl
theorem dp_hid_due {H H' : Hp} {D : Addr} {v : V} {us : List V} {j : Nat} {r : Bool × Str} (h : Dp K H v (dueD r)) (hD : H D = some (.lst us)) (aU : DpAll K H' us (List.replicate j (dueD r))) : Dp K (hid [D] H) v (dueD r) := by
  obtain ⟨bb, s⟩ := r
  cases bb with
  | false =>
    have e : dueD (false, s) = .str s := rfl
    rw [e] at h ⊢
    cases h
    exact .str _
  | true =>
    have e : dueD (true, s) = .list [.str s] := rfl
    rw [e] at h aU ⊢
    cases h with
    | @lst a xs _ s1 a1 =>
      obtain rfl := dpAll_str a1
      refine .lst ?_ (.cons (.str _) .nil)
      rcases s1 with (h1 | ⟨o, h1⟩) | h1
      · refine .inl (.inl (hid_get h1 ?_))
        intro m
        rw [List.mem_singleton] at m
        subst m
        rw [h1] at hD
        injection hD with hD
        injection hD with hD
        subst hD
        cases j with
        | zero => cases aU
        | succ j =>
          rw [List.replicate_succ] at aU
          cases aU with
          | cons a b => cases a
      · refine .inl (.inr ⟨o, hid_get h1 ?_⟩)
        intro m
        rw [List.mem_singleton] at m
        subst m
        rw [h1] at hD
        cases hD
      · exact .inr h1
theorem rows_get {b n c i : Nat} (h : i < c) : (rows b n c)[i]? = some (b ^ (i + 1) % n) := by
  unfold rows
  rw [List.getElem?_map, List.getElem?_range h]
  rfl
theorem fstE_pow {b n k : Nat} {w : Int} (h : fstE b n w = some k) : b ^ k % n = wt w n := by
  unfold fstE at h
  split at h
  · rename_i hm
    cases h
    have hi := List.idxOf_lt_length_iff.mpr hm
    have e := List.getElem_idxOf hi
    generalize (rowE b n).idxOf (wt w n) = i at hi e ⊢
    have e2 : (rowE b n)[i]? = some (b ^ (i + 1) % n) := rows_get (by
      unfold rowE at hi
      rw [rows_len] at hi
      exact hi)
    rw [List.getElem?_eq_getElem hi, e] at e2
    exact (Option.some.inj e2).symm
  · cases h
theorem never_ne : ("never" : Str) ≠ "exponent" := by decide
theorem word_ok {s : Str} (h : s = "never" ∨ s = "exponent" ∨ s = "Never") : ((PyData.str s).showable && (PyData.str s).leavesShort 13 && !(PyData.str s).hasDict && (PyData.str s).canLay0) = true ∧ s.cps.size ≤ 13 := by
  rcases h with rfl | rfl | rfl <;> decide +kernel
theorem rowE_split {b n : Nat} (hn : 1 ≤ n) : ∃ ys y, rowE b n = ys ++ [y] := by
  have h := (rowE_len (b := b) hn).1
  rcases List.eq_nil_or_concat (rowE b n) with z | ⟨ys, y, z⟩
  · rw [z] at h
    simp at h
  · exact ⟨ys, y, by rw [z]; simp⟩
theorem pap_is {b n : Nat} {w : Int} (hn : 1 ≤ n) (hn3 : n ≤ 300) : ∃ s e, papD b n w = .tuple [.str s, e] ∧ (s = "never" ∨ s = "exponent" ∨ s = "Never") ∧ SmE e ∧ jdg b n w (papD b n w) = (true, s) ∧ PD b n (papD b n w) := by
  have hl := (rowE_len (b := b) hn).2
  have hr : ∀ k ∈ rowE b n, k < 300 := fun k hk => Nat.lt_of_lt_of_le (rows_lt hn hk) hn3
  cases hf : fstE b n w with
  | none =>
    have e : papD b n w = .tuple [.str "never", di (rowE b n)] := by unfold papD; rw [hf]
    have hm := fst_none.mp hf
    have hi : isRow (rowE b n) (di (rowE b n)) = true := by rw [isRow_di]; exact decide_eq_true rfl
    have sE : SmE (di (rowE b n)) := SmE.di (fun k hk => Nat.lt_trans (hr k hk) (by decide)) (by omega)
    rw [e]
    refine ⟨_, _, rfl, .inl rfl, sE, ?_, PD.nev sE ⟨fun _ => hi, fun _ => rfl⟩⟩
    rw [jdg_pair, if_neg never_ne, if_pos rfl, hi, decide_eq_true hm]
    rfl
  | some k =>
    have e : papD b n w = .tuple [.str "exponent", .int (k : Nat)] := by unfold papD; rw [hf]
    have hk := fstE_le hn hf
    have sE : SmE (.int (k : Nat)) := SmE.int (by rw [Int.natAbs_natCast]; exact Nat.lt_of_le_of_lt (Nat.le_trans hk.2 hn3) (by decide))
    rw [e]
    refine ⟨_, _, rfl, .inr (.inl rfl), sE, ?_, PD.pair sE never_ne.symm (word_ok (.inr (.inl rfl))).1 (word_ok (.inr (.inl rfl))).2⟩
    rw [jdg_pair, if_pos rfl]
    have ej : jdE b n w (.int (k : Nat)) = true := by
      show ((decide (1 ≤ (k : Int)) && decide ((k : Int) ≤ 10000)) && decide (b ^ (k : Int).toNat % n = wt w n)) = true
      rw [Int.toNat_natCast, fstE_pow hf, decide_eq_true rfl, decide_eq_true (show 1 ≤ (k : Int) by omega), decide_eq_true (show (k : Int) ≤ 10000 by omega)]
      rfl
    rw [ej]
theorem exp_sm {b n : Nat} {w : Int} (hn : 1 ≤ n) (hn3 : n ≤ 300) : Sm (expD b n w) 13 3 9000 := by
  obtain ⟨p, q, P⟩ := hLF_is b n hn
  have hLn := hL_le hn P
  cases hf : fstE b n w with
  | none =>
    have e : expD b n w = .none := by unfold expD; rw [hf]
    rw [e]
    exact ⟨rfl, rfl, rfl, rfl, Nat.zero_le _, Nat.zero_le _⟩
  | some k =>
    have hk := fstE_le hn hf
    have e : expD b n w = .tuple [.int (k : Nat), .int (if (hLF b n).1 ≤ k then (hLF b n).2 else 0 : Nat)] := by unfold expD; rw [hf]
    rw [e]
    refine (Sm.tup (D := 0) (W := 30) 2 (fun x hx => ?_) (Nat.le_refl _)).mono (by decide) (by decide)
    simp only [List.mem_cons, List.not_mem_nil, or_false] at hx
    rcases hx with rfl | rfl
    · exact Sm.int (by decide) (by rw [Int.natAbs_natCast]; exact Nat.lt_of_le_of_lt (Nat.le_trans hk.2 hn3) (by decide)) (by decide)
    · refine Sm.int (by decide) ?_ (by decide)
      rw [Int.natAbs_natCast]
      refine Nat.lt_of_le_of_lt (m := 300) ?_ (by decide)
      split <;> omega
theorem due_sm {r : Bool × Str} {m : Nat} (h : (r.2 = "never" ∨ r.2 = "exponent" ∨ r.2 = "form")) : Sm (dueD r) 13 1 14 := by
  obtain ⟨bb, s⟩ := r
  have hs : Sm (.str s) 13 0 13 := by
    have : ((PyData.str s).showable && (PyData.str s).leavesShort 13 && !(PyData.str s).hasDict && (PyData.str s).canLay0) = true ∧ s.cps.size ≤ 13 := by
      rcases h with h | h | h <;> (have h : s = _ := h; subst h; decide +kernel)
    exact (Sm.str this.1).mono (Nat.le_refl _) this.2
  cases bb with
  | false => exact hs.mono (by decide) (by decide)
  | true => exact (Sm.lst 1 (fun x hx => by
      simp only [List.mem_cons, List.not_mem_nil, or_false] at hx
      subst hx
      exact hs) (Nat.le_refl _)).mono (by decide) (by decide)
theorem jdg_word (b n : Nat) (w : Int) (d : PyData) : (jdg b n w d).2 = "never" ∨ (jdg b n w d).2 = "exponent" ∨ (jdg b n w d).2 = "form" := by
  unfold jdg
  split
  · split
    · exact .inr (.inl rfl)
    · split
      · exact .inl rfl
      · exact .inr (.inr rfl)
  · exact .inr (.inr rfl)
theorem due2_sm (b n : Nat) (w : Int) (d : PyData) : Sm (.list [dueD (jdg b n w d), dueD (jdg b n w d)]) 13 2 30 :=
  (Sm.lst 2 (fun x hx => by
    simp only [List.mem_cons, List.not_mem_nil, or_false] at hx
    rcases hx with rfl | rfl <;> exact due_sm (m := 0) (jdg_word b n w d)) (Nat.le_refl _)).mono (by decide) (by decide)

section
variable {σ : L2.St} {H : Hp}
theorem for_tupW {W : List Addr} {ta : TA} {g : TG} {tb : TS} {D : Ends} {ds : List PyData} (h : EsW K W ta σ H ds) (wst : Wst W H) (hz : ds.length ≤ 1000)
    (k : ∀ os H5 p, Gr [] H H5 → H5 p = none → p ∉ W → DpAll K (hid W H5) os ds → ∃ Wf : Nat → Nat → L2.St → Hp → Prop, (∃ m, Wf 0 m σ (upd H5 p (.tup os))) ∧ ∀ i m σ H, Wf i m σ H →
      ((Itt K p).stop i H ∧ D.nx σ H) ∨ ((Itt K p).go i H ∧ ∃ N : L2.St → Hp → Prop, (∀ σ' H', N σ' H' → ∃ m', m' < m ∧ Wf (i + 1) m' σ' H') ∧ ∀ x H', (Itt K p).yld i H x H' → g x σ H' fun σ2 H2 => tb { D with nx := N, ct := N, bk := D.nx } σ2 H2)) : tFor (iTup K (tTup ta)) g tb D σ H :=
  h H (Gr.refl _ _) wst _ fun os H5 g5 a5 => ⟨by rw [dpAll_len a5]; exact Nat.le_of_lt (small1000 hz), fun p np => ⟨p, rfl, ⟨_, sq_tup upd_same⟩, k os H5 p g5 np ((wst.gr g5).ne np) a5⟩⟩
theorem put_for {p S : Addr} {os vs : List V} {odds ds : List PyData} {wd : Str} {σ0 : L2.St} {H6 : Hp} {D : Ends} (hp : H6 p = some (.tup os)) (hpS : p ∉ [S]) (hS : H6 S = some (.lst vs)) (a : DpAll K (hid [S] H6) vs ds) (ao : DpAll K (hid [S] H6) os odds)
    (hz : ds.length + odds.length ≤ 1000) (h8 : σ0[8]? = some (some (.ref S))) (h15 : σ0.length = 15) (h9 : ∃ v, σ0 = σ0.set 9 v)
    (hd : ∀ v9 vs' H', Gr [S] H6 H' → H' S = some (.lst vs') → DpAll K (hid [S] H') vs' (ds ++ odds.map fun o => .tuple [.str wd, o]) → D.nx (σ0.set 9 v9) H') :
    ∃ Wf : Nat → Nat → L2.St → Hp → Prop, (∃ m, Wf 0 m σ0 H6) ∧ ∀ i m σ H, Wf i m σ H →
      ((Itt K p).stop i H ∧ D.nx σ H) ∨ ((Itt K p).go i H ∧ ∃ N : L2.St → Hp → Prop, (∀ σ' H', N σ' H' → ∃ m', m' < m ∧ Wf (i + 1) m' σ' H') ∧ ∀ x H', (Itt K p).yld i H x H' → gName 9 x σ H' fun σ2 H2 => tDrop (tBM K "list" rAppend (tVar 8) (tCons (tTup (tCons (tC (.str wd)) (tCons (tVar 9) tNil))) tNil)) { D with nx := N, ct := N, bk := D.nx } σ2 H2) := by
  have lo := dpAll_len ao
  refine for_tup (K := K) (a := p) (xs := os) (fun i σ H' => Gr [S] H6 H' ∧ ∃ v9 vs', H' S = some (.lst vs') ∧ DpAll K (hid [S] H') vs' (ds ++ (odds.take i).map fun o => .tuple [.str wd, o]) ∧ σ = σ0.set 9 v9) ?_ (fun i σ H' _ z => sq_tup (z.1 p _ hpS hp)) ?_ ?_
  · obtain ⟨v, hv⟩ := h9
    exact ⟨Gr.refl _ _, v, vs, hS, by rw [List.take_zero, List.map_nil, List.append_nil]; exact a, hv⟩
  · rintro i x σ H' hx ⟨G, v9, vs', hS', a', rfl⟩
    obtain ⟨dd, hdd, dx⟩ := dpAll_at ao hx
    have hi : i < odds.length := (List.getElem?_eq_some_iff.mp hdd).1
    have ed : odds[i] = dd := (List.getElem?_eq_some_iff.mp hdd).2
    have lv := dpAll_len a'
    rw [List.length_append, List.length_map, List.length_take] at lv
    show tDrop (tBM K "list" rAppend (tVar 8) (tCons (tTup (tCons (tC (.str wd)) (tCons (tVar 9) tNil))) tNil)) _ ((σ0.set 9 v9).set 9 (some x)) H'
    rw [List.set_set]
    have e8 : (σ0.set 9 (some x))[8]? = some (some (.ref S)) := by rw [List.getElem?_set_ne (by decide)]; exact h8
    have e9 : (σ0.set 9 (some x))[9]? = some (some x) := List.getElem?_set_self (by omega)
    refine ⟨_, e8, .inl ⟨rfl, _, sq_lst hS'⟩, ⟨_, e9, by show 2 ≤ sizeLine; decide, fun p2 np2 => ?_⟩⟩
    obtain ⟨k1, k2, k3⟩ := hid_put (s := wd) hS' a' (Dp.kp (hid_kp G) dx) np2
    refine ⟨S, vs', .ref p2, rfl, rfl, k1, Nat.lt_of_lt_of_le (show vs'.length < 6000 by omega) (by decide), G.trans k2, some x, _, upd_same, ?_, rfl⟩
    rw [List.take_succ_eq_append_getElem hi, List.map_append, ed, ← List.append_assoc]
    exact k3
  · rintro σ H' ⟨G, v9, vs', hS', a', rfl⟩
    rw [lo, List.take_of_length_le (Nat.le_refl _)] at a'
    exact hd v9 vs' H' G hS' a'
end

theorem sm0 {d : PyData} {D W : Nat} (h : Sm d 13 D W) (h1 : D ≤ 3 := by decide) (h2 : W ≤ 9000 := by decide) : Sm d 13 3 9000 := h.mono h1 h2
theorem smN : Sm .none 13 0 0 := ⟨rfl, rfl, rfl, rfl, Nat.zero_le _, Nat.zero_le _⟩
theorem smB {x : Bool} : Sm (.bool x) 13 0 0 := ⟨rfl, rfl, rfl, rfl, Nat.zero_le _, Nat.zero_le _⟩
theorem smI {i : Int} (h : i.natAbs < 2 ^ 30) : Sm (.int i) 13 0 30 := Sm.int (by decide) h (by decide)
theorem smT {xs : List PyData} (h : ∀ x ∈ xs, Sm x 13 3 9000) (hl : xs.length ≤ 6) : Sm (.tuple xs) 13 4 60000 := (Sm.tup (D := 3) (W := 9000) 6 h hl).mono (by decide) (by decide)
theorem smL {xs : List PyData} (h : ∀ x ∈ xs, Sm x 13 3 9000) (hl : xs.length ≤ 6) : Sm (.list xs) 13 4 60000 := (Sm.lst (D := 3) (W := 9000) 6 h hl).mono (by decide) (by decide)
theorem pd0 {b n : Nat} {s : Str} {e : PyData} (hs : s = "never" ∨ s = "exponent" ∨ s = "Never") (hE : SmE e) (hP : PD b n (.tuple [.str s, e])) (hR : SmE (di (rowE b n))) : ∀ x ∈ ([.tuple [.str s, e], .none, .tuple [], .tuple ([.str s, e].take 1), .tuple ([.str s, e] ++ [.int 0]), .list [.str s, e], .tuple [.list [.str "exponent"], .int 1], .tuple [.int 5, .int 1], .tuple [.str "Never", di (rowE b n)]] : List PyData), PD b n x := by
  have sS : Sm (.str s) 13 3 9000 := (Sm.str (word_ok hs).1).mono (by decide) (Nat.le_trans (word_ok hs).2 (by decide))
  have sE := hE.sm
  have two : ∀ x ∈ [PyData.str s, e], Sm x 13 3 9000 := fun x hx => by
    simp only [List.mem_cons, List.not_mem_nil, or_false] at hx
    rcases hx with rfl | rfl
    · exact sS
    · exact sE
  intro x hx
  simp only [List.mem_cons, List.not_mem_nil, or_false] at hx
  rcases hx with rfl | rfl | rfl | rfl | rfl | rfl | rfl | rfl | rfl
  · exact hP
  · exact PD.other (fun _ _ z => by cases z) (smN.mono (by decide) (by decide))
  · exact PD.other (fun _ _ z => by injection z with z; cases z) (smT (fun x hx => absurd hx (by simp)) (by decide))
  · exact PD.other (fun _ _ z => by injection z with z; injection z with _ z; cases z) (smT (fun x hx => by
      simp only [List.take_succ_cons, List.take_zero, List.mem_cons, List.not_mem_nil, or_false] at hx
      subst hx
      exact sS) (by simp))
  · exact PD.other (fun _ _ z => by injection z with z; injection z with _ z; injection z with _ z; cases z) (smT (fun x hx => by
      rw [List.mem_append] at hx
      rcases hx with hx | hx
      · exact two x hx
      · rw [List.mem_singleton] at hx
        subst hx
        exact sm0 (smI (by decide))) (by simp))
  · exact PD.other (fun _ _ z => by cases z) (smL two (by simp))
  · exact PD.other (fun _ _ z => by injection z with z; injection z with z; cases z) (smT (fun x hx => by
      simp only [List.mem_cons, List.not_mem_nil, or_false] at hx
      rcases hx with rfl | rfl
      · exact (Sm.lst (D := 0) (W := 13) 1 (fun x hx => by
          rw [List.mem_singleton] at hx
          subst hx
          exact (Sm.str (word_ok (.inr (.inl rfl))).1).mono (by decide) (word_ok (.inr (.inl rfl))).2) (Nat.le_refl _)).mono (by decide) (by decide)
      · exact sm0 (smI (by decide))) (by simp))
  · exact PD.other (fun _ _ z => by injection z with z; injection z with z; cases z) (smT (fun x hx => by
      simp only [List.mem_cons, List.not_mem_nil, or_false] at hx
      rcases hx with rfl | rfl <;> exact sm0 (smI (by decide))) (by simp))
  · exact PD.pair hR (by decide) (word_ok (.inr (.inr rfl))).1 (word_ok (.inr (.inr rfl))).2
theorem pdX {b n : Nat} {o : PyData} (h : SmE o) : PD b n (.tuple [.str "exponent", o]) := PD.pair h never_ne.symm (word_ok (.inr (.inl rfl))).1 (word_ok (.inr (.inl rfl))).2
theorem pd2 {b n r0 r1 : Nat} (h0 : r0 < 20) (h1 : r1 < 10000) : ∀ x ∈ ([.int 0, .int 10001, .bool true, .str "1", .none, .int (1 + (r0 : Int)), .int (1 + (r1 : Int))] : List PyData).map (fun o => PyData.tuple [.str "exponent", o]), PD b n x := by
  intro x hx
  obtain ⟨o, ho, rfl⟩ := List.mem_map.mp hx
  refine pdX ?_
  have big : (2 : Nat) ^ 30 = 1073741824 := by decide
  simp only [List.mem_cons, List.not_mem_nil, or_false] at ho
  rcases ho with rfl | rfl | rfl | rfl | rfl | rfl | rfl
  · exact SmE.int (by decide)
  · exact SmE.int (by decide)
  · exact ⟨sm0 smB, fun l ds z => by cases z⟩
  · exact ⟨sm0 (Sm.str (z := "1") (B := 13) (by decide +kernel)) (by decide) (by decide +kernel), fun l ds z => by cases z⟩
  · exact ⟨sm0 smN, fun l ds z => by cases z⟩
  · exact SmE.int (by rw [big]; omega)
  · exact SmE.int (by rw [big]; omega)
theorem pd3 {b n k : Nat} {zs : List Int} (hk : k ≤ 300) (hz : ∀ z ∈ zs, 0 ≤ z ∧ z ≤ 1000) : ∀ x ∈ zs.map (fun z => PyData.tuple [.str "exponent", .int ((k : Int) + z)]), PD b n x := by
  intro x hx
  obtain ⟨z, hz', rfl⟩ := List.mem_map.mp hx
  have := hz z hz'
  have big : (2 : Nat) ^ 30 = 1073741824 := by decide
  exact pdX (SmE.int (by rw [big]; omega))
theorem dpAll_ref {H : Hp} {vs : List V} {ds es : List PyData} (h : DpAll K H vs (.tuple ds :: es)) : ∃ a vs', vs = .ref a :: vs' := by
  cases h with
  | cons a b =>
    cases a
    exact ⟨_, _, rfl⟩
theorem MOk.grS {H H' : Hp} {S d a : Addr} {n : Nat} {vs : List V} (h : MOk H d n) (hd : d ∉ [S]) (hS : H S = some (.lst (.ref a :: vs))) (g : Gr [S] H H') : MOk H' d n := by
  obtain ⟨c, xs, l, sd, s, h1, h2, h3⟩ := h
  refine ⟨c, xs, l, sd, s, g d _ hd h1, g c _ (fun m => ?_) h2, h3⟩
  rw [List.mem_singleton] at m
  subst m
  rw [h2] at hS
  cases xs with
  | nil => exact h3.1 rfl
  | cons x xs =>
    injection hS with hS
    injection hS with hS
    injection hS with hS _
    cases hS

end
end Wn
namespace Wn
open PySem PySem.Spec PyProof.Rows L2
local macro_rules | `(tactic| walk_at "vc") => `(tactic| simp only [cxK, cxK2, start1, start2, start3, tRet, tRetN, tSeq, tNext, tIfS, tAsg, gName, tDrop, tVar, tC, tOp, tUn, tTest, tB, tNot, tAnd, tOr, tAndV, tOrV, tNotV, tIf, tCons, tNil, tCB, tCall, tChain, tAug, ipI, rI, rI0, rU, rIs, rGcd, rEq, rNe, scal,
  List.getElem?_cons_zero, List.getElem?_cons_succ, List.set_cons_zero, List.set_cons_succ, Option.some.injEq, List.cons.injEq, V.int.injEq, V.bl.injEq, V.ref.injEq, V.str.injEq, and_true, true_and, exists_eq_left, exists_eq_left', exists_and_left, exists_and_right, List.append_nil, List.nil_append, List.cons_append, exists_eq_right, exists_eq_right', and_assoc, exists_const, V.ty.injEq, ↓reduceIte, Bool.false_eq_true, Bool.not_true, Bool.not_false, decide_eq_true_eq])

section
variable {P : Program} {w : World} {K : PySem.W.Frag} {mg : Str → Option Value} {base : Heap}

def sp_law_right (K : PySem.W.Frag) : Sp := fun vs H Q _ => ∃ (d : Addr) (b n : Nat) (w : Int) (c : Nat), vs = [.ref d, .int b, .int n, .int w] ∧ BNW b n w ∧ n ≤ 300 ∧ MOk H d c ∧ c ≤ 900000000 ∧ ∀ H', Gr [d] H H' → MOk H' d (c + 1 + 1) → Q (.bl true) H'
theorem okG_law_right (T : Txt K mg) : FnG P w K mg base CX0 10 T.d_law_right.f T.d_law_right.fd ["m", "b", "n", "weight_so"] (sp_law_right K) := by
  refine fnG0 T.d_law_right.F sc_law_right (fun vs H Q E h => ?_) (fun cdv A outer s H vs Q E hgd hr h => ?_)
  · obtain ⟨d, b, n, w, c, rfl, _⟩ := h; rfl
  · have hu := hu_of hr
    refine ⟨_, (pss_cons (ps_asg (pe_call (ok_law_own T) (hr.mono (by decide)) (by rfl) T.d_law_own.m T.d_law_own.F.kp T.d_law_own.b .nil pass0 (pa_cons (pv 1) (pa_cons (pv 2) (pa_cons (pv 3) pa_nil)))) (pg_tup (by rfl) (pgs_cons (pg_name (i := 4) sc_law_right.nd rfl (by first | exact .inl rfl | exact .inr rfl)) (pgs_cons (pg_name (i := 5) sc_law_right.nd rfl (by first | exact .inl rfl | exact .inr rfl)) pgs_nil))))
      (pss_cons (ps_set (i := 6) sc_law_right.nd rfl (by first | exact .inl rfl | exact .inr rfl) (pe_ifExp (pt_cmpR op_isN (pv 4) pe_non (nomark _)) (pe_tup (pa_cons pe_str (pa_cons (pe_callTy (r := rTpO K) call_tpO (by rfl) T.b_tuple (by decide +kernel) (pa_cons (pv 5) pa_nil)) pa_nil))) (pe_tup (pa_cons pe_str (pa_cons (pe_ix (r := rIxT K) ix_tup (pv 4) pe_int (fun _ _ => rfl)) pa_nil)))))
      (pss_cons (ps_for PassesOwn.never rfl (pi_range1 (by rfl) T.b_range (pa_cons pe_int pa_nil)) (pg_name (i := 7) sc_law_right.nd rfl (by first | exact .inl rfl | exact .inr rfl)) (pss_one (ps_if (pt_cmpR op_ne (pe_callB (r := rRepr K) (call_repr hgd (gu_of hr)) (by rfl) T.b_repr (by decide +kernel) (pa_cons (pe_lst (pa_cons (pe_call (ok_exponents T) (hr.mono (by decide)) (by rfl) T.d_exponents.m T.d_exponents.F.kp T.d_exponents.b .nil pass0 (pa_cons (pv 1) (pa_cons (pv 2) (pa_cons (pv 3) pa_nil)))) (pa_cons (pe_call (ok_exponent_paper T) (hr.mono (by decide)) (by rfl) T.d_exponent_paper.m T.d_exponent_paper.F.kp T.d_exponent_paper.b .nil pass0 (pa_cons (pv 1) (pa_cons (pv 2) (pa_cons (pv 3) pa_nil)))) pa_nil))) pa_nil)) (pe_callB (r := rRepr K) (call_repr hgd (gu_of hr)) (by rfl) T.b_repr (by decide +kernel) (pa_cons (pe_lst (pa_cons (pv 4) (pa_cons (pv 6) pa_nil))) pa_nil)) (nomark _)) (pss_one (ps_ret pe_bl)) pss_nil)))
      (pss_cons (ps_set (i := 8) sc_law_right.nd rfl (by first | exact .inl rfl | exact .inr rfl) (pe_lst (pa_cons (pv 6) (pa_cons pe_non (pa_cons (pe_tup pa_nil) (pa_cons (pe_slice (r := rSlA K) sl_tupA (pv 6) po_none (po_some pe_int)) (pa_cons (pe_op (r := rCatA K) op_catA (pv 6) (pe_tup (pa_cons pe_int pa_nil))) (pa_cons (pe_callTy (r := rLsO K) call_lsO (by rfl) T.b_list (by decide +kernel) (pa_cons (pv 6) pa_nil)) (pa_cons (pe_tup (pa_cons (pe_lst (pa_cons pe_str pa_nil)) (pa_cons pe_int pa_nil))) (pa_cons (pe_tup (pa_cons pe_int (pa_cons pe_int pa_nil))) (pa_cons (pe_tup (pa_cons pe_str (pa_cons (pe_callTy (r := rTpO K) call_tpO (by rfl) T.b_tuple (by decide +kernel) (pa_cons (pv 5) pa_nil)) pa_nil))) pa_nil)))))))))))
      (pss_cons (ps_for PassesOwn.never rfl (pi_tup (pe_tup (pa_cons (pe_callTy (r := rTpO K) call_tpO (by rfl) T.b_tuple (by decide +kernel) (pa_cons (pv 5) pa_nil)) (pa_cons (pv 5) (pa_cons (pe_callTy (r := rTpO K) call_tpO (by rfl) T.b_tuple (by decide +kernel) (pa_cons (pe_slice (r := rSlL K) sl_list (pv 5) po_none (po_some (pe_un un_neg pe_int))) pa_nil)) (pa_cons (pe_callTy (r := rTpO K) call_tpO (by rfl) T.b_tuple (by decide +kernel) (pa_cons (pe_op op_cat (pv 5) (pe_slice (r := rSlL K) sl_list (pv 5) po_none (po_some pe_int))) pa_nil)) (pa_cons (pe_tup pa_nil) (pa_cons pe_non (pa_cons (pe_op (r := rCatA K) op_catA (pe_tup (pa_cons pe_bl pa_nil)) (pe_callTy (r := rTpO K) call_tpO (by rfl) T.b_tuple (by decide +kernel) (pa_cons (pe_slice (r := rSlL K) sl_list (pv 5) (po_some pe_int) po_none) pa_nil))) pa_nil))))))))) (pg_name (i := 9) sc_law_right.nd rfl (by first | exact .inl rfl | exact .inr rfl)) (pss_one (ps_expr (pe_bm PySem.F.plainAttrs_list PySem.F.slot_list_append PySem.F.type_list_append mt_append (pv 8) (pa_cons (pe_tup (pa_cons pe_str (pa_cons (pv 9) pa_nil))) pa_nil)))))
      (pss_cons (ps_for PassesOwn.never rfl (pi_tup (pe_tup (pa_cons pe_int (pa_cons pe_int (pa_cons pe_bl (pa_cons pe_str (pa_cons pe_non (pa_cons (pe_op op_add pe_int (pe_call (ok_law_draw T) (hr.mono (by decide)) (by rfl) T.d_law_draw.m T.d_law_draw.F.kp T.d_law_draw.b .nil pass0 (pa_cons (pv 0) (pa_cons pe_int pa_nil)))) (pa_cons (pe_op op_add pe_int (pe_call (ok_law_draw T) (hr.mono (by decide)) (by rfl) T.d_law_draw.m T.d_law_draw.F.kp T.d_law_draw.b .nil pass0 (pa_cons (pv 0) (pa_cons pe_int pa_nil)))) pa_nil))))))))) (pg_name (i := 9) sc_law_right.nd rfl (by first | exact .inl rfl | exact .inr rfl)) (pss_one (ps_expr (pe_bm PySem.F.plainAttrs_list PySem.F.slot_list_append PySem.F.type_list_append mt_append (pv 8) (pa_cons (pe_tup (pa_cons pe_str (pa_cons (pv 9) pa_nil))) pa_nil)))))
      (pss_cons (ps_if (pt_cmpR op_notN (pv 4) pe_non (nomark _)) (pss_one (ps_set (i := 8) sc_law_right.nd rfl (by first | exact .inl rfl | exact .inr rfl) (pe_op op_cat (pv 8) (pe_lc (own := [("more", 10)]) (g := gName 10) (tt := tYes) rfl sc_law_right.nd (pi_tup (pe_tup (pa_cons (pe_ix (r := rIxT K) ix_tup (pv 4) pe_int (fun _ _ => rfl)) (pa_cons pe_int (pa_cons (pe_op op_mul pe_int (pe_ix (r := rIxT K) ix_tup (pv 4) pe_int (fun _ _ => rfl))) pa_nil))))) (blkOk_by (own := [("more", 10)]) (N := ["m", "b", "n", "weight_so", "found", "row", "due", "again", "some", "odd", "more", "thing", "kept_so", "own", "heard"]) (sc := defScope s_law_right) (by decide +kernel)) (fun _ _ _ _ _ => (pg_name (i := 10) sc_law_right.nd rfl (by first | exact .inl rfl | exact .inr rfl))) (fun _ _ _ _ _ => pts_nil) (fun _ _ _ _ _ => (pe_tup (pa_cons pe_str (pa_cons (pe_op op_add (pe_ix (r := rIxT K) ix_tup (pv 4) pe_int (fun _ _ => rfl)) (pv 10)) pa_nil)))))))) pss_nil)
      (pss_cons (ps_for PassesOwn.never rfl (pi_list (pv 8)) (pg_name (i := 11) sc_law_right.nd rfl (by first | exact .inl rfl | exact .inr rfl)) (pss_cons (ps_par (i := 12) (j := 13) (by rfl) sc_law_right.nd rfl rfl (by decide) rfl rfl (pa_cons (pe_callB (r := rRepr K) (call_repr hgd (gu_of hr)) (by rfl) T.b_repr (by decide +kernel) (pa_cons (pv 11) pa_nil)) (pa_cons (pe_callG hgd (okG_law_due T) (hr.mono (by decide)) (by rfl) T.d_law_due.m T.d_law_due.F.kp T.d_law_due.b .nil pass0 (pa_cons (pv 1) (pa_cons (pv 2) (pa_cons (pv 3) (pa_cons (pv 11) pa_nil))))) pa_nil)) (by rfl))
      (pss_cons (ps_setLc (i := 14) (own := [("again", 7)]) (g := gName 7) (tt := tYes) rfl sc_law_right.nd rfl rfl (sw_true rfl rfl rfl (by decide +kernel)) (pi_range1 (by rfl) T.b_range (pa_cons pe_int pa_nil)) (blkOk_by (own := [("again", 7)]) (N := ["m", "b", "n", "weight_so", "found", "row", "due", "again", "some", "odd", "more", "thing", "kept_so", "own", "heard"]) (sc := defScope s_law_right) (by decide +kernel)) (fun _ _ _ _ _ => (pg_name (i := 7) sc_law_right.nd rfl (by first | exact .inl rfl | exact .inr rfl))) (fun _ _ _ _ _ => pts_nil) (fun _ _ _ _ _ => (pe_call (ok_law_heard T) (hr.mono (by decide)) (by rfl) T.d_law_heard.m T.d_law_heard.F.kp T.d_law_heard.b .nil pass0 (pa_cons (pv 1) (pa_cons (pv 2) (pa_cons (pv 3) (pa_cons (pv 11) pa_nil)))))))
      (pss_one (ps_if (PW.pt (pw_or (pt_cmpR op_ne (pe_callB (r := rRepr K) (call_repr hgd (gu_of hr)) (by rfl) T.b_repr (by decide +kernel) (pa_cons (pv 14) pa_nil)) (pe_callB (r := rRepr K) (call_repr hgd (gu_of hr)) (by rfl) T.b_repr (by decide +kernel) (pa_cons (pe_lst (pa_cons (pv 13) (pa_cons (pv 13) pa_nil))) pa_nil)) (nomark _)) (pw_or1 (pt_cmpR op_ne (pe_callB (r := rRepr K) (call_repr hgd (gu_of hr)) (by rfl) T.b_repr (by decide +kernel) (pa_cons (pv 11) pa_nil)) (pv 12) (nomark _))))) (pss_one (ps_ret pe_bl)) pss_nil)))))
      (pss_one (ps_ret (pe_cmpR (r := rEqD K) (op_eqD hr.units) (pe_call (ok_law_heard T) (hr.mono (by decide)) (by rfl) T.d_law_heard.m T.d_law_heard.F.kp T.d_law_heard.b .nil pass0 (pa_cons (pv 1) (pa_cons (pv 2) (pa_cons (pv 3) (pa_cons (pv 6) pa_nil))))) (pe_lst (pa_cons (pe_ix (r := rIxT K) ix_tup (pv 6) pe_int (fun _ _ => rfl)) pa_nil)) (nomark _)))))))))))), ?_⟩
    obtain ⟨d, b, n, w, c, rfl, hW, hn3, M, hc, q⟩ := h
    obtain ⟨hbn, hw⟩ := id hW
    obtain ⟨hb1, hb2, hn1, hn2⟩ := id hbn
    refine ⟨_, rfl, _, rfl, _, rfl, b, n, w, rfl, hbn, fun t r fv H1 g1 ht hr hnone hsome => ?_⟩
    refine ⟨t, _, rfl, sq_tup ht, rfl, _, _, rfl, _, _, rfl, rfl, ?_⟩
    dsimp only
    have M1 := M.gr g1
    have dF : Dp K H1 fv (expD b n w) := by
      unfold expD
      cases hf : fstE b n w with
      | none =>
        rw [hnone hf]
        exact .non
      | some k =>
        obtain ⟨f, rfl, hfv⟩ := hsome k hf
        exact dp_tup hfv (.cons (.int _) (.cons (.int _) .nil))
    have hRl := rowE_len (b := b) hn1
    have hR2 : ∀ k ∈ rowE b n, k < 300 := fun k hk => Nat.lt_of_lt_of_le (rows_lt hn1 hk) hn3
    obtain ⟨s, e, eP, hs, hE, eJ, pdP⟩ := pap_is (b := b) (w := w) hn1 hn3
    refine st_asgD (K := K) (d := papD b n w) (fun H2 g2 Q2 q2 => ?_) fun v2 H2 g2 d2 => ?_
    · unfold papD at q2
      cases hf : fstE b n w with
      | none =>
        rw [hf] at q2
        obtain rfl := hnone hf
        refine ⟨_, rfl, rfl, _, rfl, iteTb rfl ?_⟩
        exact EvW.evd (ew_tup (esw_cons ew_str (esw_cons (ew_tupOf (elw_var rfl hr (by simp))) esw_nil))) H2 g2 Q2 q2
      | some k =>
        rw [hf] at q2
        obtain ⟨f, rfl, hfv⟩ := hsome k hf
        refine ⟨_, rfl, rfl, _, rfl, iteFb (decide_eq_false (by intro z; cases z)) ?_⟩
        exact EvW.evd (ew_tup (esw_cons ew_str (esw_cons (ew_ixT (j := 0) (ew_var rfl (Dp.kp hid_in0 (dp_tup hfv (.cons (.int _) (.cons (.int _) .nil))))) rfl) esw_nil))) H2 g2 Q2 q2
    have M2 := M1.gr g2
    have dF2 := Dp.kp (Kp.of g2) dF
    have hr2 := g2 r _ (by simp) hr
    have G2 := g1.trans g2
    have hsm2 : ∀ k, fstE b n w = some k → ∃ f, fv = .ref f ∧ H2 f = some (.tup (fndV b n k)) := fun k hk => by
      obtain ⟨f, e1, e2⟩ := hsome k hk
      exact ⟨f, e1, g2 f _ (by simp) e2⟩
    clear hsome g1 g2 ht hr M M1 dF
    have fL : Fits (.list [expD b n w, papD b n w]) := (Sm.lst (D := 4) (W := 60000) 2 (fun x hx => by
      simp only [List.mem_cons, List.not_mem_nil, or_false] at hx
      rcases hx with rfl | rfl
      · exact (exp_sm hn1 hn3).mono (by decide) (by decide)
      · exact pdP.sm) (Nat.le_refl _)).fits
    refine ⟨(2 : Int), rfl, by decide, by decide, ?_⟩
    refine for_range (lo := 0) (n := 2) (fun i σ H' => Gr [] H2 H' ∧ ∃ v7, σ = [some (.ref d), some (.int b), some (.int n), some (.int w), some fv, some (.ref r), some v2, v7, none, none, none, none, none, none, none]) ⟨Gr.refl _ _, none, rfl⟩ ?_ ?_
    · rintro i σ H' hi ⟨G, v7, rfl⟩
      refine ⟨_, rfl, _, rfl, _, rfl, b, n, w, rfl, hW, fun va Ha ga da => ?_⟩
      refine ⟨_, rfl, _, rfl, _, rfl, b, n, w, rfl, hW, fun vb Hb gb db => ?_⟩
      refine ⟨by show 2 ≤ sizeLine; decide, fun p6 n6 => ?_⟩
      have g6 : Gr [] Hb (upd Hb p6 (.lst [va, vb])) := Gr.new n6
      refine ⟨_, .list [expD b n w, papD b n w], rfl, dp_lst upd_same (.cons (Dp.kp (Kp.of (gb.trans g6)) da) (.cons (Dp.kp (Kp.of g6) db) .nil)), fL, ?_⟩
      refine ⟨_, rfl, _, rfl, by show 2 ≤ sizeLine; decide, fun p7 n7 => ?_⟩
      have g7 : Gr [] (upd Hb p6 (.lst [va, vb])) (upd (upd Hb p6 (.lst [va, vb])) p7 (.lst [fv, v2])) := Gr.new n7
      have G7 := (((G.trans ga).trans gb).trans g6).trans g7
      refine ⟨_, .list [expD b n w, papD b n w], rfl, dp_lst upd_same (.cons (Dp.kp (Kp.of G7) dF2) (.cons (Dp.kp (Kp.of G7) d2) .nil)), fL, ?_⟩
      refine ⟨rfl, _, rfl, iteFb (ne_self _) ?_⟩
      exact ⟨G7, _, rfl⟩
    rintro σ H3 ⟨g3, v7, rfl⟩
    have M3 := M2.gr g3
    have d3 := Dp.kp (Kp.of g3) d2
    have dF3 := Dp.kp (Kp.of g3) dF2
    have hr3 := g3 r _ (by simp) hr2
    have G3 := G2.trans g3
    have hsm3 : ∀ k, fstE b n w = some k → ∃ f, fv = .ref f ∧ H3 f = some (.tup (fndV b n k)) := fun k hk => by
      obtain ⟨f, e1, e2⟩ := hsm2 k hk
      exact ⟨f, e1, g3 f _ (by simp) e2⟩
    clear hsm2 hr2 dF2 d2 M2 G2 g3
    rw [eP] at d3
    have dP0 : EvW K [] (tVar 6) [some (.ref d), some (.int b), some (.int n), some (.int w), some fv, some (.ref r), some v2, v7, none, none, none, none, none, none, none] H3 (.tuple [.str s, e]) := ew_var rfl (Dp.kp hid_in0 d3)
    have sE := hE.sm
    have sS : Sm (.str s) 13 0 13 := (Sm.str (word_ok hs).1).mono (Nat.le_refl _) (word_ok hs).2
    refine st_asgW (K := K) (esw_cons dP0 (esw_cons ew_non (esw_cons (ew_tup esw_nil) (esw_cons (ew_slT (j := 1) dP0 (Nat.le_of_ble_eq_true rfl)) (esw_cons (ew_catT dP0 (ew_tup (esw_cons ew_int esw_nil)) (Nat.le_of_ble_eq_true rfl)) (esw_cons (ew_listOf dP0) (esw_cons (ew_tup (esw_cons (ew_lst (esw_cons ew_str esw_nil)) (esw_cons ew_int esw_nil))) (esw_cons (ew_tup (esw_cons ew_int (esw_cons ew_int esw_nil))) (esw_cons (ew_tup (esw_cons ew_str (esw_cons (ew_tupOf (elw_var rfl hr3 (by simp))) esw_nil))) esw_nil))))))))) (Nat.le_of_ble_eq_true rfl) fun vs H4 S g4 nS a4 => ?_
    
    have nrS : ∀ {a o}, H4 a = some o → a ∉ [S] := fun e => ne_none e nS
    have HSg : Gr [] H4 (upd H4 S (.lst vs)) := Gr.new nS
    have aS : DpAll K (hid [S] (upd H4 S (.lst vs))) vs [.tuple [.str s, e], .none, .tuple [], .tuple ([.str s, e].take 1), .tuple ([.str s, e] ++ [.int 0]), .list [.str s, e], .tuple [.list [.str "exponent"], .int 1], .tuple [.int 5, .int 1], .tuple [.str "Never", di (rowE b n)]] := DpAll.kp (hid_in nS (gr0 HSg)) a4
    have hS5 : (upd H4 S (.lst vs)) S = some (.lst vs) := upd_same
    have hr4 := g4 r _ (by simp) hr3
    have hr5 := HSg r _ (by simp) hr4
    obtain ⟨ys, y, eR⟩ := rowE_split (b := b) hn1
    rw [eR] at hr5 hRl hR2
    have seven := sevenN eR hR2 (by omega)
    have rw5 : ∀ {σ : L2.St}, σ[5]? = some (some (.ref r)) → ElW [S] (tVar 5) σ (upd H4 S (.lst vs)) (ys ++ [y]) := fun e => elw_var e hr5 (nrS hr4)
    refine for_tupW (K := K) (W := [S]) (ds := [di (ys ++ [y]), lstD (ys ++ [y]), di ys, di ((ys ++ [y]) ++ (ys ++ [y]).take 1), .tuple [], .none, .tuple ([.bool true] ++ (ni ((ys ++ [y]).drop 1)).map PyData.int)]) (esw_cons (ew_tupOf (rw5 rfl)) (esw_cons (elw_d (rw5 rfl)) (esw_cons (ew_tupOf (elw_init (rw5 rfl))) (esw_cons (ew_tupOf (elw_cat (rw5 rfl) (elw_take (j := 1) (rw5 rfl) (by omega)) (by rw [List.length_take]; omega))) (esw_cons (ew_tup esw_nil) (esw_cons ew_non (esw_cons (ew_catT (ew_tup (esw_cons ew_bl esw_nil)) (ew_tupOf (elw_drop (j := 1) (rw5 rfl) (by omega))) (by rw [List.length_map, ni_len, List.length_drop]; show 1 + _ ≤ 6000; omega)) esw_nil))))))) (fun a m => by
      rw [List.mem_singleton] at m
      subst m
      rw [hS5]
      exact fun z => by cases z) (Nat.le_of_ble_eq_true rfl) fun os H5 p g5 np hpS ao => ?_
    have g6 : Gr [] H5 (upd H5 p (.tup os)) := Gr.new np
    refine put_for (K := K) (S := S) (vs := vs) upd_same hpS (g6 S _ (by simp) (g5 S _ (by simp) hS5)) (DpAll.kp ((hid_kp (gr0 g5)).trans (hid_kp (gr0 g6))) aS) (DpAll.kp (hid_kp (gr0 g6)) ao) (Nat.le_of_ble_eq_true rfl) rfl rfl ⟨_, rfl⟩ fun v9 vs7 H7 g7 hS7 a7 => ?_
    have G47 : Gr [] H4 H7 := fresh_keep nS ((HSg.trans g5).trans g6) g7
    clear g5 g6 np ao g7 aS rw5 hr5
    have M7 := (M3.gr g4).gr G47
    have Kp7 : Kp H3 H7 := Kp.of (g4.trans G47)
    have G7 : Gr [] H H7 := (G3.trans g4).trans G47
    have dS : d ∉ [S] := by
      obtain ⟨kvs, hk⟩ := (M3.gr g4).isD
      exact nrS hk
    
    refine ⟨_, rfl, d, 20, c, rfl, M7, ⟨by decide, lim_le (by decide), by omega⟩, fun r0 H8 hr0 g8 M8 => ?_⟩
    refine ⟨_, _, rfl, rfl, ?_⟩
    refine ⟨_, rfl, d, 10000, c + 1, rfl, M8, ⟨by decide, lim_le (by decide), by omega⟩, fun r1 H9 hr1 g9 M9 => ?_⟩
    refine ⟨_, _, rfl, rfl, by show 7 ≤ sizeLine; decide, fun p np => ⟨p, rfl, ⟨_, sq_tup upd_same⟩, ?_⟩⟩
    have g79 := g8.trans g9
    have dS2 : S ∉ [d] := fun m => dS (by rw [List.mem_singleton] at m ⊢; exact m.symm)
    have hS9 := g79 S _ dS2 hS7
    have a9 := DpAll.kp (hid_ofM g79 M7.isD dS) a7
    have gp : Gr [] H9 (upd H9 p (.tup [.int 0, .int 10001, .bl true, .str "1", .non, .int (1 + (r0 : Int)), .int (1 + (r1 : Int))])) := Gr.new np
    have hpS : p ∉ [S] := fun m => by
      rw [List.mem_singleton] at m
      subst m
      rw [hS9] at np
      cases np
    refine put_for (K := K) (S := S) (vs := vs7) (odds := [.int 0, .int 10001, .bool true, .str "1", .none, .int (1 + (r0 : Int)), .int (1 + (r1 : Int))]) upd_same hpS (gp S _ (by simp) hS9) (DpAll.kp (hid_kp (gr0 gp)) a9) (.cons (.int _) (.cons (.int _) (.cons (.bl _) (.cons (.str _) (.cons .non (.cons (.int _) (.cons (.int _) .nil))))))) ?_ rfl rfl ⟨_, rfl⟩ fun v9' vs8 HA gA hSA aA => ?_
    · rw [List.length_append, List.length_map]
      exact Nat.le_of_ble_eq_true rfl
    obtain ⟨aa, vsr, er⟩ := dpAll_ref a9
    have MA : MOk HA d (c + 1 + 1) := (M9.gr gp).grS dS (by rw [gp S _ (by simp) hS9, er]) gA
    have KX : Kp H4 (hid [S] HA) := (((hid_in nS (gr0 G47)).trans (hid_ofM g79 M7.isD dS)).trans (hid_kp (gr0 gp))).trans (hid_kp gA)
    have KX3 : Kp H3 HA := ((Kp.of g4).trans KX).trans hid_out
    have dPA := Dp.kp KX3 d3
    have G4 := G3.trans g4
    have GA : Gr [d] H HA := fun a o ha e => gA a o (nrS (G4 a o (by simp) e)) (gp a o (by simp) (g79 a o ha (G7 a o (by simp) e)))
    have aA := DpAll.kp hid_out aA
    have PDA : ∀ x ∈ (([.tuple [.str s, e], .none, .tuple [], .tuple ([.str s, e].take 1), .tuple ([.str s, e] ++ [.int 0]), .list [.str s, e], .tuple [.list [.str "exponent"], .int 1], .tuple [.int 5, .int 1], .tuple [.str "Never", di (rowE b n)]] ++ ([di (ys ++ [y]), lstD (ys ++ [y]), di ys, di ((ys ++ [y]) ++ (ys ++ [y]).take 1), .tuple [], .none, .tuple ([.bool true] ++ (ni ((ys ++ [y]).drop 1)).map PyData.int)]).map fun o => PyData.tuple [.str "never", o]) ++ ([.int 0, .int 10001, .bool true, .str "1", .none, .int (1 + (r0 : Int)), .int (1 + (r1 : Int))]).map fun o => PyData.tuple [.str "exponent", o] : List PyData), PD b n x := by
      intro x hx
      rw [List.mem_append, List.mem_append] at hx
      rcases hx with (hx | hx) | hx
      · refine pd0 hs hE (by rw [← eP]; exact pdP) (by rw [eR]; exact SmE.di (fun k hk => Nat.lt_trans (hR2 k hk) (by decide)) (by omega)) x hx
      · obtain ⟨o, ho, rfl⟩ := List.mem_map.mp hx
        exact seven o ho
      · exact pd2 hr0 hr1 x hx
    have hsmA : ∀ k, fstE b n w = some k → ∃ f, fv = .ref f ∧ HA f = some (.tup (fndV b n k)) := fun k hk => by
      obtain ⟨f, e1, e2⟩ := hsm3 k hk
      exact ⟨f, e1, KX3.2.1 f _ e2⟩
    clear g8 g9 g79 gp gA np a7 a9 M7 M8 M9 g4 G47 KX KX3 hsm3 seven G4 G7 hr4 hr3 HSg hpS hS9 hS7 hS5 a4 dP0 sE sS
    
    cases hf : fstE b n w with
    | none =>
      refine ⟨_, rfl, rfl, _, rfl, iteFb (by rw [hnone hf, decide_eq_true rfl]; rfl) ?_⟩
    
      refine ⟨_, rfl, S, rfl, ⟨_, sq_lst hSA⟩, ?_⟩
      refine for_list (K := K) (a := S) (xs := vs8) (fun i σ H' => Gr [] HA H' ∧ ∃ v11 v12 v13 v14, σ = [some (.ref d), some (.int b), some (.int n), some (.int w), some fv, some (.ref r), some v2, v7, some (.ref S), v9', none, v11, v12, v13, v14]) ⟨Gr.refl _ _, _, _, _, _, rfl⟩ (fun i σ H' _ z => sq_lst (z.1 S _ (by simp) hSA)) ?_ ?_
      · rintro i x σ H' hx ⟨G, v11, v12, v13, v14, rfl⟩
        obtain ⟨dd, hdd, dx⟩ := dpAll_at aA hx
        have pd := PDA dd (List.mem_of_getElem? hdd)
        have dx := Dp.kp (Kp.of G) dx
        refine ⟨_, rfl, x, dd, rfl, dx, pd.sm.fits, ?_⟩
        refine ⟨_, rfl, _, rfl, _, rfl, _, rfl, b, n, w, x, dd, rfl, hbn, dx, pd.rep, fun o HA gA dO => ?_⟩
        refine ⟨_, _, rfl, ?_⟩
        have dx1 := Dp.kp (Kp.of gA) dx
        refine ⟨(2 : Int), rfl, by decide, by decide, fun D nD => ?_⟩
        refine lc_range (lo := 0) (n := 2) (fun j H'' => Gr [] HA H'' ∧ ∃ us, H'' D = some (.lst us) ∧ DpAll K (hid [D] H'') us (List.replicate j (dueD (jdg b n w dd)))) ⟨Gr.new nD, [], upd_same, .nil⟩ ?_ ?_
        · rintro j H'' hj ⟨G2, us, hD, aU⟩
          refine ⟨rfl, ?_⟩
          dsimp only [tYes]
          refine iteT ?_
          refine ⟨_, rfl, _, rfl, _, rfl, _, rfl, b, n, w, x, dd, rfl, hW, Dp.kp (Kp.of G2) dx1, pd.good, fun v3 HB gB d3 => ?_⟩
          have hDB := gB D _ (by simp) hD
          have lu : us.length = j := by rw [dpAll_len aU, List.length_replicate]
          have d4 := dp_hid_due d3 hDB aU
          have gC : Gr [D] HB (upd HB D (.lst (us ++ [v3]))) := Gr.wr (by simp)
          refine ⟨us, hDB, Nat.lt_of_lt_of_le (show us.length < 7000 by omega) (by decide), fresh_keep nD (G2.trans gB) gC, us ++ [v3], upd_same, ?_⟩
          rw [List.replicate_succ']
          exact dpAll_append (DpAll.kp ((hid_kp (gr0 gB)).trans (hid_kp gC)) aU) (.cons (Dp.kp (hid_kp gC) d4) .nil)
        rintro HC ⟨gC, us, hD, aU⟩
        have aU2 : DpAll K HC us [dueD (jdg b n w dd), dueD (jdg b n w dd)] := DpAll.kp hid_out aU
        have fT := (due2_sm b n w dd).fits
        refine ⟨_, rfl, .ref D, .list [dueD (jdg b n w dd), dueD (jdg b n w dd)], rfl, dp_lst hD aU2, fT, ?_⟩
        refine ⟨_, rfl, _, rfl, by show 2 ≤ sizeLine; decide, fun pE nE => ?_⟩
        have gE : Gr [] HC (upd HC pE (.lst [o, o])) := Gr.new nE
        have dO2 := Dp.kp (Kp.of (gC.trans gE)) dO
        refine ⟨_, .list [dueD (jdg b n w dd), dueD (jdg b n w dd)], rfl, dp_lst upd_same (.cons dO2 (.cons dO2 .nil)), fT, ?_⟩
        refine ⟨rfl, _, rfl, iteFb (ne_self _) ?_⟩
        refine ⟨_, rfl, x, dd, rfl, Dp.kp (Kp.of (gC.trans gE)) dx1, pd.sm.fits, ?_⟩
        refine ⟨_, rfl, rfl, _, rfl, iteFb (ne_self _) ?_⟩
        exact ⟨((G.trans gA).trans gC).trans gE, _, _, _, _, rfl⟩
      rintro σ HA ⟨G, v11, v12, v13, v14, rfl⟩
      have dPA := Dp.kp (Kp.of G) dPA
      refine ⟨_, rfl, _, rfl, _, rfl, _, rfl, b, n, w, v2, papD b n w, rfl, hW, (by rw [eP]; exact dPA), pdP.good, fun vh Hh gh dh => ?_⟩
      have dPh := Dp.kp (Kp.of gh) dPA
      cases dPh with
      | @tup a xs _ sT aT =>
        obtain ⟨y, hy, dy⟩ := dpAll_get (i := 0) aT rfl
        cases dy
        refine ⟨_, rfl, a, _, 0, .str s, rfl, rfl, sT, atI_nat (j := 0) hy, by show 1 ≤ sizeLine; decide, fun pF nF => ?_⟩
        have gF : Gr [] Hh (upd Hh pF (.lst [.str s])) := Gr.new nF
        have ejd : dueD (jdg b n w (papD b n w)) = .list [.str s] := by rw [eJ]; rfl
        rw [ejd] at dh
        have sh : SeqAt.shaped (.list [.str s]) = true ∧ PyData.eqv (.list [.str s]) (.list [.str s]) = true := by
          rcases hs with rfl | rfl | rfl <;> decide +kernel
        refine ⟨.list [.str s], .list [.str s], Dp.kp (Kp.of gF) dh, dp_lst upd_same (.cons (.str _) .nil), sh.1, sh.1, ?_⟩
        rw [sh.2]
        exact q _ (GA.trans (gr0 ((G.trans gh).trans gF))) (MA.gr ((G.trans gh).trans gF))
    
    | some k =>
      obtain ⟨f, ef, hfA⟩ := hsmA k hf
      have hk := fstE_le hn1 hf
      have hLb : (if (hLF b n).1 ≤ k then (hLF b n).2 else 0 : Nat) ≤ 300 := by
        obtain ⟨p0, q0, P⟩ := hLF_is b n hn1
        have := hL_le hn1 P
        split <;> omega
      unfold fndV at hfA
      refine ⟨_, rfl, rfl, _, rfl, iteTb (by rw [ef, decide_eq_false (by intro z; cases z)]; rfl) ?_⟩
      generalize (if (hLF b n).1 ≤ k then (hLF b n).2 else 0 : Nat) = LL at hfA hLb
      refine ⟨_, rfl, _, rfl, f, _, 1, _, ef, rfl, sq_tup hfA, atI_nat (j := 1) rfl, _, rfl, f, _, 1, _, ef, rfl, sq_tup hfA, atI_nat (j := 1) rfl, _, _, rfl, rfl, .inl ⟨by omega, by omega⟩, by show 3 ≤ sizeLine; decide, fun p np => ⟨p, rfl, ⟨_, sq_tup upd_same⟩, fun E nE => ?_⟩⟩
      have hpp : (upd HA p (.tup [.int (LL : Nat), .int 1, .int (3 * (LL : Int))])) p = some (.tup ([(LL : Int), 1, 3 * (LL : Int)].map V.int)) := upd_same
      have gp : Gr [] HA (upd HA p (.tup [.int (LL : Nat), .int 1, .int (3 * (LL : Int))])) := Gr.new np
      have zb : ∀ z ∈ [(LL : Int), 1, 3 * (LL : Int)], 0 ≤ z ∧ z ≤ 1000 := fun z hz => by
        simp only [List.mem_cons, List.not_mem_nil, or_false] at hz
        omega
      change (upd HA p (.tup [.int (LL : Nat), .int 1, .int (3 * (LL : Int))])) E = none at nE
      have zl : [(LL : Int), 1, 3 * (LL : Int)].length = 3 := rfl
      generalize [(LL : Int), 1, 3 * (LL : Int)] = zs at hpp zb zl
      generalize upd HA p (.tup [.int (LL : Nat), .int 1, .int (3 * (LL : Int))]) = HP at nE gp hpp ⊢
      have hfP := gp f _ (by simp) hfA
      refine lc_tup (K := K) (a := p) (xs := zs.map V.int) (fun i H' => Gr [] HP H' ∧ ∃ us, H' E = some (.lst us) ∧ DpAll K (hid [E] H') us ((zs.take i).map fun z => PyData.tuple [.str "exponent", .int ((k : Int) + z)])) ⟨Gr.new nE, [], upd_same, .nil⟩ (fun i H' _ z => sq_tup (z.1 p _ (by simp) hpp)) ?_ ?_
      · rintro i y H' hy ⟨G, us, hE', aU⟩
        rw [List.getElem?_map] at hy
        obtain ⟨z, hz, rfl⟩ := Option.map_eq_some_iff.mp hy
        have hi : i < zs.length := (List.getElem?_eq_some_iff.mp hz).1
        have ed : zs[i] = z := (List.getElem?_eq_some_iff.mp hz).2
        have lu := dpAll_len aU
        rw [List.length_map, List.length_take] at lu
        have hfi := G f _ (by simp) hfP
        refine ⟨rfl, ?_⟩
        dsimp only [tYes]
        refine iteT ?_
        refine ⟨_, rfl, f, _, 0, _, ef, rfl, sq_tup hfi, atI_nat (j := 0) rfl, _, rfl, _, _, rfl, rfl, by show 2 ≤ sizeLine; decide, fun p2 np2 => ?_⟩
        obtain ⟨k1, k2, k3⟩ := hid_put (s := "exponent") (d := .int ((k : Int) + z)) hE' aU (.int _) np2
        refine ⟨us, k1, Nat.lt_of_lt_of_le (show us.length < 6000 by omega) (by decide), fresh_keep nE G k2, us ++ [.ref p2], upd_same, ?_⟩
        rw [List.take_succ_eq_append_getElem hi, List.map_append, ed]
        exact k3
      rintro HB ⟨gB, us, hE', aU⟩
      rw [List.length_map, List.take_of_length_le (Nat.le_refl _)] at aU
      have lu := dpAll_len aU
      rw [List.length_map, zl] at lu
      have l8 := dpAll_len aA
      have l8' : vs8.length = 23 := l8
      refine ⟨S, E, vs8, us, rfl, rfl, (gp.trans gB) S _ (by simp) hSA, hE', Nat.le_trans (show vs8.length + us.length ≤ 6000 by omega) (by decide), fun S2 nS2 => ?_⟩
      have gC : Gr [] HA (upd HB S2 (.lst (vs8 ++ us))) := (gp.trans gB).trans (Gr.new nS2)
      have hSC : (upd HB S2 (.lst (vs8 ++ us))) S2 = some (.lst (vs8 ++ us)) := upd_same
      have aC := dpAll_append (DpAll.kp (Kp.of gC) aA) (DpAll.kp (hid_out.trans (Kp.of (Gr.new nS2 (o := .lst (vs8 ++ us))))) aU)
      have PDC := fun x hx => (List.mem_append.mp hx).elim (PDA x) (pd3 (b := b) (n := n) (k := k) (by omega) zb x)
      have dPC := Dp.kp (Kp.of gC) dPA
      have GC : Gr [d] H (upd HB S2 (.lst (vs8 ++ us))) := GA.trans (gr0 gC)
      have MC := MA.gr gC
      clear gp gB gC
      generalize upd HB S2 (.lst (vs8 ++ us)) = HD at hSC aC dPC GC MC ⊢
    
      refine ⟨_, rfl, S2, rfl, ⟨_, sq_lst hSC⟩, ?_⟩
      refine for_list (K := K) (a := S2) (xs := (vs8 ++ us)) (fun i σ H' => Gr [] HD H' ∧ ∃ v11 v12 v13 v14, σ = [some (.ref d), some (.int b), some (.int n), some (.int w), some fv, some (.ref r), some v2, v7, some (.ref S2), v9', none, v11, v12, v13, v14]) ⟨Gr.refl _ _, _, _, _, _, rfl⟩ (fun i σ H' _ z => sq_lst (z.1 S2 _ (by simp) hSC)) ?_ ?_
      · rintro i x σ H' hx ⟨G, v11, v12, v13, v14, rfl⟩
        obtain ⟨dd, hdd, dx⟩ := dpAll_at aC hx
        have pd := PDC dd (List.mem_of_getElem? hdd)
        have dx := Dp.kp (Kp.of G) dx
        refine ⟨_, rfl, x, dd, rfl, dx, pd.sm.fits, ?_⟩
        refine ⟨_, rfl, _, rfl, _, rfl, _, rfl, b, n, w, x, dd, rfl, hbn, dx, pd.rep, fun o HA gA dO => ?_⟩
        refine ⟨_, _, rfl, ?_⟩
        have dx1 := Dp.kp (Kp.of gA) dx
        refine ⟨(2 : Int), rfl, by decide, by decide, fun D nD => ?_⟩
        refine lc_range (lo := 0) (n := 2) (fun j H'' => Gr [] HA H'' ∧ ∃ us, H'' D = some (.lst us) ∧ DpAll K (hid [D] H'') us (List.replicate j (dueD (jdg b n w dd)))) ⟨Gr.new nD, [], upd_same, .nil⟩ ?_ ?_
        · rintro j H'' hj ⟨G2, us, hD, aU⟩
          refine ⟨rfl, ?_⟩
          dsimp only [tYes]
          refine iteT ?_
          refine ⟨_, rfl, _, rfl, _, rfl, _, rfl, b, n, w, x, dd, rfl, hW, Dp.kp (Kp.of G2) dx1, pd.good, fun v3 HB gB d3 => ?_⟩
          have hDB := gB D _ (by simp) hD
          have lu : us.length = j := by rw [dpAll_len aU, List.length_replicate]
          have d4 := dp_hid_due d3 hDB aU
          have gC : Gr [D] HB (upd HB D (.lst (us ++ [v3]))) := Gr.wr (by simp)
          refine ⟨us, hDB, Nat.lt_of_lt_of_le (show us.length < 7000 by omega) (by decide), fresh_keep nD (G2.trans gB) gC, us ++ [v3], upd_same, ?_⟩
          rw [List.replicate_succ']
          exact dpAll_append (DpAll.kp ((hid_kp (gr0 gB)).trans (hid_kp gC)) aU) (.cons (Dp.kp (hid_kp gC) d4) .nil)
        rintro HC ⟨gC, us, hD, aU⟩
        have aU2 : DpAll K HC us [dueD (jdg b n w dd), dueD (jdg b n w dd)] := DpAll.kp hid_out aU
        have fT := (due2_sm b n w dd).fits
        refine ⟨_, rfl, .ref D, .list [dueD (jdg b n w dd), dueD (jdg b n w dd)], rfl, dp_lst hD aU2, fT, ?_⟩
        refine ⟨_, rfl, _, rfl, by show 2 ≤ sizeLine; decide, fun pE nE => ?_⟩
        have gE : Gr [] HC (upd HC pE (.lst [o, o])) := Gr.new nE
        have dO2 := Dp.kp (Kp.of (gC.trans gE)) dO
        refine ⟨_, .list [dueD (jdg b n w dd), dueD (jdg b n w dd)], rfl, dp_lst upd_same (.cons dO2 (.cons dO2 .nil)), fT, ?_⟩
        refine ⟨rfl, _, rfl, iteFb (ne_self _) ?_⟩
        refine ⟨_, rfl, x, dd, rfl, Dp.kp (Kp.of (gC.trans gE)) dx1, pd.sm.fits, ?_⟩
        refine ⟨_, rfl, rfl, _, rfl, iteFb (ne_self _) ?_⟩
        exact ⟨((G.trans gA).trans gC).trans gE, _, _, _, _, rfl⟩
      rintro σ HA ⟨G, v11, v12, v13, v14, rfl⟩
      have dPA := Dp.kp (Kp.of G) dPC
      refine ⟨_, rfl, _, rfl, _, rfl, _, rfl, b, n, w, v2, papD b n w, rfl, hW, (by rw [eP]; exact dPA), pdP.good, fun vh Hh gh dh => ?_⟩
      have dPh := Dp.kp (Kp.of gh) dPA
      cases dPh with
      | @tup a xs _ sT aT =>
        obtain ⟨y, hy, dy⟩ := dpAll_get (i := 0) aT rfl
        cases dy
        refine ⟨_, rfl, a, _, 0, .str s, rfl, rfl, sT, atI_nat (j := 0) hy, by show 1 ≤ sizeLine; decide, fun pF nF => ?_⟩
        have gF : Gr [] Hh (upd Hh pF (.lst [.str s])) := Gr.new nF
        have ejd : dueD (jdg b n w (papD b n w)) = .list [.str s] := by rw [eJ]; rfl
        rw [ejd] at dh
        have sh : SeqAt.shaped (.list [.str s]) = true ∧ PyData.eqv (.list [.str s]) (.list [.str s]) = true := by
          rcases hs with rfl | rfl | rfl <;> decide +kernel
        refine ⟨.list [.str s], .list [.str s], Dp.kp (Kp.of gF) dh, dp_lst upd_same (.cons (.str _) .nil), sh.1, sh.1, ?_⟩
        rw [sh.2]
        exact q _ (GC.trans (gr0 ((G.trans gh).trans gF))) (MC.gr ((G.trans gh).trans gF))

end
end Wn
namespace Wn
open PySem PySem.Spec PyProof.Rows L2
local macro_rules | `(tactic| walk_at "vc") => `(tactic| simp only [cxK, cxK2, start1, start2, start3, tRet, tRetN, tSeq, tNext, tIfS, tAsg, gName, tDrop, tVar, tC, tOp, tUn, tTest, tB, tNot, tAnd, tOr, tAndV, tOrV, tNotV, tIf, tCons, tNil, tCB, tCall, tChain, tAug, ipI, rI, rI0, rU, rIs, rGcd, rEq, rNe, scal,
  List.getElem?_cons_zero, List.getElem?_cons_succ, List.set_cons_zero, List.set_cons_succ, Option.some.injEq, List.cons.injEq, V.int.injEq, V.bl.injEq, V.ref.injEq, V.str.injEq, and_true, true_and, exists_eq_left, exists_eq_left', exists_and_left, exists_and_right, List.append_nil, List.nil_append, List.cons_append, exists_eq_right, exists_eq_right', and_assoc, exists_const, V.ty.injEq, ↓reduceIte, Bool.false_eq_true, Bool.not_true, Bool.not_false, decide_eq_true_eq])

section
variable {P : Program} {w : World} {K : PySem.W.Frag} {mg : Str → Option Value} {base : Heap}

theorem ev_neg {σ : L2.St} {H : Hp} {i : Int} : EvD K (tUn (rU fun i => V.int (-i)) (tC (.int i))) σ H (.int (-i)) := fun H1 _ Q q => ⟨i, rfl, q _ H1 (Gr.refl _ _) (.int _)⟩
theorem ev_to {σ : L2.St} {H : Hp} {te : TE} {d e : PyData} (h : EvD K te σ H d) (z : d = e) : EvD K te σ H e := z ▸ h
def parB (b n p q h L : Nat) : Bool := decide (n = p * q) && Nat.gcd b p == 1 && b ^ 20 % q == 0 && b ^ h % q == 0 && ((List.range h).all fun j => b ^ j % q != 0) && decide (1 ≤ L) && b ^ L % p == 1 % p && ((List.range L).all fun j => j == 0 || b ^ j % p != 1 % p)
theorem par_of {b n p q h L : Nat} (z : parB b n p q h L = true) : Par b n p q h L := by
  unfold parB at z
  simp only [Bool.and_eq_true, decide_eq_true_eq, beq_iff_eq] at z
  obtain ⟨⟨⟨⟨⟨⟨⟨h1, h2⟩, h3⟩, h4⟩, h5⟩, h6⟩, h7⟩, h8⟩ := z
  refine ⟨⟨h2, q, 20, h1, Nat.dvd_of_mod_eq_zero h3⟩, h1, ⟨h4, fun j hj => ?_⟩, ⟨h6, h7, fun j hj1 hj2 => ?_⟩⟩
  · have := List.all_eq_true.mp h5 j (List.mem_range.mpr hj)
    simpa using this
  · have := List.all_eq_true.mp h8 j (List.mem_range.mpr hj2)
    simp only [Bool.or_eq_true, beq_iff_eq, bne_iff_ne] at this
    exact this.resolve_left (by omega)
def fstC (b n c : Nat) (w : Int) : Option Nat := if wt w n ∈ rows b n c then some ((rows b n c).idxOf (wt w n) + 1) else none
def expC (b n h L : Nat) (w : Int) : PyData := match fstC b n (h + L) w with
  | none => .none
  | some k => .tuple [.int (k : Nat), .int (if h ≤ k then L else 0 : Nat)]
def papC (b n h L : Nat) (w : Int) : PyData := match fstC b n (h + L) w with
  | none => .tuple [.str "never", di (rows b n (h + L))]
  | some k => .tuple [.str "exponent", .int (k : Nat)]
theorem fst_of {b n p q h L : Nat} {w : Int} (hn : 1 ≤ n) (P : Par b n p q h L) : fstE b n w = fstC b n (h + L) w := by
  unfold fstE fstC rowE
  rw [hLF_eq hn P]
theorem exp_of {b n p q h L : Nat} {w : Int} (hn : 1 ≤ n) (P : Par b n p q h L) : expD b n w = expC b n h L w := by
  unfold expD expC
  rw [fst_of hn P, hLF_eq hn P]
  all_goals (cases fstC b n (h + L) w <;> rfl)
theorem pap_of {b n p q h L : Nat} {w : Int} (hn : 1 ≤ n) (P : Par b n p q h L) : papD b n w = papC b n h L w := by
  unfold papD papC rowE
  rw [fst_of hn P, hLF_eq hn P]
  all_goals (cases fstC b n (h + L) w <;> rfl)
theorem fits_none : Fits .none := (sm0 smN).fits
theorem fits_two {i j : Int} (h1 : i.natAbs < 2 ^ 30) (h2 : j.natAbs < 2 ^ 30) : Fits (.tuple [.int i, .int j]) := (smT (fun x hx => by
  simp only [List.mem_cons, List.not_mem_nil, or_false] at hx
  rcases hx with rfl | rfl
  · exact sm0 (smI h1)
  · exact sm0 (smI h2)) (by simp)).fits
theorem rows13 : ∀ dd ∈ (([.tuple [.int 7, .int (-1), .tuple [.int 3, .int 6]], .tuple [.int 7, .int 1, .tuple [.int 6, .int 6]], .tuple [.int 7, .int 0, .none], .tuple [.int 11, .int (-1), .tuple [.int 1, .int 2]], .tuple [.int 8, .int 0, .tuple [.int 3, .int 1]], .tuple [.int 8, .int 4, .tuple [.int 2, .int 0]]] ++ [.tuple [.int 8, .int 1, .none], .tuple [.int 12, .int 10, .tuple [.int 1, .int 0]], .tuple [.int 12, .int 4, .tuple [.int 2, .int 1]], .tuple [.int 12, .int 8, .none], .tuple [.int 1, .int 900, .tuple [.int 1, .int 1]]]) ++ [.tuple [.int 28, .int 16, .tuple [.int 2, .int 6]], .tuple [.int 28, .int 10, .tuple [.int 1, .int 0]]] : List PyData), ∃ (n : Nat) (w : Int) (du : PyData), dd = .tuple [.int n, .int w, du] ∧ BNW 10 n w ∧ expD 10 n w = du ∧ Fits du := by
  intro dd hd
  simp only [List.cons_append, List.nil_append, List.mem_cons, List.not_mem_nil, or_false] at hd
  rcases hd with rfl | rfl | rfl | rfl | rfl | rfl | rfl | rfl | rfl | rfl | rfl | rfl | rfl
  · exact ⟨7, -1, _, rfl, ⟨⟨by decide, by decide, by decide, by decide⟩, by decide, by decide⟩, (exp_of (by decide) (par_of (p := 7) (q := 1) (h := 0) (L := 6) (by decide +kernel))).trans (by rfl), fits_two (by decide) (by decide)⟩
  · exact ⟨7, 1, _, rfl, ⟨⟨by decide, by decide, by decide, by decide⟩, by decide, by decide⟩, (exp_of (by decide) (par_of (p := 7) (q := 1) (h := 0) (L := 6) (by decide +kernel))).trans (by rfl), fits_two (by decide) (by decide)⟩
  · exact ⟨7, 0, _, rfl, ⟨⟨by decide, by decide, by decide, by decide⟩, by decide, by decide⟩, (exp_of (by decide) (par_of (p := 7) (q := 1) (h := 0) (L := 6) (by decide +kernel))).trans (by rfl), fits_none⟩
  · exact ⟨11, -1, _, rfl, ⟨⟨by decide, by decide, by decide, by decide⟩, by decide, by decide⟩, (exp_of (by decide) (par_of (p := 11) (q := 1) (h := 0) (L := 2) (by decide +kernel))).trans (by rfl), fits_two (by decide) (by decide)⟩
  · exact ⟨8, 0, _, rfl, ⟨⟨by decide, by decide, by decide, by decide⟩, by decide, by decide⟩, (exp_of (by decide) (par_of (p := 1) (q := 8) (h := 3) (L := 1) (by decide +kernel))).trans (by rfl), fits_two (by decide) (by decide)⟩
  · exact ⟨8, 4, _, rfl, ⟨⟨by decide, by decide, by decide, by decide⟩, by decide, by decide⟩, (exp_of (by decide) (par_of (p := 1) (q := 8) (h := 3) (L := 1) (by decide +kernel))).trans (by rfl), fits_two (by decide) (by decide)⟩
  · exact ⟨8, 1, _, rfl, ⟨⟨by decide, by decide, by decide, by decide⟩, by decide, by decide⟩, (exp_of (by decide) (par_of (p := 1) (q := 8) (h := 3) (L := 1) (by decide +kernel))).trans (by rfl), fits_none⟩
  · exact ⟨12, 10, _, rfl, ⟨⟨by decide, by decide, by decide, by decide⟩, by decide, by decide⟩, (exp_of (by decide) (par_of (p := 3) (q := 4) (h := 2) (L := 1) (by decide +kernel))).trans (by rfl), fits_two (by decide) (by decide)⟩
  · exact ⟨12, 4, _, rfl, ⟨⟨by decide, by decide, by decide, by decide⟩, by decide, by decide⟩, (exp_of (by decide) (par_of (p := 3) (q := 4) (h := 2) (L := 1) (by decide +kernel))).trans (by rfl), fits_two (by decide) (by decide)⟩
  · exact ⟨12, 8, _, rfl, ⟨⟨by decide, by decide, by decide, by decide⟩, by decide, by decide⟩, (exp_of (by decide) (par_of (p := 3) (q := 4) (h := 2) (L := 1) (by decide +kernel))).trans (by rfl), fits_none⟩
  · exact ⟨1, 900, _, rfl, ⟨⟨by decide, by decide, by decide, by decide⟩, by decide, by decide⟩, (exp_of (by decide) (par_of (p := 1) (q := 1) (h := 0) (L := 1) (by decide +kernel))).trans (by rfl), fits_two (by decide) (by decide)⟩
  · exact ⟨28, 16, _, rfl, ⟨⟨by decide, by decide, by decide, by decide⟩, by decide, by decide⟩, (exp_of (by decide) (par_of (p := 7) (q := 4) (h := 2) (L := 6) (by decide +kernel))).trans (by rfl), fits_two (by decide) (by decide)⟩
  · exact ⟨28, 10, _, rfl, ⟨⟨by decide, by decide, by decide, by decide⟩, by decide, by decide⟩, (exp_of (by decide) (par_of (p := 7) (q := 4) (h := 2) (L := 6) (by decide +kernel))).trans (by rfl), fits_two (by decide) (by decide)⟩
theorem pv10_7_m1 : papD 10 7 (-1) = .tuple [.str "exponent", .int 3] := (pap_of (by decide) (par_of (p := 7) (q := 1) (h := 0) (L := 6) (by decide +kernel))).trans (by rfl)
theorem pv10_7_0 : papD 10 7 (0) = .tuple [.str "never", .tuple [.int 3, .int 2, .int 6, .int 4, .int 5, .int 1]] := (pap_of (by decide) (par_of (p := 7) (q := 1) (h := 0) (L := 6) (by decide +kernel))).trans (by rfl)
theorem pv2_7_3 : papD 2 7 (3) = .tuple [.str "never", .tuple [.int 2, .int 4, .int 1]] := (pap_of (by decide) (par_of (p := 7) (q := 1) (h := 0) (L := 3) (by decide +kernel))).trans (by rfl)
theorem pv10_4_0 : papD 10 4 (0) = .tuple [.str "exponent", .int 2] := (pap_of (by decide) (par_of (p := 1) (q := 4) (h := 2) (L := 1) (by decide +kernel))).trans (by rfl)

theorem ev_pap {b n : Nat} {w : Int} {σ : L2.St} {H : Hp} (h : BNW b n w) : EvD K (tCall (sp_exponent_paper K) [] E0 (tCons (tC (.int (b : Nat))) (tCons (tC (.int (n : Nat))) (tCons (tC (.int w)) tNil)))) σ H (papD b n w) := fun H1 g Q q => ⟨b, n, w, rfl, h, fun v H' g d => q v H' g d⟩
theorem ev_papN {b n : Nat} {w : Int} {σ : L2.St} {H : Hp} (h : BNW b n (-w)) : EvD K (tCall (sp_exponent_paper K) [] E0 (tCons (tC (.int (b : Nat))) (tCons (tC (.int (n : Nat))) (tCons (tUn (rU fun i => V.int (-i)) (tC (.int w))) tNil)))) σ H (papD b n (-w)) := fun H1 g Q q => ⟨w, rfl, b, n, -w, rfl, h, fun v H' g d => q v H' g d⟩
theorem bnw {b n : Nat} {w : Int} (h : (2 ≤ b ∧ b ≤ 1000 ∧ 1 ≤ n ∧ n ≤ 5000) ∧ -1000 ≤ w ∧ w ≤ 1000) : BNW b n w := h
theorem jdg_e {b n k : Nat} {w : Int} {x : Bool} (h : ((decide (1 ≤ (k : Int)) && decide ((k : Int) ≤ 10000)) && decide (b ^ k % n = wt w n)) = x) : jdg b n w (.tuple [.str "exponent", .int (k : Nat)]) = (x, ("exponent" : Str)) := by
  rw [jdg_pair, if_pos rfl, ← h]
  rfl
theorem good_e {k : Nat} (h : k < 20000) : GoodD (.tuple [.str "exponent", .int (k : Nat)]) := (pdX (b := 10) (n := 7) (SmE.int (by rw [Int.natAbs_natCast]; exact Nat.lt_trans h (by decide)))).good
theorem jdg_n7 : jdg 10 7 0 (.tuple [.str "never", .tuple [.int 3]]) = (false, ("never" : Str)) := by
  rw [jdg_pair, if_neg never_ne, if_pos rfl]
  have e : isRow (rowE 10 7) (.tuple [.int 3]) = false := by
    have P : Par 10 7 7 1 0 6 := par_of (by decide +kernel)
    have er : rowE 10 7 = [3, 2, 6, 4, 5, 1] := by
      unfold rowE
      rw [hLF_eq (by decide) P]
      rfl
    rw [er]
    exact (isRow_di [3, 2, 6, 4, 5, 1] [3]).trans (by decide)
  rw [e]
  rfl
theorem good_n7 : GoodD (.tuple [.str "never", .tuple [.int 3]]) := fun s e z => by
  injection z with z
  injection z with _ z
  injection z with z
  subst z
  exact ⟨by decide +kernel, fun l ds z h => by
    injection z with z
    subst z
    subst h
    decide⟩
theorem head0 {b n p q h : Nat} (hp : IsPure b n p) (e : n = p * q) (hh : IsHead b q h) (g : Nat.gcd b n = 1) (hn : 1 ≤ n) : p = n ∧ h = 0 := by
  have ep : p = n := hp.uniq (IsPure.self g)
  subst ep
  have eq : q = 1 := by
    have := Nat.eq_of_mul_eq_mul_left (show 0 < p by omega) (show p * q = p * 1 by omega)
    exact this
  subst eq
  refine ⟨rfl, ?_⟩
  rcases Nat.eq_zero_or_pos h with z | z
  · exact z
  · exact absurd (Nat.mod_one _) (hh.2 0 z)
theorem big_some : ∃ k, fstE 7 4999 1 = some k := by
  cases hf : fstE 7 4999 1 with
  | some k => exact ⟨k, rfl⟩
  | none =>
    have hm := fst_none.mp hf
    exfalso
    refine hm ?_
    obtain ⟨p, q, P⟩ := hLF_is 7 4999 (by decide)
    have hg : Nat.gcd 7 4999 = 1 := by decide +kernel
    obtain ⟨ep, eh⟩ := head0 P.hp P.e P.hh hg (by decide)
    have hL := P.hL
    rw [ep] at hL
    have e1 : wt 1 4999 = 1 % 4999 := by decide
    rw [e1, ← hL.2.1]
    have h1 := hL.1
    refine List.mem_map.mpr ⟨(hLF 7 4999).2 - 1, List.mem_range.mpr (by omega), ?_⟩
    rw [Nat.sub_add_cancel h1]
def sp_law_hand : Sp := fun vs H Q _ => vs = [] ∧ ∀ H', Gr [] H H' → Q (.bl true) H'

end
end Wn
namespace Wn
open PySem PySem.Spec PyProof.Rows L2
local macro_rules | `(tactic| walk_at "vc") => `(tactic| simp only [cxK, cxK2, start1, start2, start3, tRet, tRetN, tSeq, tNext, tIfS, tAsg, gName, tDrop, tVar, tC, tOp, tUn, tTest, tB, tNot, tAnd, tOr, tAndV, tOrV, tNotV, tIf, tCons, tNil, tCB, tCall, tChain, tAug, ipI, rI, rI0, rU, rIs, rGcd, rEq, rNe, scal,
  List.getElem?_cons_zero, List.getElem?_cons_succ, List.set_cons_zero, List.set_cons_succ, Option.some.injEq, List.cons.injEq, V.int.injEq, V.bl.injEq, V.ref.injEq, V.str.injEq, and_true, true_and, exists_eq_left, exists_eq_left', exists_and_left, exists_and_right, List.append_nil, List.nil_append, List.cons_append, exists_eq_right, exists_eq_right', and_assoc, exists_const, V.ty.injEq, ↓reduceIte, Bool.false_eq_true, Bool.not_true, Bool.not_false, decide_eq_true_eq])

section
variable {P : Program} {w : World} {K : PySem.W.Frag} {mg : Str → Option Value} {base : Heap}
theorem okG_law_hand_right (T : Txt K mg) : FnG P w K mg base CX0 11 T.d_law_hand_right.f T.d_law_hand_right.fd [] sp_law_hand := by
  refine fnG0 T.d_law_hand_right.F sc_law_hand_right (fun vs H Q E h => ?_) (fun cdv A outer s H vs Q E hgd hr h => ?_)
  · obtain ⟨rfl, _⟩ := h; rfl
  · have hu := hu_of hr
    refine ⟨_, (pss_cons (ps_set (i := 0) sc_law_hand_right.nd rfl (by first | exact .inl rfl | exact .inr rfl) (pe_lst (pa_cons (pe_tup (pa_cons pe_int (pa_cons (pe_un un_neg pe_int) (pa_cons (pe_tup (pa_cons pe_int (pa_cons pe_int pa_nil))) pa_nil)))) (pa_cons (pe_tup (pa_cons pe_int (pa_cons pe_int (pa_cons (pe_tup (pa_cons pe_int (pa_cons pe_int pa_nil))) pa_nil)))) (pa_cons (pe_tup (pa_cons pe_int (pa_cons pe_int (pa_cons pe_non pa_nil)))) (pa_cons (pe_tup (pa_cons pe_int (pa_cons (pe_un un_neg pe_int) (pa_cons (pe_tup (pa_cons pe_int (pa_cons pe_int pa_nil))) pa_nil)))) (pa_cons (pe_tup (pa_cons pe_int (pa_cons pe_int (pa_cons (pe_tup (pa_cons pe_int (pa_cons pe_int pa_nil))) pa_nil)))) (pa_cons (pe_tup (pa_cons pe_int (pa_cons pe_int (pa_cons (pe_tup (pa_cons pe_int (pa_cons pe_int pa_nil))) pa_nil)))) pa_nil))))))))
      (pss_cons (ps_set (i := 0) sc_law_hand_right.nd rfl (by first | exact .inl rfl | exact .inr rfl) (pe_op op_cat (pv 0) (pe_lst (pa_cons (pe_tup (pa_cons pe_int (pa_cons pe_int (pa_cons pe_non pa_nil)))) (pa_cons (pe_tup (pa_cons pe_int (pa_cons pe_int (pa_cons (pe_tup (pa_cons pe_int (pa_cons pe_int pa_nil))) pa_nil)))) (pa_cons (pe_tup (pa_cons pe_int (pa_cons pe_int (pa_cons (pe_tup (pa_cons pe_int (pa_cons pe_int pa_nil))) pa_nil)))) (pa_cons (pe_tup (pa_cons pe_int (pa_cons pe_int (pa_cons pe_non pa_nil)))) (pa_cons (pe_tup (pa_cons pe_int (pa_cons pe_int (pa_cons (pe_tup (pa_cons pe_int (pa_cons pe_int pa_nil))) pa_nil)))) pa_nil))))))))
      (pss_cons (ps_set (i := 0) sc_law_hand_right.nd rfl (by first | exact .inl rfl | exact .inr rfl) (pe_op op_cat (pv 0) (pe_lst (pa_cons (pe_tup (pa_cons pe_int (pa_cons pe_int (pa_cons (pe_tup (pa_cons pe_int (pa_cons pe_int pa_nil))) pa_nil)))) (pa_cons (pe_tup (pa_cons pe_int (pa_cons pe_int (pa_cons (pe_tup (pa_cons pe_int (pa_cons pe_int pa_nil))) pa_nil)))) pa_nil)))))
      (pss_cons (ps_for PassesOwn.never rfl (pi_list (pv 0)) (pg_tup (by rfl) (pgs_cons (pg_name (i := 1) sc_law_hand_right.nd rfl (by first | exact .inl rfl | exact .inr rfl)) (pgs_cons (pg_name (i := 2) sc_law_hand_right.nd rfl (by first | exact .inl rfl | exact .inr rfl)) (pgs_cons (pg_name (i := 3) sc_law_hand_right.nd rfl (by first | exact .inl rfl | exact .inr rfl)) pgs_nil)))) (pss_one (ps_if (pt_cmpR op_ne (pe_callB (r := rRepr K) (call_repr hgd (gu_of hr)) (by rfl) T.b_repr (by decide +kernel) (pa_cons (pe_call (ok_exponents T) (hr.mono (by decide)) (by rfl) T.d_exponents.m T.d_exponents.F.kp T.d_exponents.b .nil pass0 (pa_cons pe_int (pa_cons (pv 1) (pa_cons (pv 2) pa_nil)))) pa_nil)) (pe_callB (r := rRepr K) (call_repr hgd (gu_of hr)) (by rfl) T.b_repr (by decide +kernel) (pa_cons (pv 3) pa_nil)) (nomark _)) (pss_one (ps_ret pe_bl)) pss_nil)))
      (pss_cons (ps_set (i := 4) sc_law_hand_right.nd rfl (by first | exact .inl rfl | exact .inr rfl) (pe_lst (pa_cons (pe_call (ok_exponent_paper T) (hr.mono (by decide)) (by rfl) T.d_exponent_paper.m T.d_exponent_paper.F.kp T.d_exponent_paper.b .nil pass0 (pa_cons pe_int (pa_cons pe_int (pa_cons (pe_un un_neg pe_int) pa_nil)))) (pa_cons (pe_call (ok_exponent_paper T) (hr.mono (by decide)) (by rfl) T.d_exponent_paper.m T.d_exponent_paper.F.kp T.d_exponent_paper.b .nil pass0 (pa_cons pe_int (pa_cons pe_int (pa_cons pe_int pa_nil)))) (pa_cons (pe_call (ok_exponent_paper T) (hr.mono (by decide)) (by rfl) T.d_exponent_paper.m T.d_exponent_paper.F.kp T.d_exponent_paper.b .nil pass0 (pa_cons pe_int (pa_cons pe_int (pa_cons pe_int pa_nil)))) (pa_cons (pe_call (ok_exponent_paper T) (hr.mono (by decide)) (by rfl) T.d_exponent_paper.m T.d_exponent_paper.F.kp T.d_exponent_paper.b .nil pass0 (pa_cons pe_int (pa_cons pe_int (pa_cons pe_int pa_nil)))) pa_nil))))))
      (pss_cons (ps_if (pt_cmpR (r := rNeD K) (op_neD hr.units) (pv 4) (pe_lst (pa_cons (pe_tup (pa_cons pe_str (pa_cons pe_int pa_nil))) (pa_cons (pe_tup (pa_cons pe_str (pa_cons (pe_tup (pa_cons pe_int (pa_cons pe_int (pa_cons pe_int (pa_cons pe_int (pa_cons pe_int (pa_cons pe_int pa_nil))))))) pa_nil))) (pa_cons (pe_tup (pa_cons pe_str (pa_cons (pe_tup (pa_cons pe_int (pa_cons pe_int (pa_cons pe_int pa_nil)))) pa_nil))) (pa_cons (pe_tup (pa_cons pe_str (pa_cons pe_int pa_nil))) pa_nil))))) (nomark _)) (pss_one (ps_ret pe_bl)) pss_nil)
      (pss_cons (ps_set (i := 4) sc_law_hand_right.nd rfl (by first | exact .inl rfl | exact .inr rfl) (pe_op op_cat (pe_lc (own := [("k", 5)]) (g := gName 5) (tt := tYes) rfl sc_law_hand_right.nd (pi_tup (pe_tup (pa_cons pe_int (pa_cons pe_int pa_nil)))) (blkOk_by (own := [("k", 5)]) (N := ["rows", "n", "weight_so", "due", "told", "k"]) (sc := defScope s_law_hand_right) (by decide +kernel)) (fun _ _ _ _ _ => (pg_name (i := 5) sc_law_hand_right.nd rfl (by first | exact .inl rfl | exact .inr rfl))) (fun _ _ _ _ _ => pts_nil) (fun _ _ _ _ _ => (pe_call (ok_law_heard T) (hr.mono (by decide)) (by rfl) T.d_law_heard.m T.d_law_heard.F.kp T.d_law_heard.b .nil pass0 (pa_cons pe_int (pa_cons pe_int (pa_cons (pe_un un_neg pe_int) (pa_cons (pe_tup (pa_cons pe_str (pa_cons (pv 5) pa_nil))) pa_nil))))))) (pe_lst (pa_cons (pe_call (ok_law_heard T) (hr.mono (by decide)) (by rfl) T.d_law_heard.m T.d_law_heard.F.kp T.d_law_heard.b .nil pass0 (pa_cons pe_int (pa_cons pe_int (pa_cons pe_int (pa_cons (pe_tup (pa_cons pe_str (pa_cons (pe_tup (pa_cons pe_int pa_nil)) pa_nil))) pa_nil))))) pa_nil))))
      (pss_cons (ps_set (i := 4) sc_law_hand_right.nd rfl (by first | exact .inl rfl | exact .inr rfl) (pe_op op_cat (pv 4) (pe_lc (own := [("k", 5)]) (g := gName 5) (tt := tYes) rfl sc_law_hand_right.nd (pi_tup (pe_tup (pa_cons pe_int (pa_cons pe_int pa_nil)))) (blkOk_by (own := [("k", 5)]) (N := ["rows", "n", "weight_so", "due", "told", "k"]) (sc := defScope s_law_hand_right) (by decide +kernel)) (fun _ _ _ _ _ => (pg_name (i := 5) sc_law_hand_right.nd rfl (by first | exact .inl rfl | exact .inr rfl))) (fun _ _ _ _ _ => pts_nil) (fun _ _ _ _ _ => (pe_call (ok_law_heard T) (hr.mono (by decide)) (by rfl) T.d_law_heard.m T.d_law_heard.F.kp T.d_law_heard.b .nil pass0 (pa_cons pe_int (pa_cons pe_int (pa_cons pe_int (pa_cons (pe_tup (pa_cons pe_str (pa_cons (pv 5) pa_nil))) pa_nil)))))))))
      (pss_cons (ps_set (i := 3) sc_law_hand_right.nd rfl (by first | exact .inl rfl | exact .inr rfl) (pe_lst (pa_cons (pe_lst (pa_cons pe_str pa_nil)) (pa_cons (pe_lst (pa_cons pe_str pa_nil)) (pa_cons pe_str (pa_cons (pe_lst (pa_cons pe_str pa_nil)) (pa_cons pe_str pa_nil)))))))
      (pss_one (ps_ret (pe_and (pe_cmpR (r := rEqD K) (op_eqD hr.units) (pv 4) (pv 3) (nomark _)) (pe_one (pe_cmpR op_notN (pe_call (ok_exponents T) (hr.mono (by decide)) (by rfl) T.d_exponents.m T.d_exponents.F.kp T.d_exponents.b .nil pass0 (pa_cons pe_int (pa_cons pe_int (pa_cons pe_int pa_nil)))) pe_non (nomark _))))))))))))))), ?_⟩
    obtain ⟨rfl, q⟩ := h
    refine st_asgL (K := K) (el_lst (es_cons (ev_tup (es_cons ev_int (es_cons ev_neg (es_cons (ev_tup (es_cons ev_int (es_cons ev_int es_nil))) es_nil)))) (es_cons (ev_tup (es_cons ev_int (es_cons ev_int (es_cons (ev_tup (es_cons ev_int (es_cons ev_int es_nil))) es_nil)))) (es_cons (ev_tup (es_cons ev_int (es_cons ev_int (es_cons ev_non es_nil)))) (es_cons (ev_tup (es_cons ev_int (es_cons ev_neg (es_cons (ev_tup (es_cons ev_int (es_cons ev_int es_nil))) es_nil)))) (es_cons (ev_tup (es_cons ev_int (es_cons ev_int (es_cons (ev_tup (es_cons ev_int (es_cons ev_int es_nil))) es_nil)))) (es_cons (ev_tup (es_cons ev_int (es_cons ev_int (es_cons (ev_tup (es_cons ev_int (es_cons ev_int es_nil))) es_nil)))) es_nil))))))) fun l1 xs1 H1 g1 e1 a1 => ?_
    refine st_asgL (K := K) (el_cat (ev_varL rfl e1 a1) (el_lst (es_cons (ev_tup (es_cons ev_int (es_cons ev_int (es_cons ev_non es_nil)))) (es_cons (ev_tup (es_cons ev_int (es_cons ev_int (es_cons (ev_tup (es_cons ev_int (es_cons ev_int es_nil))) es_nil)))) (es_cons (ev_tup (es_cons ev_int (es_cons ev_int (es_cons (ev_tup (es_cons ev_int (es_cons ev_int es_nil))) es_nil)))) (es_cons (ev_tup (es_cons ev_int (es_cons ev_int (es_cons ev_non es_nil)))) (es_cons (ev_tup (es_cons ev_int (es_cons ev_int (es_cons (ev_tup (es_cons ev_int (es_cons ev_int es_nil))) es_nil)))) es_nil))))))) fun l2 xs2 H2 g2 e2 a2 => ?_
    refine st_asgL (K := K) (el_cat (ev_varL rfl e2 a2) (el_lst (es_cons (ev_tup (es_cons ev_int (es_cons ev_int (es_cons (ev_tup (es_cons ev_int (es_cons ev_int es_nil))) es_nil)))) (es_cons (ev_tup (es_cons ev_int (es_cons ev_int (es_cons (ev_tup (es_cons ev_int (es_cons ev_int es_nil))) es_nil)))) es_nil)))) fun l3 xs3 H3 g3 e3 a3 => ?_
    refine ⟨_, rfl, l3, rfl, ⟨_, sq_lst e3⟩, ?_⟩
    refine for_list (K := K) (a := l3) (xs := xs3) (fun i σ H' => Gr [] H3 H' ∧ ∃ v1 v2 v3, σ = [some (.ref l3), v1, v2, v3, none, none]) ⟨Gr.refl _ _, none, none, none, rfl⟩ (fun i σ H' _ z => sq_lst (z.1 l3 _ (by simp) e3)) ?_ ?_
    · rintro i x σ H' hx ⟨G, v1, v2, v3, rfl⟩
      obtain ⟨dd, hdd, dx⟩ := dpAll_at a3 hx
      obtain ⟨n, w, du, rfl, hW, hE, hF⟩ := rows13 dd (List.mem_of_getElem? hdd)
      have dx := Dp.kp (Kp.of G) dx
      cases dx with
      | @tup a ws _ sT aT =>
        cases aT with
        | cons h1 aT =>
          cases h1
          cases aT with
          | cons h2 aT =>
            cases h2
            cases aT with
            | @cons vd _ _ _ h3 aT =>
              cases aT
              refine ⟨a, _, rfl, sT, rfl, _, _, rfl, _, _, rfl, _, _, rfl, rfl, ?_⟩
              refine ⟨_, rfl, _, rfl, 10, n, w, rfl, hW, fun v H4 g4 d4 => ?_⟩
              rw [hE] at d4
              refine ⟨v, du, rfl, d4, hF, ?_⟩
              refine ⟨_, rfl, vd, du, rfl, Dp.kp (Kp.of g4) h3, hF, ?_⟩
              refine ⟨rfl, _, rfl, iteFb (ne_self _) ?_⟩
              exact ⟨G.trans g4, _, _, _, rfl⟩
    rintro σ H4 ⟨g4, v1, v2, v3, rfl⟩
    refine st_asgD (K := K) (ev_lst (es_cons (ev_to (ev_papN (b := 10) (n := 7) (bnw (by decide))) pv10_7_m1) (es_cons (ev_to (ev_pap (b := 10) (n := 7) (bnw (by decide))) pv10_7_0) (es_cons (ev_to (ev_pap (b := 2) (n := 7) (bnw (by decide))) pv2_7_3) (es_cons (ev_to (ev_pap (b := 10) (n := 4) (bnw (by decide))) pv10_4_0) es_nil))))) fun vt H5 g5 d5 => ?_
    refine tt_of (K := K) (ev_ne (ev_var rfl d5) (ev_lst (es_cons (ev_tup (es_cons ev_str (es_cons ev_int es_nil))) (es_cons (ev_tup (es_cons ev_str (es_cons (ev_tup (es_cons ev_int (es_cons ev_int (es_cons ev_int (es_cons ev_int (es_cons ev_int (es_cons ev_int es_nil))))))) es_nil))) (es_cons (ev_tup (es_cons ev_str (es_cons (ev_tup (es_cons ev_int (es_cons ev_int (es_cons ev_int es_nil)))) es_nil))) (es_cons (ev_tup (es_cons ev_str (es_cons ev_int es_nil))) es_nil))))) (by decide +kernel) (by decide +kernel)) (Gr.refl _ _) fun H6 g6 => ?_
    refine iteFb (by decide +kernel) ?_
    have G6 := ((((g1.trans g2).trans g3).trans g4).trans g5).trans g6
    clear g1 g2 g3 g4 g5 g6 e1 e2 e3 a1 a2 a3 d5
    refine ⟨by show 2 ≤ sizeLine; decide, fun p np => ⟨p, rfl, ⟨_, sq_tup upd_same⟩, fun E nE => ?_⟩⟩
    have hp : (upd H6 p (.tup (vn [9, 9999]))) p = some (.tup (vn [9, 9999])) := upd_same
    have gp : Gr [] H6 (upd H6 p (.tup (vn [9, 9999]))) := Gr.new np
    change (upd H6 p (.tup (vn [9, 9999]))) E = none at nE
    change ∃ Wf : Nat → Nat → Hp → Prop, (∃ m, Wf 0 m (upd (upd H6 p (.tup (vn [9, 9999]))) E (.lst []))) ∧ _
    generalize upd H6 p (.tup (vn [9, 9999])) = HP at hp gp nE ⊢
    refine lc_tup (K := K) (a := p) (xs := vn [9, 9999]) (fun i H' => Gr [] HP H' ∧ ∃ us, H' E = some (.lst us) ∧ DpAll K (hid [E] H') us (List.replicate i (dueD (true, ("exponent" : Str))))) ⟨Gr.new nE, [], upd_same, .nil⟩ (fun i H' _ z => sq_tup (z.1 p _ (by simp) hp)) ?_ ?_
    · rintro i y H' hy ⟨G, us, hE, aU⟩
      obtain ⟨hi, rfl⟩ := vn_get hy
      have hi2 : i < 2 := hi
      have hj : jdg 10 7 (-1) (.tuple [.str "exponent", .int ([9, 9999][i] : Nat)]) = (true, ("exponent" : Str)) ∧ [9, 9999][i] < 20000 := by
        match i, hi2 with
        | 0, _ => exact ⟨jdg_e (k := 9) (by decide +kernel), show 9 < 20000 by decide⟩
        | 1, _ => exact ⟨jdg_e (k := 9999) (by decide +kernel), show 9999 < 20000 by decide⟩
      generalize [9, 9999][i] = z at hj ⊢
      have lu : us.length = i := by rw [dpAll_len aU, List.length_replicate]
      refine ⟨rfl, ?_⟩
      dsimp only [tYes]
      refine iteT ?_
      refine ⟨1, rfl, _, rfl, by show 2 ≤ sizeLine; decide, fun p2 np2 => ?_⟩
      refine ⟨10, 7, -1, .ref p2, .tuple [.str "exponent", .int (z : Nat)], rfl, bnw (by decide), dp_tup upd_same (.cons (.str _) (.cons (.int _) .nil)), good_e hj.2, fun v3 HB gB d3 => ?_⟩
      rw [hj.1] at d3
      have g3 := (Gr.new (W := []) (o := .tup [.str "exponent", .int (z : Nat)]) np2).trans gB
      have hEB := g3 E _ (by simp) hE
      have d4 := dp_hid_due d3 hEB aU
      have gC : Gr [E] HB (upd HB E (.lst (us ++ [v3]))) := Gr.wr (by simp)
      refine ⟨us, hEB, Nat.lt_of_lt_of_le (show us.length < 7000 by omega) (by decide), fresh_keep nE (G.trans g3) gC, us ++ [v3], upd_same, ?_⟩
      rw [List.replicate_succ']
      exact dpAll_append (DpAll.kp ((hid_kp (gr0 g3)).trans (hid_kp gC)) aU) (.cons (Dp.kp (hid_kp gC) d4) .nil)
    rintro HB ⟨gB, us, hE, aU⟩
    have aU2 : DpAll K HB us [dueD (true, ("exponent" : Str)), dueD (true, ("exponent" : Str))] := DpAll.kp hid_out aU
    refine ⟨by show 1 ≤ sizeLine; decide, fun p3 np3 => ⟨by show 2 ≤ sizeLine; decide, fun p4 np4 => ?_⟩⟩
    have g3 : Gr [] HB (upd HB p3 (.tup [.int 3])) := Gr.new np3
    have h3 : (upd HB p3 (.tup [.int 3])) p3 = some (.tup [.int 3]) := upd_same
    have g4 : Gr [] (upd HB p3 (.tup [.int 3])) (upd (upd HB p3 (.tup [.int 3])) p4 (.tup [.str "never", .ref p3])) := Gr.new np4
    refine ⟨10, 7, 0, .ref p4, .tuple [.str "never", .tuple [.int 3]], rfl, bnw (by decide), dp_tup upd_same (.cons (.str _) (.cons (dp_tup (g4 p3 _ (by simp) h3) (.cons (.int _) .nil)) .nil)), good_n7, fun v5 H7 g7 d7 => ?_⟩
    rw [jdg_n7] at d7
    refine ⟨by show 1 ≤ sizeLine; decide, fun p5 np5 => ?_⟩
    have g5 : Gr [] H7 (upd H7 p5 (.lst [v5])) := Gr.new np5
    have g37 := (g3.trans g4).trans g7
    have lu : us.length = 2 := by rw [dpAll_len aU2]; rfl
    refine ⟨E, p5, us, [v5], rfl, rfl, (g37.trans g5) E _ (by simp) hE, upd_same, Nat.le_trans (show us.length + 1 ≤ 7000 by omega) (by decide), fun p6 np6 => ?_⟩
    have g6 : Gr [] (upd H7 p5 (.lst [v5])) (upd (upd H7 p5 (.lst [v5])) p6 (.lst (us ++ [v5]))) := Gr.new np6
    have a8 := dpAll_append (DpAll.kp (Kp.of ((g37.trans g5).trans g6)) aU2) (.cons (Dp.kp (Kp.of (g5.trans g6)) d7) .nil)
    have h8 : (upd (upd H7 p5 (.lst [v5])) p6 (.lst (us ++ [v5]))) p6 = some (.lst (us ++ [v5])) := upd_same
    have G8 := (G6.trans gp).trans (gB.trans ((g37.trans g5).trans g6))
    clear g3 g4 g5 g6 g7 g37 gp gB hp nE hE aU aU2 d7 h3 np np3 np4 np5 np6 G6
    generalize upd (upd H7 p5 (.lst [v5])) p6 (.lst (us ++ [v5])) = H8 at a8 h8 G8 ⊢
    have l8 : (us ++ [v5]).length = 3 := by rw [List.length_append, lu]; rfl
    generalize us ++ [v5] = u8 at a8 h8 l8 ⊢
    refine ⟨_, rfl, by show 2 ≤ sizeLine; decide, fun p np => ⟨p, rfl, ⟨_, sq_tup upd_same⟩, fun E2 nE => ?_⟩⟩
    have hp : (upd H8 p (.tup (vn [10000, 10001]))) p = some (.tup (vn [10000, 10001])) := upd_same
    have gp : Gr [] H8 (upd H8 p (.tup (vn [10000, 10001]))) := Gr.new np
    change (upd H8 p (.tup (vn [10000, 10001]))) E2 = none at nE
    change ∃ Wf : Nat → Nat → Hp → Prop, (∃ m, Wf 0 m (upd (upd H8 p (.tup (vn [10000, 10001]))) E2 (.lst []))) ∧ _
    generalize upd H8 p (.tup (vn [10000, 10001])) = HP at hp gp nE ⊢
    refine lc_tup (K := K) (a := p) (xs := vn [10000, 10001]) (fun i H' => Gr [] HP H' ∧ ∃ us, H' E2 = some (.lst us) ∧ DpAll K (hid [E2] H') us (([dueD (true, ("exponent" : Str)), dueD (false, ("exponent" : Str))] : List PyData).take i)) ⟨Gr.new nE, [], upd_same, .nil⟩ (fun i H' _ z => sq_tup (z.1 p _ (by simp) hp)) ?_ ?_
    · rintro i y H' hy ⟨G, us, hE, aU⟩
      obtain ⟨hi, rfl⟩ := vn_get hy
      have hi2 : i < 2 := hi
      have hi3 : i < ([dueD (true, ("exponent" : Str)), dueD (false, ("exponent" : Str))] : List PyData).length := hi
      have hj : dueD (jdg 10 9 1 (.tuple [.str "exponent", .int ([10000, 10001][i] : Nat)])) = ([dueD (true, ("exponent" : Str)), dueD (false, ("exponent" : Str))] : List PyData)[i] ∧ [10000, 10001][i] < 20000 := by
        match i, hi2 with
        | 0, _ => exact ⟨congrArg dueD (jdg_e (b := 10) (n := 9) (w := 1) (k := 10000) (x := true) (by decide +kernel)), show 10000 < 20000 by decide⟩
        | 1, _ => exact ⟨congrArg dueD (jdg_e (b := 10) (n := 9) (w := 1) (k := 10001) (x := false) (by decide +kernel)), show 10001 < 20000 by decide⟩
      have lu : us.length = i := by rw [dpAll_len aU, List.length_take]; show min i 2 = i; omega
      generalize [10000, 10001][i] = z at hj ⊢
      refine ⟨rfl, ?_⟩
      dsimp only [tYes]
      refine iteT ?_
      refine ⟨_, rfl, by show 2 ≤ sizeLine; decide, fun p2 np2 => ?_⟩
      refine ⟨10, 9, 1, .ref p2, .tuple [.str "exponent", .int (z : Nat)], rfl, bnw (by decide), dp_tup upd_same (.cons (.str _) (.cons (.int _) .nil)), good_e hj.2, fun v3 HB gB d3 => ?_⟩
      rw [hj.1] at d3
      have g3 := (Gr.new (W := []) (o := .tup [.str "exponent", .int (z : Nat)]) np2).trans gB
      have hEB := g3 E2 _ (by simp) hE
      have d4 : Dp K (hid [E2] HB) v3 ([dueD (true, ("exponent" : Str)), dueD (false, ("exponent" : Str))] : List PyData)[i] := by
        match i, hi2 with
        | 0, _ => exact dp_hid_due (j := 0) (r := (true, ("exponent" : Str))) d3 hEB aU
        | 1, _ =>
          have d3 : Dp K HB v3 (.str "exponent") := d3
          cases d3
          exact .str _
      have gC : Gr [E2] HB (upd HB E2 (.lst (us ++ [v3]))) := Gr.wr (by simp)
      refine ⟨us, hEB, Nat.lt_of_lt_of_le (show us.length < 7000 by omega) (by decide), fresh_keep nE (G.trans g3) gC, us ++ [v3], upd_same, ?_⟩
      rw [List.take_succ_eq_append_getElem hi3]
      exact dpAll_append (DpAll.kp ((hid_kp (gr0 g3)).trans (hid_kp gC)) aU) (.cons (Dp.kp (hid_kp gC) d4) .nil)
    rintro HC ⟨gC, us2, hE2, aU⟩
    have aU3 : DpAll K HC us2 [dueD (true, ("exponent" : Str)), dueD (false, ("exponent" : Str))] := DpAll.kp hid_out aU
    have l2 : us2.length = 2 := by rw [dpAll_len aU3]; rfl
    refine ⟨p6, E2, u8, us2, rfl, rfl, (gp.trans gC) p6 _ (by simp) h8, hE2, Nat.le_trans (show u8.length + us2.length ≤ 7000 by omega) (by decide), fun p9 np9 => ?_⟩
    have g9 : Gr [] HC (upd HC p9 (.lst (u8 ++ us2))) := Gr.new np9
    have a9 := dpAll_append (DpAll.kp (Kp.of ((gp.trans gC).trans g9)) a8) (DpAll.kp (Kp.of g9) aU3)
    have d9 := dp_lst (K := K) (show (upd HC p9 (.lst (u8 ++ us2))) p9 = some (.lst (u8 ++ us2)) from upd_same) a9
    have G9 := (G8.trans gp).trans (gC.trans g9)
    generalize upd HC p9 (.lst (u8 ++ us2)) = H9 at d9 G9 ⊢
    have d9 : Dp K H9 (.ref p9) (.list [.list [.str "exponent"], .list [.str "exponent"], .str "never", .list [.str "exponent"], .str "exponent"]) := d9
    refine st_asgD (K := K) (ev_lst (es_cons (ev_lst (es_cons ev_str es_nil)) (es_cons (ev_lst (es_cons ev_str es_nil)) (es_cons ev_str (es_cons (ev_lst (es_cons ev_str es_nil)) (es_cons ev_str es_nil)))))) fun vd HD gD dD => ?_
    refine st_retB (K := K) (b := true) (ev_to (ev_andV (ev_eq (ev_var rfl (Dp.kp (Kp.of gD) d9)) (ev_var rfl dD) (by decide +kernel) (by decide +kernel)) (b := true) ?B) (congrArg PyData.bool (by decide +kernel))) fun HE gE => ?_
    case B =>
      intro H1 g Q2 q2
      refine ⟨7, 4999, 1, rfl, bnw (by decide), fun v H' g' d' => ?_⟩
      obtain ⟨k, hk⟩ := big_some
      unfold expD at d'
      rw [hk] at d'
      cases d' with
      | tup s1 a1 => exact ⟨rfl, q2 _ _ g' (by rw [decide_eq_false (by intro z; cases z)]; exact .bl _)⟩
    exact q HE ((G9.trans gD).trans gE)

end
end Wn
namespace Wn
open PySem PySem.Spec PyProof.Rows L2
local macro_rules | `(tactic| walk_at "vc") => `(tactic| simp only [cxK, cxK2, start1, start2, start3, tRet, tRetN, tSeq, tNext, tIfS, tAsg, gName, tDrop, tVar, tC, tOp, tUn, tTest, tB, tNot, tAnd, tOr, tAndV, tOrV, tNotV, tIf, tCons, tNil, tCB, tCall, tChain, tAug, ipI, rI, rI0, rU, rIs, rGcd, rEq, rNe, scal,
  List.getElem?_cons_zero, List.getElem?_cons_succ, List.set_cons_zero, List.set_cons_succ, Option.some.injEq, List.cons.injEq, V.int.injEq, V.bl.injEq, V.ref.injEq, V.str.injEq, and_true, true_and, exists_eq_left, exists_eq_left', exists_and_left, exists_and_right, List.append_nil, List.nil_append, List.cons_append, exists_eq_right, exists_eq_right', and_assoc, exists_const, V.ty.injEq, ↓reduceIte, Bool.false_eq_true, Bool.not_true, Bool.not_false, decide_eq_true_eq])

section
variable {P : Program} {w : World} {K : PySem.W.Frag} {mg : Str → Option Value} {base : Heap}

theorem mem5 {v : V} {r0 : Nat} (hv : v ∈ [V.int 2, .int 3, .int 10, .int 12, .int ((2 : Int) + (r0 : Nat))]) (h : r0 < 999) : ∃ b : Nat, v = .int b ∧ 2 ≤ b ∧ b ≤ 1000 := by
  simp only [List.mem_cons, List.not_mem_nil, or_false] at hv
  rcases hv with e | e | e | e | e
  · exact ⟨2, e, by decide, by decide⟩
  · exact ⟨3, e, by decide, by decide⟩
  · exact ⟨10, e, by decide, by decide⟩
  · exact ⟨12, e, by decide, by decide⟩
  · exact ⟨2 + r0, e, by omega, by omega⟩
theorem mem3 {v : V} (hv : v ∈ [V.int 1, .int (-1), .int 0]) : ∃ w : Int, v = .int w ∧ -1 ≤ w ∧ w ≤ 1 := by
  simp only [List.mem_cons, List.not_mem_nil, or_false] at hv
  rcases hv with e | e | e
  · exact ⟨1, e, by decide, by decide⟩
  · exact ⟨-1, e, by decide, by decide⟩
  · exact ⟨0, e, by decide, by decide⟩
def sp_law (K : PySem.W.Frag) : Sp := fun vs H Q _ => ∃ (a : Addr) (ns : List Int), vs = [.ref a] ∧ SqL K H a (ns.map V.int) ∧ ns.length ≤ 63 ∧ ∀ H', Q (.bl true) H'
theorem okG_law (T : Txt K mg) : FnG P w K mg base CX0 12 T.d_law.f T.d_law.fd ["script"] (sp_law K) := by
  refine fnG0 T.d_law.F sc_law (fun vs H Q E h => ?_) (fun cdv A outer s H vs Q E hgd hr h => ?_)
  · obtain ⟨a, ns, rfl, _⟩ := h; rfl
  · have hu := hu_of hr
    refine ⟨_, (pss_cons (ps_for PassesOwn.never rfl (pi_range1 (by rfl) T.b_range (pa_cons (pe_op op_add pe_int (pe_callB (call_min2 rfl) (by rfl) T.b_min (by decide +kernel) (pa_cons (pe_callB (r := rLn K) call_ln (by rfl) T.b_len PySem.boot_len (pa_cons (pv 0) pa_nil)) (pa_cons pe_int pa_nil)))) pa_nil)) (pg_name (i := 1) sc_law.nd rfl (by first | exact .inl rfl | exact .inr rfl)) (pss_cons (ps_set (i := 2) sc_law.nd rfl (by first | exact .inl rfl | exact .inr rfl) (pe_call (ok_law_begun T) (hr.mono (by decide)) (by rfl) T.d_law_begun.m T.d_law_begun.F.kp T.d_law_begun.b .nil pass0 (pa_cons (pv 0) (pa_cons (pv 1) pa_nil))))
      (pss_cons (ps_par (i := 3) (j := 4) (by rfl) sc_law.nd rfl rfl (by decide) rfl rfl (pa_cons (pe_call (ok_law_of T) (hr.mono (by decide)) (by rfl) T.d_law_of.m T.d_law_of.F.kp T.d_law_of.b .nil pass0 (pa_cons (pv 2) (pa_cons (pe_lst (pa_cons pe_int (pa_cons pe_int (pa_cons pe_int (pa_cons pe_int (pa_cons (pe_op op_add pe_int (pe_call (ok_law_draw T) (hr.mono (by decide)) (by rfl) T.d_law_draw.m T.d_law_draw.F.kp T.d_law_draw.b .nil pass0 (pa_cons (pv 2) (pa_cons pe_int pa_nil)))) pa_nil)))))) pa_nil))) (pa_cons (pe_op op_add pe_int (pe_call (ok_law_draw T) (hr.mono (by decide)) (by rfl) T.d_law_draw.m T.d_law_draw.F.kp T.d_law_draw.b .nil pass0 (pa_cons (pv 2) (pa_cons pe_int pa_nil)))) pa_nil)) (by rfl))
      (pss_cons (ps_set (i := 5) sc_law.nd rfl (by first | exact .inl rfl | exact .inr rfl) (pe_lst (pa_cons (pe_op op_sub (pe_call (ok_law_raised T) (hr.mono (by decide)) (by rfl) T.d_law_raised.m T.d_law_raised.F.kp T.d_law_raised.b .nil pass0 (pa_cons (pv 3) (pa_cons (pe_op op_add pe_int (pe_call (ok_law_draw T) (hr.mono (by decide)) (by rfl) T.d_law_draw.m T.d_law_draw.F.kp T.d_law_draw.b .nil pass0 (pa_cons (pv 2) (pa_cons pe_int pa_nil)))) (pa_cons (pv 4) pa_nil)))) (pv 4)) (pa_cons (pe_op op_sub (pe_call (ok_law_draw T) (hr.mono (by decide)) (by rfl) T.d_law_draw.m T.d_law_draw.F.kp T.d_law_draw.b .nil pass0 (pa_cons (pv 2) (pa_cons pe_int pa_nil))) pe_int) (pa_cons (pe_call (ok_law_of T) (hr.mono (by decide)) (by rfl) T.d_law_of.m T.d_law_of.F.kp T.d_law_of.b .nil pass0 (pa_cons (pv 2) (pa_cons (pe_lst (pa_cons pe_int (pa_cons (pe_un un_neg pe_int) (pa_cons pe_int pa_nil)))) pa_nil))) pa_nil)))))
      (pss_one (ps_for PassesOwn.never rfl (pi_list (pv 5)) (pg_name (i := 6) sc_law.nd rfl (by first | exact .inl rfl | exact .inr rfl)) (pss_one (ps_if (pt_not (pt_val (pe_callG hgd (okG_law_right T) (hr.mono (by decide)) (by rfl) T.d_law_right.m T.d_law_right.F.kp T.d_law_right.b .nil pass0 (pa_cons (pv 2) (pa_cons (pv 3) (pa_cons (pv 4) (pa_cons (pv 6) pa_nil))))))) (pss_one (ps_ret pe_bl)) pss_nil))))))))
      (pss_one (ps_ret (pe_callG0 hgd (okG_law_hand_right T) (hr.mono (by decide)) (by rfl) T.d_law_hand_right.m T.d_law_hand_right.F.kp T.d_law_hand_right.b .nil pass0)))), ?_⟩
    obtain ⟨a, ns, rfl, hS, hn, q⟩ := h
    refine ⟨_, rfl, a, _, rfl, .inl hS, _, _, rfl, ?_⟩
    rw [List.length_map]
    obtain ⟨N, eN, hN⟩ : ∃ N : Nat, (2 : Int) + (if (5 : Int) < (ns.length : Int) then (5 : Int) else (ns.length : Int)) = (N : Int) ∧ N ≤ 7 := by
      split
      · exact ⟨7, rfl, by decide⟩
      · exact ⟨2 + ns.length, by omega, by omega⟩
    refine ⟨_, _, rfl, rfl, ?_⟩
    refine ⟨(N : Int), congrArg (fun z => [V.int z]) eN, by omega, by omega, ?_⟩
    refine for_range (lo := 0) (n := ((N : Int) - 0).toNat) (fun i σ H' => Gr [] H H' ∧ ∃ v1 v2 v3 v4 v5 v6, σ = [some (.ref a), v1, v2, v3, v4, v5, v6]) ⟨Gr.refl _ _, none, none, none, none, none, none, rfl⟩ ?_ ?_
    · rintro i σ H' hi ⟨G, v1, v2, v3, v4, v5, v6, rfl⟩
      have ei : (0 : Int) + (i : Int) = ((i : Nat) : Int) := by omega
      rw [ei]
      refine ⟨_, rfl, _, rfl, a, ns, i, rfl, (Kp.of G).sqL hS, hn, by omega, fun d H1 nd g1 M1 => ?_⟩
      refine ⟨_, rfl, _, rfl, d, 999, 0, rfl, M1, ⟨by decide, lim_le (by decide), by decide⟩, fun r0 H2 hr0 g2 M2 => ?_⟩
      refine ⟨_, _, rfl, rfl, by show 5 ≤ sizeLine; decide, fun p np => ?_⟩
      refine ⟨d, p, 1, _, rfl, M2.gr (Gr.new np), upd_same, ⟨by simp, by show 5 ≤ 100000; decide, by omega⟩, fun v H3 hv g3 M3 => ?_⟩
      obtain ⟨b, rfl, hb1, hb2⟩ := mem5 hv hr0
      refine ⟨_, rfl, d, 300, 2, rfl, M3, ⟨by decide, lim_le (by decide), by decide⟩, fun r1 H4 hr1 g4 M4 => ?_⟩
      refine ⟨_, _, rfl, rfl, _, _, rfl, ?_⟩
      have g14 : Gr [d] H1 H4 := (g2.trans (Gr.new np)).trans (g3.trans g4)
      dsimp only
      rw [show (1 : Int) + (r1 : Int) = ((1 + r1 : Nat) : Int) by omega]
      have hnn : 1 ≤ 1 + r1 ∧ 1 + r1 ≤ 300 := by omega
      generalize 1 + r1 = n at hnn
      have hbn : BN b n := ⟨hb1, hb2, hnn.1, by omega⟩
      refine ⟨_, rfl, _, rfl, d, 40, 3, rfl, M4, ⟨by decide, lim_le (by decide), by decide⟩, fun r2 H5 hr2 g5 M5 => ?_⟩
      refine ⟨_, _, rfl, rfl, _, rfl, b, 1 + r2, n, by rw [Int.natCast_add]; rfl, ⟨by omega, by omega⟩, ?_⟩
      refine ⟨_, rfl, _, _, rfl, rfl, ?_⟩
      refine ⟨_, rfl, d, 2001, 4, rfl, M5, ⟨by decide, lim_le (by decide), by decide⟩, fun r3 H6 hr3 g6 M6 => ?_⟩
      refine ⟨_, _, rfl, rfl, ?_⟩
      refine ⟨_, rfl, 1, rfl, by show 3 ≤ sizeLine; decide, fun p7 np7 => ?_⟩
      refine ⟨d, p7, 5, _, rfl, M6.gr (Gr.new np7), upd_same, ⟨by simp, by show 3 ≤ 100000; decide, by omega⟩, fun v7 H7 hv7 g7 M7 => ?_⟩
      obtain ⟨w3, rfl, hw1, hw2⟩ := mem3 hv7
      refine ⟨by show 3 ≤ sizeLine; decide, fun l nl => ?_⟩
      have hr := Nat.mod_lt (b ^ (1 + r2)) (show 0 < n by omega)
      have hws : ∀ z ∈ [((b ^ (1 + r2) % n : Nat) : Int) - (n : Int), (r3 : Int) - 1000, w3], -1000 ≤ z ∧ z ≤ 1000 := fun z hz => by
        simp only [List.mem_cons, List.not_mem_nil, or_false] at hz
        omega
      have hl : (upd H7 l (.lst [.int (((b ^ (1 + r2) % n : Nat) : Int) - (n : Int)), .int ((r3 : Int) - 1000), .int w3])) l = some (.lst ([((b ^ (1 + r2) % n : Nat) : Int) - (n : Int), (r3 : Int) - 1000, w3].map V.int)) := upd_same
      have gl : Gr [] H7 (upd H7 l (.lst [.int (((b ^ (1 + r2) % n : Nat) : Int) - (n : Int)), .int ((r3 : Int) - 1000), .int w3])) := Gr.new nl
      have zl : [((b ^ (1 + r2) % n : Nat) : Int) - (n : Int), (r3 : Int) - 1000, w3].length = 3 := rfl
      have M8 := M7.gr gl
      have g18 := (g14.trans g5).trans ((g6.trans (Gr.new np7)).trans (g7.trans (gr0 gl)))
      generalize [((b ^ (1 + r2) % n : Nat) : Int) - (n : Int), (r3 : Int) - 1000, w3] = zs at hws hl zl
      dsimp only
      generalize upd H7 l (.lst [.int (((b ^ (1 + r2) % n : Nat) : Int) - (n : Int)), .int ((r3 : Int) - 1000), .int w3]) = H8 at hl M8 g18 ⊢
      have hld : l ∉ [d] := fun m => by
        rw [List.mem_singleton] at m
        subst m
        obtain ⟨kvs, hk⟩ := M8.isD
        rw [hk] at hl
        cases hl
      refine ⟨_, rfl, l, rfl, ⟨_, sq_lst hl⟩, ?_⟩
      refine for_list (K := K) (a := l) (xs := zs.map V.int) (fun j σ H' => Gr [d] H8 H' ∧ MOk H' d (6 + 2 * j) ∧ ∃ v6, σ = [some (.ref a), some (.int i), some (.ref d), some (.int b), some (.int n), some (.ref l), v6]) ⟨Gr.refl _ _, M8, _, rfl⟩ (fun j σ H' _ z => sq_lst (z.1 l _ hld hl)) ?_ ?_
      · rintro j x σ HA hx ⟨GA, MA, v6, rfl⟩
        rw [List.getElem?_map] at hx
        obtain ⟨z, hz, rfl⟩ := Option.map_eq_some_iff.mp hx
        have hzz := hws z (List.mem_of_getElem? hz)
        have hj := (List.getElem?_eq_some_iff.mp hz).1
        refine ⟨_, rfl, _, rfl, _, rfl, _, rfl, d, b, n, z, 6 + 2 * j, rfl, ⟨hbn, hzz.1, hzz.2⟩, hnn.2, MA, by omega, fun HB gB MB => ?_⟩
        refine ⟨true, rfl, iteF ⟨GA.trans gB, MB, _, rfl⟩⟩
      rintro σ HA ⟨GA, MA, v6, rfl⟩
      exact ⟨G.trans (fresh_keep nd g1 (g18.trans GA)), _, _, _, _, _, _, rfl⟩
    rintro σ H' ⟨G, v1, v2, v3, v4, v5, v6, rfl⟩
    exact ⟨rfl, fun H2 _ => q H2⟩

end
end Wn
namespace Wn
open PySem PySem.Spec PyProof.Rows L2
theorem all_mk {l : PySem.W.OpenLaw} {w : World} {K : PySem.W.Frag} {h : Heap} {mg : Str → Option Value} {fa : Addr} (X : K.In h) (G : h.Ns mainGlobals mg) (hfa : mg "law" = some (.ref fa))
    {f_is_integer : Addr} {oc_is_integer kV_is_integer dc_is_integer pm_is_integer cd_is_integer ct_is_integer : Value} {od_is_integer an_is_integer : Option Addr} {sl_is_integer : Array (Option Value)}
    {f_is_within : Addr} {oc_is_within kV_is_within dc_is_within pm_is_within cd_is_within ct_is_within : Value} {od_is_within an_is_within : Option Addr} {sl_is_within : Array (Option Value)}
    {f_need_base : Addr} {oc_need_base kV_need_base dc_need_base pm_need_base cd_need_base ct_need_base : Value} {od_need_base an_need_base : Option Addr} {sl_need_base : Array (Option Value)}
    {f_need_denominator : Addr} {oc_need_denominator kV_need_denominator dc_need_denominator pm_need_denominator cd_need_denominator ct_need_denominator : Value} {od_need_denominator an_need_denominator : Option Addr} {sl_need_denominator : Array (Option Value)}
    {f_pure_part : Addr} {oc_pure_part kV_pure_part dc_pure_part pm_pure_part cd_pure_part ct_pure_part : Value} {od_pure_part an_pure_part : Option Addr} {sl_pure_part : Array (Option Value)}
    {f_period : Addr} {oc_period kV_period dc_period pm_period cd_period ct_period : Value} {od_period an_period : Option Addr} {sl_period : Array (Option Value)}
    {f_head_size : Addr} {oc_head_size kV_head_size dc_head_size pm_head_size cd_head_size ct_head_size : Value} {od_head_size an_head_size : Option Addr} {sl_head_size : Array (Option Value)}
    {f_power_rest : Addr} {oc_power_rest kV_power_rest dc_power_rest pm_power_rest cd_power_rest ct_power_rest : Value} {od_power_rest an_power_rest : Option Addr} {sl_power_rest : Array (Option Value)}
    {f_spaced : Addr} {oc_spaced kV_spaced dc_spaced pm_spaced cd_spaced ct_spaced : Value} {od_spaced an_spaced : Option Addr} {sl_spaced : Array (Option Value)}
    {f_need_weight : Addr} {oc_need_weight kV_need_weight dc_need_weight pm_need_weight cd_need_weight ct_need_weight : Value} {od_need_weight an_need_weight : Option Addr} {sl_need_weight : Array (Option Value)}
    {f_leaves_weight : Addr} {oc_leaves_weight kV_leaves_weight dc_leaves_weight pm_leaves_weight cd_leaves_weight ct_leaves_weight : Value} {od_leaves_weight an_leaves_weight : Option Addr} {sl_leaves_weight : Array (Option Value)}
    {f_power_rests : Addr} {oc_power_rests kV_power_rests dc_power_rests pm_power_rests cd_power_rests ct_power_rests : Value} {od_power_rests an_power_rests : Option Addr} {sl_power_rests : Array (Option Value)}
    {f_least_exponent : Addr} {oc_least_exponent kV_least_exponent dc_least_exponent pm_least_exponent cd_least_exponent ct_least_exponent : Value} {od_least_exponent an_least_exponent : Option Addr} {sl_least_exponent : Array (Option Value)}
    {f_exponents : Addr} {oc_exponents kV_exponents dc_exponents pm_exponents cd_exponents ct_exponents : Value} {od_exponents an_exponents : Option Addr} {sl_exponents : Array (Option Value)}
    {f_exponent_paper : Addr} {oc_exponent_paper kV_exponent_paper dc_exponent_paper pm_exponent_paper cd_exponent_paper ct_exponent_paper : Value} {od_exponent_paper an_exponent_paper : Option Addr} {sl_exponent_paper : Array (Option Value)}
    {f_proves_never : Addr} {oc_proves_never kV_proves_never dc_proves_never pm_proves_never cd_proves_never ct_proves_never : Value} {od_proves_never an_proves_never : Option Addr} {sl_proves_never : Array (Option Value)}
    {f_check_exponent : Addr} {oc_check_exponent kV_check_exponent dc_check_exponent pm_check_exponent cd_check_exponent ct_check_exponent : Value} {od_check_exponent an_check_exponent : Option Addr} {sl_check_exponent : Array (Option Value)}
    {f_law_begun : Addr} {oc_law_begun kV_law_begun dc_law_begun pm_law_begun cd_law_begun ct_law_begun : Value} {od_law_begun an_law_begun : Option Addr} {sl_law_begun : Array (Option Value)}
    {f_law_draw : Addr} {oc_law_draw kV_law_draw dc_law_draw pm_law_draw cd_law_draw ct_law_draw : Value} {od_law_draw an_law_draw : Option Addr} {sl_law_draw : Array (Option Value)}
    {f_law_of : Addr} {oc_law_of kV_law_of dc_law_of pm_law_of cd_law_of ct_law_of : Value} {od_law_of an_law_of : Option Addr} {sl_law_of : Array (Option Value)}
    {f_law_powers : Addr} {oc_law_powers kV_law_powers dc_law_powers pm_law_powers cd_law_powers ct_law_powers : Value} {od_law_powers an_law_powers : Option Addr} {sl_law_powers : Array (Option Value)}
    {f_law_raised : Addr} {oc_law_raised kV_law_raised dc_law_raised pm_law_raised cd_law_raised ct_law_raised : Value} {od_law_raised an_law_raised : Option Addr} {sl_law_raised : Array (Option Value)}
    {f_law_own : Addr} {oc_law_own kV_law_own dc_law_own pm_law_own cd_law_own ct_law_own : Value} {od_law_own an_law_own : Option Addr} {sl_law_own : Array (Option Value)}
    {f_law_is_int : Addr} {oc_law_is_int kV_law_is_int dc_law_is_int pm_law_is_int cd_law_is_int ct_law_is_int : Value} {od_law_is_int an_law_is_int : Option Addr} {sl_law_is_int : Array (Option Value)}
    {f_law_due : Addr} {oc_law_due kV_law_due dc_law_due pm_law_due cd_law_due ct_law_due : Value} {od_law_due an_law_due : Option Addr} {sl_law_due : Array (Option Value)}
    {f_law_heard : Addr} {oc_law_heard kV_law_heard dc_law_heard pm_law_heard cd_law_heard ct_law_heard : Value} {od_law_heard an_law_heard : Option Addr} {sl_law_heard : Array (Option Value)}
    {f_law_right : Addr} {oc_law_right kV_law_right dc_law_right pm_law_right cd_law_right ct_law_right : Value} {od_law_right an_law_right : Option Addr} {sl_law_right : Array (Option Value)}
    {f_law_hand_right : Addr} {oc_law_hand_right kV_law_hand_right dc_law_hand_right pm_law_hand_right cd_law_hand_right ct_law_hand_right : Value} {od_law_hand_right an_law_hand_right : Option Addr} {sl_law_hand_right : Array (Option Value)}
    {f_law : Addr} {oc_law kV_law dc_law pm_law cd_law ct_law : Value} {od_law an_law : Option Addr} {sl_law : Array (Option Value)}
    {C_WheelError : Addr}
    {C_BadBase : Addr}
    {C_BadDenominator : Addr}
    {C_BadNumber : Addr}
    {C_BadPaper : Addr}
    {I_BadPaper : Addr} {ioc_BadPaper ikV_BadPaper idc_BadPaper ipm_BadPaper icd_BadPaper ict_BadPaper : Value} {iod_BadPaper ian_BadPaper : Option Addr} {isl_BadPaper : Array (Option Value)}
    {t_MOST_BASE : Tok}
    {t_MOST_DENOMINATOR : Tok}
    {t_MOST_WEIGHT : Tok}
    {t_MOST_EXPONENT : Tok}
    (a_is_integer : PySem.W.nsIn K mainGlobals "is_integer" = some (some (.ref f_is_integer)))
    (l_is_integer : K.lookup f_is_integer = some ⟨oc_is_integer, od_is_integer, .func (PySem.W.fnOf "is_integer" "is_integer" (defArgs s_is_integer) (defBody s_is_integer) (defScope s_is_integer) .none kV_is_integer dc_is_integer pm_is_integer an_is_integer cd_is_integer ct_is_integer), sl_is_integer⟩)
    (c_is_integer : PySem.W.codeIn K cd_is_integer "is_integer" = true)
    (k_is_integer : PySem.W.keepIn K (.ref f_is_integer) = true)
    (a_is_within : PySem.W.nsIn K mainGlobals "is_within" = some (some (.ref f_is_within)))
    (l_is_within : K.lookup f_is_within = some ⟨oc_is_within, od_is_within, .func (PySem.W.fnOf "is_within" "is_within" (defArgs s_is_within) (defBody s_is_within) (defScope s_is_within) .none kV_is_within dc_is_within pm_is_within an_is_within cd_is_within ct_is_within), sl_is_within⟩)
    (c_is_within : PySem.W.codeIn K cd_is_within "is_within" = true)
    (k_is_within : PySem.W.keepIn K (.ref f_is_within) = true)
    (a_need_base : PySem.W.nsIn K mainGlobals "need_base" = some (some (.ref f_need_base)))
    (l_need_base : K.lookup f_need_base = some ⟨oc_need_base, od_need_base, .func (PySem.W.fnOf "need_base" "need_base" (defArgs s_need_base) (defBody s_need_base) (defScope s_need_base) .none kV_need_base dc_need_base pm_need_base an_need_base cd_need_base ct_need_base), sl_need_base⟩)
    (c_need_base : PySem.W.codeIn K cd_need_base "need_base" = true)
    (k_need_base : PySem.W.keepIn K (.ref f_need_base) = true)
    (a_need_denominator : PySem.W.nsIn K mainGlobals "need_denominator" = some (some (.ref f_need_denominator)))
    (l_need_denominator : K.lookup f_need_denominator = some ⟨oc_need_denominator, od_need_denominator, .func (PySem.W.fnOf "need_denominator" "need_denominator" (defArgs s_need_denominator) (defBody s_need_denominator) (defScope s_need_denominator) .none kV_need_denominator dc_need_denominator pm_need_denominator an_need_denominator cd_need_denominator ct_need_denominator), sl_need_denominator⟩)
    (c_need_denominator : PySem.W.codeIn K cd_need_denominator "need_denominator" = true)
    (k_need_denominator : PySem.W.keepIn K (.ref f_need_denominator) = true)
    (a_pure_part : PySem.W.nsIn K mainGlobals "pure_part" = some (some (.ref f_pure_part)))
    (l_pure_part : K.lookup f_pure_part = some ⟨oc_pure_part, od_pure_part, .func (PySem.W.fnOf "pure_part" "pure_part" (defArgs s_pure_part) (defBody s_pure_part) (defScope s_pure_part) .none kV_pure_part dc_pure_part pm_pure_part an_pure_part cd_pure_part ct_pure_part), sl_pure_part⟩)
    (c_pure_part : PySem.W.codeIn K cd_pure_part "pure_part" = true)
    (k_pure_part : PySem.W.keepIn K (.ref f_pure_part) = true)
    (a_period : PySem.W.nsIn K mainGlobals "period" = some (some (.ref f_period)))
    (l_period : K.lookup f_period = some ⟨oc_period, od_period, .func (PySem.W.fnOf "period" "period" (defArgs s_period) (defBody s_period) (defScope s_period) .none kV_period dc_period pm_period an_period cd_period ct_period), sl_period⟩)
    (c_period : PySem.W.codeIn K cd_period "period" = true)
    (k_period : PySem.W.keepIn K (.ref f_period) = true)
    (a_head_size : PySem.W.nsIn K mainGlobals "head_size" = some (some (.ref f_head_size)))
    (l_head_size : K.lookup f_head_size = some ⟨oc_head_size, od_head_size, .func (PySem.W.fnOf "head_size" "head_size" (defArgs s_head_size) (defBody s_head_size) (defScope s_head_size) .none kV_head_size dc_head_size pm_head_size an_head_size cd_head_size ct_head_size), sl_head_size⟩)
    (c_head_size : PySem.W.codeIn K cd_head_size "head_size" = true)
    (k_head_size : PySem.W.keepIn K (.ref f_head_size) = true)
    (a_power_rest : PySem.W.nsIn K mainGlobals "power_rest" = some (some (.ref f_power_rest)))
    (l_power_rest : K.lookup f_power_rest = some ⟨oc_power_rest, od_power_rest, .func (PySem.W.fnOf "power_rest" "power_rest" (defArgs s_power_rest) (defBody s_power_rest) (defScope s_power_rest) .none kV_power_rest dc_power_rest pm_power_rest an_power_rest cd_power_rest ct_power_rest), sl_power_rest⟩)
    (c_power_rest : PySem.W.codeIn K cd_power_rest "power_rest" = true)
    (k_power_rest : PySem.W.keepIn K (.ref f_power_rest) = true)
    (a_spaced : PySem.W.nsIn K mainGlobals "spaced" = some (some (.ref f_spaced)))
    (l_spaced : K.lookup f_spaced = some ⟨oc_spaced, od_spaced, .func (PySem.W.fnOf "spaced" "spaced" (defArgs s_spaced) (defBody s_spaced) (defScope s_spaced) .none kV_spaced dc_spaced pm_spaced an_spaced cd_spaced ct_spaced), sl_spaced⟩)
    (c_spaced : PySem.W.codeIn K cd_spaced "spaced" = true)
    (k_spaced : PySem.W.keepIn K (.ref f_spaced) = true)
    (a_need_weight : PySem.W.nsIn K mainGlobals "need_weight" = some (some (.ref f_need_weight)))
    (l_need_weight : K.lookup f_need_weight = some ⟨oc_need_weight, od_need_weight, .func (PySem.W.fnOf "need_weight" "need_weight" (defArgs s_need_weight) (defBody s_need_weight) (defScope s_need_weight) .none kV_need_weight dc_need_weight pm_need_weight an_need_weight cd_need_weight ct_need_weight), sl_need_weight⟩)
    (c_need_weight : PySem.W.codeIn K cd_need_weight "need_weight" = true)
    (k_need_weight : PySem.W.keepIn K (.ref f_need_weight) = true)
    (a_leaves_weight : PySem.W.nsIn K mainGlobals "leaves_weight" = some (some (.ref f_leaves_weight)))
    (l_leaves_weight : K.lookup f_leaves_weight = some ⟨oc_leaves_weight, od_leaves_weight, .func (PySem.W.fnOf "leaves_weight" "leaves_weight" (defArgs s_leaves_weight) (defBody s_leaves_weight) (defScope s_leaves_weight) .none kV_leaves_weight dc_leaves_weight pm_leaves_weight an_leaves_weight cd_leaves_weight ct_leaves_weight), sl_leaves_weight⟩)
    (c_leaves_weight : PySem.W.codeIn K cd_leaves_weight "leaves_weight" = true)
    (k_leaves_weight : PySem.W.keepIn K (.ref f_leaves_weight) = true)
    (a_power_rests : PySem.W.nsIn K mainGlobals "power_rests" = some (some (.ref f_power_rests)))
    (l_power_rests : K.lookup f_power_rests = some ⟨oc_power_rests, od_power_rests, .func (PySem.W.fnOf "power_rests" "power_rests" (defArgs s_power_rests) (defBody s_power_rests) (defScope s_power_rests) .none kV_power_rests dc_power_rests pm_power_rests an_power_rests cd_power_rests ct_power_rests), sl_power_rests⟩)
    (c_power_rests : PySem.W.codeIn K cd_power_rests "power_rests" = true)
    (k_power_rests : PySem.W.keepIn K (.ref f_power_rests) = true)
    (a_least_exponent : PySem.W.nsIn K mainGlobals "least_exponent" = some (some (.ref f_least_exponent)))
    (l_least_exponent : K.lookup f_least_exponent = some ⟨oc_least_exponent, od_least_exponent, .func (PySem.W.fnOf "least_exponent" "least_exponent" (defArgs s_least_exponent) (defBody s_least_exponent) (defScope s_least_exponent) .none kV_least_exponent dc_least_exponent pm_least_exponent an_least_exponent cd_least_exponent ct_least_exponent), sl_least_exponent⟩)
    (c_least_exponent : PySem.W.codeIn K cd_least_exponent "least_exponent" = true)
    (k_least_exponent : PySem.W.keepIn K (.ref f_least_exponent) = true)
    (a_exponents : PySem.W.nsIn K mainGlobals "exponents" = some (some (.ref f_exponents)))
    (l_exponents : K.lookup f_exponents = some ⟨oc_exponents, od_exponents, .func (PySem.W.fnOf "exponents" "exponents" (defArgs s_exponents) (defBody s_exponents) (defScope s_exponents) .none kV_exponents dc_exponents pm_exponents an_exponents cd_exponents ct_exponents), sl_exponents⟩)
    (c_exponents : PySem.W.codeIn K cd_exponents "exponents" = true)
    (k_exponents : PySem.W.keepIn K (.ref f_exponents) = true)
    (a_exponent_paper : PySem.W.nsIn K mainGlobals "exponent_paper" = some (some (.ref f_exponent_paper)))
    (l_exponent_paper : K.lookup f_exponent_paper = some ⟨oc_exponent_paper, od_exponent_paper, .func (PySem.W.fnOf "exponent_paper" "exponent_paper" (defArgs s_exponent_paper) (defBody s_exponent_paper) (defScope s_exponent_paper) .none kV_exponent_paper dc_exponent_paper pm_exponent_paper an_exponent_paper cd_exponent_paper ct_exponent_paper), sl_exponent_paper⟩)
    (c_exponent_paper : PySem.W.codeIn K cd_exponent_paper "exponent_paper" = true)
    (k_exponent_paper : PySem.W.keepIn K (.ref f_exponent_paper) = true)
    (a_proves_never : PySem.W.nsIn K mainGlobals "proves_never" = some (some (.ref f_proves_never)))
    (l_proves_never : K.lookup f_proves_never = some ⟨oc_proves_never, od_proves_never, .func (PySem.W.fnOf "proves_never" "proves_never" (defArgs s_proves_never) (defBody s_proves_never) (defScope s_proves_never) .none kV_proves_never dc_proves_never pm_proves_never an_proves_never cd_proves_never ct_proves_never), sl_proves_never⟩)
    (c_proves_never : PySem.W.codeIn K cd_proves_never "proves_never" = true)
    (k_proves_never : PySem.W.keepIn K (.ref f_proves_never) = true)
    (a_check_exponent : PySem.W.nsIn K mainGlobals "check_exponent" = some (some (.ref f_check_exponent)))
    (l_check_exponent : K.lookup f_check_exponent = some ⟨oc_check_exponent, od_check_exponent, .func (PySem.W.fnOf "check_exponent" "check_exponent" (defArgs s_check_exponent) (defBody s_check_exponent) (defScope s_check_exponent) .none kV_check_exponent dc_check_exponent pm_check_exponent an_check_exponent cd_check_exponent ct_check_exponent), sl_check_exponent⟩)
    (c_check_exponent : PySem.W.codeIn K cd_check_exponent "check_exponent" = true)
    (k_check_exponent : PySem.W.keepIn K (.ref f_check_exponent) = true)
    (a_law_begun : PySem.W.nsIn K mainGlobals "_law_begun" = some (some (.ref f_law_begun)))
    (l_law_begun : K.lookup f_law_begun = some ⟨oc_law_begun, od_law_begun, .func (PySem.W.fnOf "_law_begun" "_law_begun" (defArgs s_law_begun) (defBody s_law_begun) (defScope s_law_begun) .none kV_law_begun dc_law_begun pm_law_begun an_law_begun cd_law_begun ct_law_begun), sl_law_begun⟩)
    (c_law_begun : PySem.W.codeIn K cd_law_begun "_law_begun" = true)
    (k_law_begun : PySem.W.keepIn K (.ref f_law_begun) = true)
    (a_law_draw : PySem.W.nsIn K mainGlobals "_law_draw" = some (some (.ref f_law_draw)))
    (l_law_draw : K.lookup f_law_draw = some ⟨oc_law_draw, od_law_draw, .func (PySem.W.fnOf "_law_draw" "_law_draw" (defArgs s_law_draw) (defBody s_law_draw) (defScope s_law_draw) .none kV_law_draw dc_law_draw pm_law_draw an_law_draw cd_law_draw ct_law_draw), sl_law_draw⟩)
    (c_law_draw : PySem.W.codeIn K cd_law_draw "_law_draw" = true)
    (k_law_draw : PySem.W.keepIn K (.ref f_law_draw) = true)
    (a_law_of : PySem.W.nsIn K mainGlobals "_law_of" = some (some (.ref f_law_of)))
    (l_law_of : K.lookup f_law_of = some ⟨oc_law_of, od_law_of, .func (PySem.W.fnOf "_law_of" "_law_of" (defArgs s_law_of) (defBody s_law_of) (defScope s_law_of) .none kV_law_of dc_law_of pm_law_of an_law_of cd_law_of ct_law_of), sl_law_of⟩)
    (c_law_of : PySem.W.codeIn K cd_law_of "_law_of" = true)
    (k_law_of : PySem.W.keepIn K (.ref f_law_of) = true)
    (a_law_powers : PySem.W.nsIn K mainGlobals "_law_powers" = some (some (.ref f_law_powers)))
    (l_law_powers : K.lookup f_law_powers = some ⟨oc_law_powers, od_law_powers, .func (PySem.W.fnOf "_law_powers" "_law_powers" (defArgs s_law_powers) (defBody s_law_powers) (defScope s_law_powers) .none kV_law_powers dc_law_powers pm_law_powers an_law_powers cd_law_powers ct_law_powers), sl_law_powers⟩)
    (c_law_powers : PySem.W.codeIn K cd_law_powers "_law_powers" = true)
    (k_law_powers : PySem.W.keepIn K (.ref f_law_powers) = true)
    (a_law_raised : PySem.W.nsIn K mainGlobals "_law_raised" = some (some (.ref f_law_raised)))
    (l_law_raised : K.lookup f_law_raised = some ⟨oc_law_raised, od_law_raised, .func (PySem.W.fnOf "_law_raised" "_law_raised" (defArgs s_law_raised) (defBody s_law_raised) (defScope s_law_raised) .none kV_law_raised dc_law_raised pm_law_raised an_law_raised cd_law_raised ct_law_raised), sl_law_raised⟩)
    (c_law_raised : PySem.W.codeIn K cd_law_raised "_law_raised" = true)
    (k_law_raised : PySem.W.keepIn K (.ref f_law_raised) = true)
    (a_law_own : PySem.W.nsIn K mainGlobals "_law_own" = some (some (.ref f_law_own)))
    (l_law_own : K.lookup f_law_own = some ⟨oc_law_own, od_law_own, .func (PySem.W.fnOf "_law_own" "_law_own" (defArgs s_law_own) (defBody s_law_own) (defScope s_law_own) .none kV_law_own dc_law_own pm_law_own an_law_own cd_law_own ct_law_own), sl_law_own⟩)
    (c_law_own : PySem.W.codeIn K cd_law_own "_law_own" = true)
    (k_law_own : PySem.W.keepIn K (.ref f_law_own) = true)
    (a_law_is_int : PySem.W.nsIn K mainGlobals "_law_is_int" = some (some (.ref f_law_is_int)))
    (l_law_is_int : K.lookup f_law_is_int = some ⟨oc_law_is_int, od_law_is_int, .func (PySem.W.fnOf "_law_is_int" "_law_is_int" (defArgs s_law_is_int) (defBody s_law_is_int) (defScope s_law_is_int) .none kV_law_is_int dc_law_is_int pm_law_is_int an_law_is_int cd_law_is_int ct_law_is_int), sl_law_is_int⟩)
    (c_law_is_int : PySem.W.codeIn K cd_law_is_int "_law_is_int" = true)
    (k_law_is_int : PySem.W.keepIn K (.ref f_law_is_int) = true)
    (a_law_due : PySem.W.nsIn K mainGlobals "_law_due" = some (some (.ref f_law_due)))
    (l_law_due : K.lookup f_law_due = some ⟨oc_law_due, od_law_due, .func (PySem.W.fnOf "_law_due" "_law_due" (defArgs s_law_due) (defBody s_law_due) (defScope s_law_due) .none kV_law_due dc_law_due pm_law_due an_law_due cd_law_due ct_law_due), sl_law_due⟩)
    (c_law_due : PySem.W.codeIn K cd_law_due "_law_due" = true)
    (k_law_due : PySem.W.keepIn K (.ref f_law_due) = true)
    (a_law_heard : PySem.W.nsIn K mainGlobals "_law_heard" = some (some (.ref f_law_heard)))
    (l_law_heard : K.lookup f_law_heard = some ⟨oc_law_heard, od_law_heard, .func (PySem.W.fnOf "_law_heard" "_law_heard" (defArgs s_law_heard) (defBody s_law_heard) (defScope s_law_heard) .none kV_law_heard dc_law_heard pm_law_heard an_law_heard cd_law_heard ct_law_heard), sl_law_heard⟩)
    (c_law_heard : PySem.W.codeIn K cd_law_heard "_law_heard" = true)
    (k_law_heard : PySem.W.keepIn K (.ref f_law_heard) = true)
    (a_law_right : PySem.W.nsIn K mainGlobals "_law_right" = some (some (.ref f_law_right)))
    (l_law_right : K.lookup f_law_right = some ⟨oc_law_right, od_law_right, .func (PySem.W.fnOf "_law_right" "_law_right" (defArgs s_law_right) (defBody s_law_right) (defScope s_law_right) .none kV_law_right dc_law_right pm_law_right an_law_right cd_law_right ct_law_right), sl_law_right⟩)
    (c_law_right : PySem.W.codeIn K cd_law_right "_law_right" = true)
    (k_law_right : PySem.W.keepIn K (.ref f_law_right) = true)
    (a_law_hand_right : PySem.W.nsIn K mainGlobals "_law_hand_right" = some (some (.ref f_law_hand_right)))
    (l_law_hand_right : K.lookup f_law_hand_right = some ⟨oc_law_hand_right, od_law_hand_right, .func (PySem.W.fnOf "_law_hand_right" "_law_hand_right" (defArgs s_law_hand_right) (defBody s_law_hand_right) (defScope s_law_hand_right) .none kV_law_hand_right dc_law_hand_right pm_law_hand_right an_law_hand_right cd_law_hand_right ct_law_hand_right), sl_law_hand_right⟩)
    (c_law_hand_right : PySem.W.codeIn K cd_law_hand_right "_law_hand_right" = true)
    (k_law_hand_right : PySem.W.keepIn K (.ref f_law_hand_right) = true)
    (a_law : PySem.W.nsIn K mainGlobals "law" = some (some (.ref f_law)))
    (l_law : K.lookup f_law = some ⟨oc_law, od_law, .func (PySem.W.fnOf "law" "law" (defArgs s_law) (defBody s_law) (defScope s_law) .none kV_law dc_law pm_law an_law cd_law ct_law), sl_law⟩)
    (c_law : PySem.W.codeIn K cd_law "law" = true)
    (k_law : PySem.W.keepIn K (.ref f_law) = true)
    (zb_isinstance : PySem.W.nsIn K mainGlobals "isinstance" = some none)
    (zb_int : PySem.W.nsIn K mainGlobals "int" = some none)
    (zb_bool : PySem.W.nsIn K mainGlobals "bool" = some none)
    (zb_str : PySem.W.nsIn K mainGlobals "str" = some none)
    (zb_len : PySem.W.nsIn K mainGlobals "len" = some none)
    (zb_range : PySem.W.nsIn K mainGlobals "range" = some none)
    (zb_tuple : PySem.W.nsIn K mainGlobals "tuple" = some none)
    (zb_list : PySem.W.nsIn K mainGlobals "list" = some none)
    (zb_min : PySem.W.nsIn K mainGlobals "min" = some none)
    (zb_repr : PySem.W.nsIn K mainGlobals "repr" = some none)
    (zb_all : PySem.W.nsIn K mainGlobals "all" = some none)
    (zb_gcd : PySem.W.nsIn K mainGlobals "gcd" = some (some (.builtin "math.gcd")))
    (gc_WheelError : PySem.W.nsIn K mainGlobals "WheelError" = some (some (.ref C_WheelError)))
    (rd_WheelError : PySem.W.readsIn K C_WheelError (.type "type") = true)
    (rg_WheelError : PySem.W.specialIn K (.ref C_WheelError) "__getattribute__" = some (some (.builtin "type.__getattribute__")))
    (ri_WheelError : PySem.W.findCls K (.ref C_WheelError) (.type "type") "__init__" = some (.val (.builtin "ValueError.__init__")))
    (gc_BadBase : PySem.W.nsIn K mainGlobals "BadBase" = some (some (.ref C_BadBase)))
    (gc_BadDenominator : PySem.W.nsIn K mainGlobals "BadDenominator" = some (some (.ref C_BadDenominator)))
    (gc_BadNumber : PySem.W.nsIn K mainGlobals "BadNumber" = some (some (.ref C_BadNumber)))
    (gc_BadPaper : PySem.W.nsIn K mainGlobals "BadPaper" = some (some (.ref C_BadPaper)))
    (iC_BadPaper : PySem.W.findIn K (.ref C_BadPaper) "__init__" = some (some (.ref I_BadPaper)))
    (ini_BadPaper : PySem.W.excInitIn K C_BadPaper [.type "ValueError", .type "Exception", .type "BaseException", .type "object"] "ValueError.__new__" = true)
    (ov_BadPaper : PySem.W.excOver K C_BadPaper [.type "ValueError", .type "Exception", .type "BaseException", .type "object"] = true)
    (hd_BadPaper : PySem.W.hasDictIn K C_BadPaper = true)
    (sa_BadPaper : PySem.W.findIn K (.ref C_BadPaper) "__setattr__" = some (some (.builtin "object.__setattr__")))
    (ex_BadPaper : PySem.W.subIn K (.ref C_BadPaper) (.type "BaseException") = some true)
    (ty_BadPaper : PySem.W.typeIn K (.ref C_BadPaper) = some (.type "type"))
    (kp_BadPaper : PySem.W.keepIn K (.ref C_BadPaper) = true)
    (tk_BadPaper : PySem.W.takerIn K C_BadPaper "part" = some none)
    (no_BadPaper : PySem.W.findIn K (.ref C_BadPaper) "part" = some none)
    (tI_BadPaper : PySem.W.typeIn K (.ref I_BadPaper) = some (.type "function"))
    (ga_BadPaper : PySem.W.findIn K (.ref C_BadPaper) "__getattribute__" = some (some (.builtin "BaseException.__getattribute__")))
    (gg_BadPaper : PySem.W.findIn K (.ref C_BadPaper) "__getattr__" = some none)
    (ha_BadPaper : PySem.W.findIn K (.ref C_BadPaper) "__class__" = some (some (.builtin "object.__class__")))
    (mr_BadPaper : PySem.W.mroIn K C_BadPaper (.type "object") = some true)
    (il_BadPaper : K.lookup I_BadPaper = some ⟨ioc_BadPaper, iod_BadPaper, .func (PySem.W.fnOf "__init__" "BadPaper.__init__" (defArgs s_BadPaper_init) (defBody s_BadPaper_init) (defScope s_BadPaper_init) .none ikV_BadPaper idc_BadPaper ipm_BadPaper ian_BadPaper icd_BadPaper ict_BadPaper), isl_BadPaper⟩)
    (ic_BadPaper : PySem.W.codeIn K icd_BadPaper "BadPaper.__init__" = true)
    (ik_BadPaper : PySem.W.keepIn K (.ref I_BadPaper) = true)
    (cl_BadPaper : PySem.W.isClsIn K C_BadPaper = true)
    (hn_BadPaper : PySem.W.specialIn K (.builtin "object.__class__") "__get__" = some (some (.builtin "getset_descriptor.__get__")))
    (ht_BadPaper : PySem.W.takesIn K (.builtin "object.__class__") = some true)
    (ex1_BadPaper : PySem.W.exmOne K (.ref C_BadPaper) (.ref C_BadPaper) = some true)
    (zc_MOST_BASE : PySem.W.nsIn K mainGlobals "MOST_BASE" = some (some (.int 1000 t_MOST_BASE)))
    (zc_MOST_DENOMINATOR : PySem.W.nsIn K mainGlobals "MOST_DENOMINATOR" = some (some (.int 5000 t_MOST_DENOMINATOR)))
    (zc_MOST_WEIGHT : PySem.W.nsIn K mainGlobals "MOST_WEIGHT" = some (some (.int 1000 t_MOST_WEIGHT)))
    (zc_MOST_EXPONENT : PySem.W.nsIn K mainGlobals "MOST_EXPONENT" = some (some (.int 10000 t_MOST_EXPONENT)))
    : ∃ fd : FuncData, (∀ (s : Shared) (v : Value), BindsTo s fd ⟨[v], []⟩ [("script", v)]) ∧ ∀ base : Heap, K.In base → base.Ns mainGlobals mg → FnG l.prog w K mg base CX0 12 fa fd ["script"] (sp_law K) := by
  obtain ⟨T, hTT⟩ : ∃ T : Txt K mg, T = {
    d_is_integer := Dn.of X G (fun us hl => match us, hl with | [_], _ => rfl) a_is_integer l_is_integer c_is_integer k_is_integer
    d_is_within := Dn.of X G (fun us hl => match us, hl with | [_, _, _], _ => rfl) a_is_within l_is_within c_is_within k_is_within
    d_need_base := Dn.of X G (fun us hl => match us, hl with | [_], _ => rfl) a_need_base l_need_base c_need_base k_need_base
    d_need_denominator := Dn.of X G (fun us hl => match us, hl with | [_], _ => rfl) a_need_denominator l_need_denominator c_need_denominator k_need_denominator
    d_pure_part := Dn.of X G (fun us hl => match us, hl with | [_, _], _ => rfl) a_pure_part l_pure_part c_pure_part k_pure_part
    d_period := Dn.of X G (fun us hl => match us, hl with | [_, _], _ => rfl) a_period l_period c_period k_period
    d_head_size := Dn.of X G (fun us hl => match us, hl with | [_, _], _ => rfl) a_head_size l_head_size c_head_size k_head_size
    d_power_rest := Dn.of X G (fun us hl => match us, hl with | [_, _, _], _ => rfl) a_power_rest l_power_rest c_power_rest k_power_rest
    d_spaced := Dn.of X G (fun us hl => match us, hl with | [_, _, _, _], _ => rfl) a_spaced l_spaced c_spaced k_spaced
    d_need_weight := Dn.of X G (fun us hl => match us, hl with | [_], _ => rfl) a_need_weight l_need_weight c_need_weight k_need_weight
    d_leaves_weight := Dn.of X G (fun us hl => match us, hl with | [_, _, _, _], _ => rfl) a_leaves_weight l_leaves_weight c_leaves_weight k_leaves_weight
    d_power_rests := Dn.of X G (fun us hl => match us, hl with | [_, _], _ => rfl) a_power_rests l_power_rests c_power_rests k_power_rests
    d_least_exponent := Dn.of X G (fun us hl => match us, hl with | [_, _, _], _ => rfl) a_least_exponent l_least_exponent c_least_exponent k_least_exponent
    d_exponents := Dn.of X G (fun us hl => match us, hl with | [_, _, _], _ => rfl) a_exponents l_exponents c_exponents k_exponents
    d_exponent_paper := Dn.of X G (fun us hl => match us, hl with | [_, _, _], _ => rfl) a_exponent_paper l_exponent_paper c_exponent_paper k_exponent_paper
    d_proves_never := Dn.of X G (fun us hl => match us, hl with | [_, _, _, _], _ => rfl) a_proves_never l_proves_never c_proves_never k_proves_never
    d_check_exponent := Dn.of X G (fun us hl => match us, hl with | [_, _, _, _], _ => rfl) a_check_exponent l_check_exponent c_check_exponent k_check_exponent
    d_law_begun := Dn.of X G (fun us hl => match us, hl with | [_, _], _ => rfl) a_law_begun l_law_begun c_law_begun k_law_begun
    d_law_draw := Dn.of X G (fun us hl => match us, hl with | [_, _], _ => rfl) a_law_draw l_law_draw c_law_draw k_law_draw
    d_law_of := Dn.of X G (fun us hl => match us, hl with | [_, _], _ => rfl) a_law_of l_law_of c_law_of k_law_of
    d_law_powers := Dn.of X G (fun us hl => match us, hl with | [_, _], _ => rfl) a_law_powers l_law_powers c_law_powers k_law_powers
    d_law_raised := Dn.of X G (fun us hl => match us, hl with | [_, _, _], _ => rfl) a_law_raised l_law_raised c_law_raised k_law_raised
    d_law_own := Dn.of X G (fun us hl => match us, hl with | [_, _, _], _ => rfl) a_law_own l_law_own c_law_own k_law_own
    d_law_is_int := Dn.of X G (fun us hl => match us, hl with | [_, _, _], _ => rfl) a_law_is_int l_law_is_int c_law_is_int k_law_is_int
    d_law_due := Dn.of X G (fun us hl => match us, hl with | [_, _, _, _], _ => rfl) a_law_due l_law_due c_law_due k_law_due
    d_law_heard := Dn.of X G (fun us hl => match us, hl with | [_, _, _, _], _ => rfl) a_law_heard l_law_heard c_law_heard k_law_heard
    d_law_right := Dn.of X G (fun us hl => match us, hl with | [_, _, _, _], _ => rfl) a_law_right l_law_right c_law_right k_law_right
    d_law_hand_right := Dn.of X G (fun us hl => match us, hl with | [], _ => rfl) a_law_hand_right l_law_hand_right c_law_hand_right k_law_hand_right
    d_law := Dn.of X G (fun us hl => match us, hl with | [_], _ => rfl) a_law l_law c_law k_law
    b_isinstance := PySem.W.mg_none_of X G zb_isinstance
    b_int := PySem.W.mg_none_of X G zb_int
    b_bool := PySem.W.mg_none_of X G zb_bool
    b_str := PySem.W.mg_none_of X G zb_str
    b_len := PySem.W.mg_none_of X G zb_len
    b_range := PySem.W.mg_none_of X G zb_range
    b_tuple := PySem.W.mg_none_of X G zb_tuple
    b_list := PySem.W.mg_none_of X G zb_list
    b_min := PySem.W.mg_none_of X G zb_min
    b_repr := PySem.W.mg_none_of X G zb_repr
    b_all := PySem.W.mg_none_of X G zb_all
    b_gcd := PySem.W.mg_of X G zb_gcd
    C_WheelError := C_WheelError
    g_WheelError := PySem.W.mg_of X G gc_WheelError
    r_WheelError := ⟨rd_WheelError, rg_WheelError⟩
    i_WheelError := ri_WheelError
    C_BadBase := C_BadBase
    g_BadBase := PySem.W.mg_of X G gc_BadBase
    C_BadDenominator := C_BadDenominator
    g_BadDenominator := PySem.W.mg_of X G gc_BadDenominator
    C_BadNumber := C_BadNumber
    g_BadNumber := PySem.W.mg_of X G gc_BadNumber
    C_BadPaper := C_BadPaper
    g_BadPaper := PySem.W.mg_of X G gc_BadPaper
    I_BadPaper := I_BadPaper
    T_BadPaper := ⟨PySem.F.excBase_ValueError, PySem.F.store_ValueError, ini_BadPaper, ov_BadPaper, hd_BadPaper, sa_BadPaper, ex_BadPaper, ty_BadPaper, kp_BadPaper, tk_BadPaper, no_BadPaper, iC_BadPaper, tI_BadPaper, ga_BadPaper, gg_BadPaper, ha_BadPaper, mr_BadPaper⟩
    fd_BadPaper := _
    F_BadPaper := fun_mk il_BadPaper ic_BadPaper ik_BadPaper
    b_BadPaper := .all (fun us hl => match us, hl with | [_, _], _ => rfl)
    is_BadPaper := ⟨cl_BadPaper, ga_BadPaper, gg_BadPaper, ex_BadPaper, ha_BadPaper, hn_BadPaper, ht_BadPaper, mr_BadPaper⟩
    ex1_BadPaper := ex1_BadPaper
    t_MOST_BASE := t_MOST_BASE
    c_MOST_BASE := PySem.W.mg_of X G zc_MOST_BASE
    t_MOST_DENOMINATOR := t_MOST_DENOMINATOR
    c_MOST_DENOMINATOR := PySem.W.mg_of X G zc_MOST_DENOMINATOR
    t_MOST_WEIGHT := t_MOST_WEIGHT
    c_MOST_WEIGHT := PySem.W.mg_of X G zc_MOST_WEIGHT
    t_MOST_EXPONENT := t_MOST_EXPONENT
    c_MOST_EXPONENT := PySem.W.mg_of X G zc_MOST_EXPONENT
  } := ⟨_, rfl⟩
  have e := hfa.symm.trans T.d_law.m
  cases e
  exact ⟨T.d_law.fd, fun s v => .of_eq (T.d_law.e [v] rfl), fun base _ _ => okG_law T⟩
end Wn
open PySem PySem.W PyProof.Rows
set_option maxRecDepth 100000 in
set_option maxHeartbeats 0 in
theorem PySem.Challenge.cw_wheelnines_k46_whole_exponents_holds : PySem.Challenge.rw_wheelnines_k46_whole_exponents.Holds := by
  w_on; o_law; k_head; (case hw => w_witness2)
  k_fill
  refine Wn.walkG (l := PySem.Challenge.rw_wheelnines_k46_whole_exponents) (n := 63) (k := 12) (x := "script") (sp := fun w => Wn.sp_law _) rfl (by decide) rfl ⟨rfl, by decide, by decide⟩ (fun w h Y => PySem.W.kIn_of Y) ?F (fun _ _ a ns hl _ hS => ⟨a, ns, rfl, hS, hl, fun _ => rfl⟩)
  case F =>
    intro w mg fa h KX G hmg
    refine' Wn.all_mk KX G hmg ?a_is_integer ?l_is_integer ?c_is_integer ?k_is_integer ?a_is_within ?l_is_within ?c_is_within ?k_is_within ?a_need_base ?l_need_base ?c_need_base ?k_need_base ?a_need_denominator ?l_need_denominator ?c_need_denominator ?k_need_denominator ?a_pure_part ?l_pure_part ?c_pure_part ?k_pure_part ?a_period ?l_period ?c_period ?k_period ?a_head_size ?l_head_size ?c_head_size ?k_head_size ?a_power_rest ?l_power_rest ?c_power_rest ?k_power_rest ?a_spaced ?l_spaced ?c_spaced ?k_spaced ?a_need_weight ?l_need_weight ?c_need_weight ?k_need_weight ?a_leaves_weight ?l_leaves_weight ?c_leaves_weight ?k_leaves_weight ?a_power_rests ?l_power_rests ?c_power_rests ?k_power_rests ?a_least_exponent ?l_least_exponent ?c_least_exponent ?k_least_exponent ?a_exponents ?l_exponents ?c_exponents ?k_exponents ?a_exponent_paper ?l_exponent_paper ?c_exponent_paper ?k_exponent_paper ?a_proves_never ?l_proves_never ?c_proves_never ?k_proves_never ?a_check_exponent ?l_check_exponent ?c_check_exponent ?k_check_exponent ?a_law_begun ?l_law_begun ?c_law_begun ?k_law_begun ?a_law_draw ?l_law_draw ?c_law_draw ?k_law_draw ?a_law_of ?l_law_of ?c_law_of ?k_law_of ?a_law_powers ?l_law_powers ?c_law_powers ?k_law_powers ?a_law_raised ?l_law_raised ?c_law_raised ?k_law_raised ?a_law_own ?l_law_own ?c_law_own ?k_law_own ?a_law_is_int ?l_law_is_int ?c_law_is_int ?k_law_is_int ?a_law_due ?l_law_due ?c_law_due ?k_law_due ?a_law_heard ?l_law_heard ?c_law_heard ?k_law_heard ?a_law_right ?l_law_right ?c_law_right ?k_law_right ?a_law_hand_right ?l_law_hand_right ?c_law_hand_right ?k_law_hand_right ?a_law ?l_law ?c_law ?k_law ?zb_isinstance ?zb_int ?zb_bool ?zb_str ?zb_len ?zb_range ?zb_tuple ?zb_list ?zb_min ?zb_repr ?zb_all ?zb_gcd ?gc_WheelError ?rd_WheelError ?rg_WheelError ?ri_WheelError ?gc_BadBase ?gc_BadDenominator ?gc_BadNumber ?gc_BadPaper ?iC_BadPaper ?ini_BadPaper ?ov_BadPaper ?hd_BadPaper ?sa_BadPaper ?ex_BadPaper ?ty_BadPaper ?kp_BadPaper ?tk_BadPaper ?no_BadPaper ?tI_BadPaper ?ga_BadPaper ?gg_BadPaper ?ha_BadPaper ?mr_BadPaper ?il_BadPaper ?ic_BadPaper ?ik_BadPaper ?cl_BadPaper ?hn_BadPaper ?ht_BadPaper ?ex1_BadPaper ?zc_MOST_BASE ?zc_MOST_DENOMINATOR ?zc_MOST_WEIGHT ?zc_MOST_EXPONENT
    (case a_is_integer => k_is)
    (case l_is_integer => k_is)
    (case c_is_integer => k_is)
    (case k_is_integer => k_is)
    (case a_is_within => k_is)
    (case l_is_within => k_is)
    (case c_is_within => k_is)
    (case k_is_within => k_is)
    (case a_need_base => k_is)
    (case l_need_base => k_is)
    (case c_need_base => k_is)
    (case k_need_base => k_is)
    (case a_need_denominator => k_is)
    (case l_need_denominator => k_is)
    (case c_need_denominator => k_is)
    (case k_need_denominator => k_is)
    (case a_pure_part => k_is)
    (case l_pure_part => k_is)
    (case c_pure_part => k_is)
    (case k_pure_part => k_is)
    (case a_period => k_is)
    (case l_period => k_is)
    (case c_period => k_is)
    (case k_period => k_is)
    (case a_head_size => k_is)
    (case l_head_size => k_is)
    (case c_head_size => k_is)
    (case k_head_size => k_is)
    (case a_power_rest => k_is)
    (case l_power_rest => k_is)
    (case c_power_rest => k_is)
    (case k_power_rest => k_is)
    (case a_spaced => k_is)
    (case l_spaced => k_is)
    (case c_spaced => k_is)
    (case k_spaced => k_is)
    (case a_need_weight => k_is)
    (case l_need_weight => k_is)
    (case c_need_weight => k_is)
    (case k_need_weight => k_is)
    (case a_leaves_weight => k_is)
    (case l_leaves_weight => k_is)
    (case c_leaves_weight => k_is)
    (case k_leaves_weight => k_is)
    (case a_power_rests => k_is)
    (case l_power_rests => k_is)
    (case c_power_rests => k_is)
    (case k_power_rests => k_is)
    (case a_least_exponent => k_is)
    (case l_least_exponent => k_is)
    (case c_least_exponent => k_is)
    (case k_least_exponent => k_is)
    (case a_exponents => k_is)
    (case l_exponents => k_is)
    (case c_exponents => k_is)
    (case k_exponents => k_is)
    (case a_exponent_paper => k_is)
    (case l_exponent_paper => k_is)
    (case c_exponent_paper => k_is)
    (case k_exponent_paper => k_is)
    (case a_proves_never => k_is)
    (case l_proves_never => k_is)
    (case c_proves_never => k_is)
    (case k_proves_never => k_is)
    (case a_check_exponent => k_is)
    (case l_check_exponent => k_is)
    (case c_check_exponent => k_is)
    (case k_check_exponent => k_is)
    (case a_law_begun => k_is)
    (case l_law_begun => k_is)
    (case c_law_begun => k_is)
    (case k_law_begun => k_is)
    (case a_law_draw => k_is)
    (case l_law_draw => k_is)
    (case c_law_draw => k_is)
    (case k_law_draw => k_is)
    (case a_law_of => k_is)
    (case l_law_of => k_is)
    (case c_law_of => k_is)
    (case k_law_of => k_is)
    (case a_law_powers => k_is)
    (case l_law_powers => k_is)
    (case c_law_powers => k_is)
    (case k_law_powers => k_is)
    (case a_law_raised => k_is)
    (case l_law_raised => k_is)
    (case c_law_raised => k_is)
    (case k_law_raised => k_is)
    (case a_law_own => k_is)
    (case l_law_own => k_is)
    (case c_law_own => k_is)
    (case k_law_own => k_is)
    (case a_law_is_int => k_is)
    (case l_law_is_int => k_is)
    (case c_law_is_int => k_is)
    (case k_law_is_int => k_is)
    (case a_law_due => k_is)
    (case l_law_due => k_is)
    (case c_law_due => k_is)
    (case k_law_due => k_is)
    (case a_law_heard => k_is)
    (case l_law_heard => k_is)
    (case c_law_heard => k_is)
    (case k_law_heard => k_is)
    (case a_law_right => k_is)
    (case l_law_right => k_is)
    (case c_law_right => k_is)
    (case k_law_right => k_is)
    (case a_law_hand_right => k_is)
    (case l_law_hand_right => k_is)
    (case c_law_hand_right => k_is)
    (case k_law_hand_right => k_is)
    (case a_law => k_is)
    (case l_law => k_is)
    (case c_law => k_is)
    (case k_law => k_is)
    (case zb_isinstance => k_is)
    (case zb_int => k_is)
    (case zb_bool => k_is)
    (case zb_str => k_is)
    (case zb_len => k_is)
    (case zb_range => k_is)
    (case zb_tuple => k_is)
    (case zb_list => k_is)
    (case zb_min => k_is)
    (case zb_repr => k_is)
    (case zb_all => k_is)
    (case zb_gcd => k_is)
    (case gc_WheelError => k_is)
    (case rd_WheelError => k_is)
    (case rg_WheelError => k_is)
    (case ri_WheelError => k_is)
    (case gc_BadBase => k_is)
    (case gc_BadDenominator => k_is)
    (case gc_BadNumber => k_is)
    (case gc_BadPaper => k_is)
    (case iC_BadPaper => k_is)
    (case ini_BadPaper => kx_is)
    (case ov_BadPaper => kx_is)
    (case hd_BadPaper => k_is)
    (case sa_BadPaper => k_is)
    (case ex_BadPaper => k_is)
    (case ty_BadPaper => k_is)
    (case kp_BadPaper => k_is)
    (case tk_BadPaper => k_is)
    (case no_BadPaper => k_is)
    (case tI_BadPaper => k_is)
    (case ga_BadPaper => k_is)
    (case gg_BadPaper => k_is)
    (case ha_BadPaper => k_is)
    (case mr_BadPaper => k_is)
    (case il_BadPaper => k_is)
    (case ic_BadPaper => k_is)
    (case ik_BadPaper => k_is)
    (case cl_BadPaper => k_is)
    (case hn_BadPaper => k_is)
    (case ht_BadPaper => k_is)
    (case ex1_BadPaper => kernel_rfl)
    (case zc_MOST_BASE => k_is)
    (case zc_MOST_DENOMINATOR => k_is)
    (case zc_MOST_WEIGHT => k_is)
    (case zc_MOST_EXPONENT => k_is)
