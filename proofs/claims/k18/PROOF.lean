import PyProof.Rows.All
import Wide.All
import OpenK.AllK
import Wide.FinOn
import HandS.ForMost
import HandS.Wide
import HandS.Gcd
import HandS.IsInst
import HandS.TupAny
import HandS.Style
import PyProof.ReprBulk
import PyProof.ReprRoads
import PyProof.ReprLen
import PyProof.Rows.SumAny
import PyProof.WalksMore
import HandS.SetFor
import HandS.Strs
import HandS.TupMul
import HandS.Text
import HandS.Codes
import HandS.FStr
import KE.KExcInit
import HandS.ExcInit
import HandS.ExcValue
import HandS.ExcField
import HandS.ExcIs
import HandS.ClsMeth
import KE.KExcIs
import KE.KTryMore
import HandS.TryMany
import HandS.Lambda
import KE.KDflt
import HandS.EndTab
import KE.KExcLine
import HandS.WordsExc
import KE.RegKIsAll
import PySem.Challenge.RW_wheelnines_k18_whole_texts
set_option Elab.async false
set_option linter.all false
set_option maxRecDepth 100000
set_option maxHeartbeats 4000000
namespace Wn
open PySem PySem.Spec PyProof.Rows L2
/-! a def of the text as it stands: where, its facts, its name -/
structure Dn (K : PySem.W.Frag) (mg : Str → Option Value) (x : Str) (st : Stmt) (ps : List Str) where
  f : Addr
  fd : FuncData
  F : Fun K x x st f fd
  e : ∀ us : List Value, us.length = ps.length → bindArgs fd ⟨us, []⟩ = pure (ps.zip us)
  m : mg x = some (.ref f)
theorem Dn.b {K : PySem.W.Frag} {mg : Str → Option Value} {x : Str} {st : Stmt} {ps : List Str} (D : Dn K mg x st ps) : Binds K D.fd ps [] := .all D.e
def Dn.of {K : PySem.W.Frag} {h : Heap} {mg : Str → Option Value} {x : Str} {st : Stmt} {ps : List Str} {f : Addr} {oc kV doc pm cdv ct : Value} {od an : Option Addr} {osl : Array (Option Value)} (X : K.In h) (G : h.Ns mainGlobals mg)
    (hb : ∀ us : List Value, us.length = ps.length → bindArgs (PySem.W.fnOf x x (defArgs st) (defBody st) (defScope st) .none kV doc pm an cdv ct) ⟨us, []⟩ = pure (ps.zip us))
    (a : PySem.W.nsIn K mainGlobals x = some (some (.ref f))) (l : K.lookup f = some ⟨oc, od, .func (PySem.W.fnOf x x (defArgs st) (defBody st) (defScope st) .none kV doc pm an cdv ct), osl⟩)
    (c : PySem.W.codeIn K cdv x = true) (k : PySem.W.keepIn K (.ref f) = true) : Dn K mg x st ps := ⟨f, _, fun_mk l c k, hb, PySem.W.mg_of X G a⟩
/-! all that stood stands, but what is at W -/
def Gr (W : List Addr) (H H' : Hp) : Prop := ∀ a o, a ∉ W → H a = some o → H' a = some o
theorem Gr.refl (W : List Addr) (H : Hp) : Gr W H H := fun _ _ _ h => h
theorem Gr.trans {W : List Addr} {H H1 H2 : Hp} (a : Gr W H H1) (b : Gr W H1 H2) : Gr W H H2 := fun x o n h => b x o n (a x o n h)
theorem Gr.new {W : List Addr} {H : Hp} {p : Addr} {o : HO} (h : H p = none) : Gr W H (upd H p o) := fun a u _ e => by
  rw [upd_ne (ne_of_none e h)]
  exact e
theorem Gr.wr {W : List Addr} {H : Hp} {p : Addr} {o : HO} (h : p ∈ W) : Gr W H (upd H p o) := fun a u n e => by
  have z : a ≠ p := fun z => by
    subst z
    exact n h
  rw [upd_ne z]
  exact e
theorem Gr.mono {W W' : List Addr} {H H' : Hp} (h : ∀ a, a ∈ W → a ∈ W') (g : Gr W H H') : Gr W' H H' := fun a o n e => g a o (fun z => n (h a z)) e
end Wn
/-! the mathematics: powers, remainders, pure parts, periods, heads -/
namespace Wn
theorem cop_pow {a b : Nat} (h : Nat.gcd a b = 1) (k : Nat) : Nat.gcd (a ^ k) b = 1 := Nat.Coprime.pow_left k h
theorem mod_iff {p a c : Nat} (h : a ≤ c) : a % p = c % p ↔ p ∣ c - a := by
  constructor
  · intro e
    exact Nat.dvd_of_mod_eq_zero (Nat.sub_mod_eq_zero_of_mod_eq e.symm)
  · rintro ⟨t, e⟩
    have : c = a + p * t := by omega
    rw [this, Nat.add_mul_mod_self_left]
/-! a pigeonhole -/
theorem nodup_le : ∀ (n : Nat) (l : List Nat), l.Nodup → (∀ x ∈ l, x < n) → l.length ≤ n := by
  intro n
  induction n with
  | zero =>
    intro l _ h
    cases l with
    | nil => exact Nat.le_refl _
    | cons x r => exact absurd (h x (List.mem_cons_self ..)) (Nat.not_lt_zero _)
  | succ n ih =>
    intro l nd h
    have h1 := ih (l.erase n) (nd.erase n) (fun x hx => by
      have hm := List.mem_of_mem_erase hx
      have hlt := h x hm
      have hne : x ≠ n := fun e => by
        subst e
        exact (List.Nodup.not_mem_erase nd) hx
      omega)
    by_cases hn : n ∈ l
    · rw [List.length_erase_of_mem hn] at h1
      omega
    · rw [List.erase_of_not_mem hn] at h1
      omega
/-- among n + 1 numbers below n two are the same -/
theorem pigeon (n : Nat) (f : Nat → Nat) (h : ∀ i, i ≤ n → f i < n) : ∃ i j, i < j ∧ j ≤ n ∧ f i = f j := by
  by_cases nd : ((List.range (n + 1)).map f).Nodup
  · have := nodup_le n _ nd (fun x hx => by
      obtain ⟨i, hi, e⟩ := List.mem_map.mp hx
      rw [← e]
      exact h i (by have := List.mem_range.mp hi; omega))
    rw [List.length_map, List.length_range] at this
    omega
  · rw [List.nodup_iff_pairwise_ne, List.pairwise_map] at nd
    apply Classical.byContradiction
    intro hc
    apply nd
    rw [List.pairwise_iff_getElem]
    intro i j hi hj hij e
    rw [List.getElem_range, List.getElem_range] at e
    rw [List.length_range] at hj
    exact hc ⟨i, j, hij, by omega, e⟩
/-! pure parts -/
def IsPure (b n p : Nat) : Prop := Nat.gcd b p = 1 ∧ ∃ q k, n = p * q ∧ q ∣ b ^ k
theorem cop_of_dvd_pow {b p q k : Nat} (h : Nat.gcd b p = 1) (hq : q ∣ b ^ k) : Nat.gcd p q = 1 := by
  have h1 : Nat.gcd (b ^ k) p = 1 := cop_pow h k
  have h2 : Nat.gcd p q ∣ Nat.gcd (b ^ k) p := Nat.dvd_gcd (Nat.dvd_trans (Nat.gcd_dvd_right p q) hq) (Nat.gcd_dvd_left p q)
  rw [h1] at h2
  exact Nat.dvd_one.mp h2
theorem IsPure.dvd {b n p p' : Nat} (h : IsPure b n p) (h' : IsPure b n p') : p ∣ p' := by
  obtain ⟨g, q, k, e, hq⟩ := h
  obtain ⟨g', q', k', e', hq'⟩ := h'
  have c : Nat.Coprime p q' := cop_of_dvd_pow g hq'
  refine c.dvd_of_dvd_mul_right ?_
  rw [← e', e]
  exact Nat.dvd_mul_right p q
theorem IsPure.uniq {b n p p' : Nat} (h : IsPure b n p) (h' : IsPure b n p') : p = p' := Nat.dvd_antisymm (h.dvd h') (h'.dvd h)
theorem IsPure.self {b n : Nat} (h : Nat.gcd b n = 1) : IsPure b n n := ⟨h, 1, 0, by simp, by simp⟩
/-! periods -/
def IsPer (b p d : Nat) : Prop := 1 ≤ d ∧ b ^ d % p = 1 % p ∧ ∀ j, 1 ≤ j → j < d → b ^ j % p ≠ 1 % p
theorem IsPer.uniq {b p d d' : Nat} (h : IsPer b p d) (h' : IsPer b p d') : d = d' := by
  obtain ⟨h1, h2, h3⟩ := h
  obtain ⟨g1, g2, g3⟩ := h'
  apply Nat.le_antisymm
  · apply Nat.le_of_not_lt
    intro l
    exact h3 d' g1 l g2
  · apply Nat.le_of_not_lt
    intro l
    exact g3 d h1 l h2
theorem least (P : Nat → Prop) [DecidablePred P] : ∀ n, P n → ∃ m, m ≤ n ∧ P m ∧ ∀ j, j < m → ¬ P j := by
  intro n
  induction n using Nat.strongRecOn with
  | _ n ih =>
    intro hn
    by_cases h : ∃ j, j < n ∧ P j
    · obtain ⟨j, hj, pj⟩ := h
      obtain ⟨m, hm, pm, q⟩ := ih j hj pj
      exact ⟨m, by omega, pm, q⟩
    · exact ⟨n, Nat.le_refl _, hn, fun j hj pj => h ⟨j, hj, pj⟩⟩
/-- a common factor that is pure may go: b ^ i * c ≡ b ^ i * d -/
theorem mod_cancel {p a c d : Nat} (g : Nat.gcd a p = 1) (h : a * c % p = a * d % p) : c % p = d % p := by
  have key : ∀ {c d : Nat}, c ≤ d → a * c % p = a * d % p → c % p = d % p := by
    intro c d hcd h
    have h1 : p ∣ a * (d - c) := by
      rw [Nat.mul_sub]
      exact (mod_iff (Nat.mul_le_mul_left a hcd)).mp h
    have h2 : p ∣ d - c := Nat.Coprime.dvd_of_dvd_mul_left (Nat.Coprime.symm g) h1
    exact (mod_iff hcd).mpr h2
  rcases Nat.le_total c d with l | l
  · exact key l h
  · exact (key l h.symm).symm
theorem per_exists {b p : Nat} (hp : 1 ≤ p) (g : Nat.gcd b p = 1) : ∃ d, d ≤ p ∧ IsPer b p d := by
  obtain ⟨i, j, hij, hj, e⟩ := pigeon p (fun k => b ^ k % p) (fun i _ => Nat.mod_lt _ hp)
  have e1 : b ^ (j - i) % p = 1 % p := by
    have e' : b ^ i * b ^ (j - i) % p = b ^ i * 1 % p := by
      rw [← Nat.pow_add, show i + (j - i) = j by omega, Nat.mul_one]
      exact e.symm
    exact mod_cancel (cop_pow g i) e'
  obtain ⟨m, hm, ⟨pm1, pm⟩, q⟩ := least (fun k => 1 ≤ k ∧ b ^ k % p = 1 % p) (j - i) ⟨by omega, e1⟩
  exact ⟨m, by omega, pm1, pm, fun k k1 kl z => q k kl ⟨k1, z⟩⟩
theorem pow_mod_step (b p k : Nat) : b ^ k % p * b % p = b ^ (k + 1) % p := by
  rw [Nat.mod_mul_mod, Nat.pow_succ]
theorem IsPer.mul {b p d : Nat} (h : IsPer b p d) (k : Nat) : b ^ (d * k) % p = 1 % p := by
  induction k with
  | zero => simp
  | succ k ih =>
    rw [Nat.mul_succ, Nat.pow_add, Nat.mul_mod, ih, h.2.1, ← Nat.mul_mod, Nat.mul_one]
theorem IsPer.iff {b p d : Nat} (h : IsPer b p d) (k : Nat) : b ^ k % p = 1 % p ↔ d ∣ k := by
  have e : b ^ k % p = b ^ (k % d) % p := by
    have := Nat.div_add_mod k d
    rw [show b ^ k = b ^ (d * (k / d) + k % d) by rw [this], Nat.pow_add, Nat.mul_mod, h.mul, ← Nat.mul_mod, Nat.one_mul]
  constructor
  · intro hk
    rw [e] at hk
    apply Nat.dvd_of_mod_eq_zero
    apply Classical.byContradiction
    intro hz
    exact h.2.2 (k % d) (by omega) (Nat.mod_lt _ h.1) hk
  · rintro ⟨m, rfl⟩
    exact h.mul m
/-! heads -/
def IsHead (b q h : Nat) : Prop := b ^ h % q = 0 ∧ ∀ j, j < h → b ^ j % q ≠ 0
theorem IsHead.uniq {b q h h' : Nat} (a : IsHead b q h) (c : IsHead b q h') : h = h' := by
  apply Nat.le_antisymm
  · apply Nat.le_of_not_lt
    intro l
    exact a.2 h' l c.1
  · apply Nat.le_of_not_lt
    intro l
    exact c.2 h l a.1
theorem head_exists {b q k : Nat} (h : q ∣ b ^ k) : ∃ m, m ≤ k ∧ IsHead b q m := by
  obtain ⟨m, hm, pm, r⟩ := least (fun j => b ^ j % q = 0) k (Nat.mod_eq_zero_of_dvd h)
  exact ⟨m, hm, pm, r⟩
theorem IsHead.iff {b q h : Nat} (a : IsHead b q h) (k : Nat) : q ∣ b ^ k ↔ h ≤ k := by
  constructor
  · intro d
    apply Nat.le_of_not_lt
    intro l
    exact a.2 k l (Nat.mod_eq_zero_of_dvd d)
  · intro l
    have d : q ∣ b ^ h := Nat.dvd_of_mod_eq_zero a.1
    rw [show k = h + (k - h) by omega, Nat.pow_add]
    exact Nat.dvd_trans d (Nat.dvd_mul_right _ _)
theorem head_le {b q h : Nat} (hq : 1 ≤ q) (a : IsHead b q h) : h ≤ q := by
  apply Nat.le_of_not_lt
  intro l
  -- among the first q + 1 remainders two are the same: then none is nought behind
  obtain ⟨i, j, hij, hj, e⟩ := pigeon q (fun k => b ^ k % q) (fun i _ => Nat.mod_lt _ hq)
  have key : ∀ k, b ^ (i + k) % q = b ^ (j + k) % q := by
    intro k
    rw [Nat.pow_add, Nat.pow_add, Nat.mul_mod, e, ← Nat.mul_mod]
  have hz : b ^ (j + (h - j)) % q = 0 := by
    rw [show j + (h - j) = h by omega]
    exact a.1
  rw [← key] at hz
  exact a.2 (i + (h - j)) (by omega) hz
/-! remainders -/
def rem (b n x i : Nat) : Nat := x * b ^ i % n
theorem rem_lt {b n x i : Nat} (h : 1 ≤ n) : rem b n x i < n := Nat.mod_lt _ h
theorem rem_succ (b n x i : Nat) : rem b n x i * b % n = rem b n x (i + 1) := by
  unfold rem
  rw [Nat.mod_mul_mod, Nat.pow_succ, Nat.mul_assoc]
theorem rem_zero {b n x : Nat} (h : x < n) : rem b n x 0 = x := by
  unfold rem
  rw [Nat.pow_zero, Nat.mul_one, Nat.mod_eq_of_lt h]
/-- THE RING: when remainders come again -/
theorem rem_eq {b n x p q h L i j : Nat} (gx : Nat.gcd x n = 1) (e : n = p * q) (gp : Nat.gcd b p = 1) (gq : Nat.gcd p q = 1) (hh : IsHead b q h) (hL : IsPer b p L) (hij : i < j) :
    rem b n x i = rem b n x j ↔ h ≤ i ∧ L ∣ j - i := by
  have hle : b ^ i ≤ b ^ j ∨ b = 0 := by
    rcases Nat.eq_zero_or_pos b with z | z
    · exact .inr z
    · exact .inl (Nat.pow_le_pow_right z (Nat.le_of_lt hij))
  have hs : b ^ j = b ^ i * b ^ (j - i) := by rw [← Nat.pow_add, show i + (j - i) = j by omega]
  unfold rem
  constructor
  · intro hr
    have h1 : b ^ i % n = b ^ j % n := mod_cancel gx hr
    have hp : b ^ i % p = b ^ j % p := by
      have := congrArg (· % p) h1
      rw [e, Nat.mod_mul_right_mod, Nat.mod_mul_right_mod] at this
      exact this
    have hq : b ^ i % q = b ^ j % q := by
      have := congrArg (· % q) h1
      rw [e, Nat.mod_mul_left_mod, Nat.mod_mul_left_mod] at this
      exact this
    have dL : L ∣ j - i := by
      rw [← hL.iff]
      refine mod_cancel (cop_pow gp i) ?_
      rw [← hs, Nat.mul_one]
      exact hp.symm
    refine ⟨?_, dL⟩
    rw [← hh.iff]
    -- q divides b ^ i * (b ^ (j - i) - 1), and b ^ (j - i) is a multiple that goes on: take many turns
    have key : ∀ k, b ^ i % q = b ^ (i + (j - i) * k) % q := by
      intro k
      induction k with
      | zero => simp
      | succ k ih =>
        rw [show i + (j - i) * (k + 1) = (j - i) + (i + (j - i) * k) by rw [Nat.mul_succ]; omega, Nat.pow_add, Nat.mul_mod, ← ih, ← Nat.mul_mod, ← Nat.pow_add, show (j - i) + i = j by omega]
        exact hq
    have hz : b ^ (i + (j - i) * h) % q = 0 := by
      apply Nat.mod_eq_zero_of_dvd
      rw [hh.iff]
      have : h ≤ (j - i) * h := Nat.le_mul_of_pos_left h (by omega)
      omega
    exact Nat.dvd_of_mod_eq_zero ((key h).trans hz)
  · rintro ⟨h1, h2⟩
    have hp : b ^ (j - i) % p = 1 % p := (hL.iff _).mpr h2
    have hqd : q ∣ b ^ i := (hh.iff i).mpr h1
    have hpd : b ^ i % p = b ^ j % p := by
      rw [hs, Nat.mul_mod, hp, ← Nat.mul_mod, Nat.mul_one]
    have both : b ^ i % n = b ^ j % n := by
      rcases hle with hle | hb
      · apply (mod_iff hle).mpr
        rw [e]
        refine Nat.Coprime.mul_dvd_of_dvd_of_dvd gq ?_ ?_
        · exact (mod_iff hle).mp hpd
        · rw [hs, ← Nat.mul_sub_one]
          exact Nat.dvd_trans hqd (Nat.dvd_mul_right _ _)
      · subst hb
        have hp1 : p = 1 := by rw [Nat.gcd_zero_left] at gp; exact gp
        subst hp1
        rw [Nat.one_mul] at e
        subst e
        rw [Nat.mod_eq_zero_of_dvd hqd, Nat.mod_eq_zero_of_dvd (by rw [hs]; exact Nat.dvd_trans hqd (Nat.dvd_mul_right _ _))]
    rw [Nat.mul_mod, both, ← Nat.mul_mod]
/-! all of a denominator in a base -/
structure Par (b n p q h L : Nat) : Prop where
  hp : IsPure b n p
  e : n = p * q
  hh : IsHead b q h
  hL : IsPer b p L
theorem pure_exists (b : Nat) : ∀ n, 1 ≤ n → ∃ p, IsPure b n p := by
  intro n
  induction n using Nat.strongRecOn with
  | _ n ih =>
    intro hn
    by_cases g : Nat.gcd b n = 1
    · exact ⟨n, IsPure.self g⟩
    · obtain ⟨c, hc⟩ := Nat.gcd_dvd_right b n
      have hg : 1 ≤ Nat.gcd b n := Nat.gcd_pos_of_pos_right b hn
      have hc1 : 1 ≤ c := by
        rcases Nat.eq_zero_or_pos c with z | z
        · rw [z] at hc
          omega
        · exact z
      have hcn : c < n := by
        have hg2 : 2 ≤ Nat.gcd b n := by omega
        have : 2 * c ≤ Nat.gcd b n * c := Nat.mul_le_mul_right c hg2
        omega
      obtain ⟨p, hp, q, k, e, d⟩ := ih c hcn hc1
      refine ⟨p, hp, Nat.gcd b n * q, k + 1, ?_, ?_⟩
      · conv => lhs; rw [hc, e]
        rw [Nat.mul_left_comm]
      · rw [Nat.pow_succ, Nat.mul_comm (b ^ k) b]
        exact Nat.mul_dvd_mul (Nat.gcd_dvd_left b n) d
theorem par_exists {b n : Nat} (hn : 1 ≤ n) : ∃ p q h L, Par b n p q h L := by
  obtain ⟨p, hp⟩ := pure_exists b n hn
  obtain ⟨g, q, k, e, d⟩ := id hp
  obtain ⟨h, _, hh⟩ := head_exists d
  have hp1 : 1 ≤ p := by
    rcases Nat.eq_zero_or_pos p with z | z
    · rw [z] at e
      omega
    · exact z
  obtain ⟨L, _, hL⟩ := per_exists hp1 g
  exact ⟨p, q, h, L, hp, e, hh, hL⟩
section
variable {b n p q h L : Nat}
theorem Par.p1 (P : Par b n p q h L) (hn : 1 ≤ n) : 1 ≤ p := by
  rcases Nat.eq_zero_or_pos p with z | z
  · have := P.e
    rw [z] at this
    omega
  · exact z
theorem Par.q1 (P : Par b n p q h L) (hn : 1 ≤ n) : 1 ≤ q := by
  rcases Nat.eq_zero_or_pos q with z | z
  · have := P.e
    rw [z] at this
    omega
  · exact z
theorem Par.pn (P : Par b n p q h L) (hn : 1 ≤ n) : p ≤ n := Nat.le_of_dvd hn ⟨q, P.e⟩
theorem Par.qn (P : Par b n p q h L) (hn : 1 ≤ n) : q ≤ n := Nat.le_of_dvd hn ⟨p, by rw [P.e, Nat.mul_comm]⟩
theorem Par.Ln (P : Par b n p q h L) (hn : 1 ≤ n) : L ≤ n := by
  obtain ⟨d, hd, hd'⟩ := per_exists (P.p1 hn) P.hp.1
  have := hd'.uniq P.hL
  have := P.pn hn
  omega
theorem Par.hn (P : Par b n p q h L) (hn : 1 ≤ n) : h ≤ n := Nat.le_trans (head_le (P.q1 hn) P.hh) (P.qn hn)
theorem Par.gq (P : Par b n p q h L) (hn : 1 ≤ n) : Nat.gcd p q = 1 := by
  obtain ⟨g, q', k, e, d⟩ := P.hp
  have : q' = q := by
    have := P.e
    rw [e] at this
    exact Nat.eq_of_mul_eq_mul_left (P.p1 hn) this
  subst this
  exact cop_of_dvd_pow g d
/-- the end of a row of remainders -/
theorem ring_end {x i j : Nat} (P : Par b n p q h L) (hn : 1 ≤ n) (gx : Nat.gcd x n = 1) (hd : ∀ u v, u < v → v < i → rem b n x u ≠ rem b n x v) (hj : j < i) (e : rem b n x j = rem b n x i) : i = h + L ∧ j = h := by
  have F := fun {u v : Nat} (l : u < v) => rem_eq (x := x) gx P.e P.hp.1 (P.gq hn) P.hh P.hL l
  obtain ⟨h1, h2⟩ := (F hj).mp e
  have hL1 := P.hL.1
  have hle := Nat.le_of_dvd (by omega) h2
  have hi : i ≤ h + L := by
    apply Nat.le_of_not_lt
    intro l
    exact hd h (h + L) (by omega) l ((F (by omega)).mpr ⟨Nat.le_refl _, by rw [show h + L - h = L by omega]; exact Nat.dvd_refl _⟩)
  omega
end
end Wn
namespace Wn
open PySem PySem.Spec PyProof.Rows L2
theorem CallR.imp {X : Cx} {f : Value} {r r' : List V → Hp → VK → Prop} (h : CallR X f r) (i : ∀ vs H Q, r' vs H Q → r vs H Q) : CallR X f r' :=
  fun pins s σ H vs us Q I rv x => h pins s σ H vs us Q I rv (i _ _ _ x)
/-! the built-in type of a value -/
def isB (T n : String) : Bool := T == n || (T == "bool" && n == "int")
def tyNames : List String := ["NoneType", "bool", "int", "str", "list", "tuple", "dict"]
def qyNames : List String := ["bool", "int", "str", "list", "tuple", "dict"]
theorem isB_ok : ∀ T ∈ tyNames, ∀ n ∈ qyNames, kitB T n = some (isB T n) := by decide +kernel
def rIs (K : PySem.W.Frag) : List V → Hp → VK → Prop := fun xs H Q => ∃ (x : V) (n : String), xs = [x, .ty n] ∧ ∃ T : String, (TyX K H x (.type T) ∧ T ∈ tyNames ∧ n ∈ qyNames) ∧ Q (.bl (isB T n)) H
theorem call_is {X : Cx} : CallR X (.builtin "isinstance") (rIs X.K) := CallR.imp call_isi fun vs H Q h => by
  obtain ⟨x, n, e, T, ⟨h1, h2, h3⟩, q⟩ := h
  exact ⟨x, .ty n, .type T, .type n, isB T n, e, .ty n, h1, kit_ty (isB_ok T h2 n h3), q⟩
theorem ty_int {K : PySem.W.Frag} {H : Hp} {i : Int} : TyX K H (.int i) (.type "int") := .base (.int i)
theorem ty_tup {K : PySem.W.Frag} {H : Hp} {a : Addr} {xs : List V} (h : H a = some (.tup xs)) : TyX K H (.ref a) (.type "tuple") := .base (.tup h)
theorem cxK {CX : CXT} {P : Program} {w : World} {K : PySem.W.Frag} {mg : Str → Option Value} {base : Heap} {N : List Str} {q : Str} {sc : Scope} {f : Addr} {cdv : Value} {A : Around} {outer : List Env} {s : Shared} {H : Hp} {E : XK} :
    (cxOf CX P w K mg base N q sc f cdv A outer s H E).nox.K = K := rfl
theorem cxK2 {CX : CXT} {P : Program} {w : World} {K : PySem.W.Frag} {mg : Str → Option Value} {base : Heap} {N : List Str} {q : Str} {sc : Scope} {f : Addr} {cdv : Value} {A : Around} {outer : List Env} {s : Shared} {H : Hp} {E : XK} :
    (cxOf CX P w K mg base N q sc f cdv A outer s H E).K = K := rfl
theorem start1 (x : Str) (N : List Str) (v : V) (vs : List V) : L2.start (x :: N) (v :: vs) = some v :: L2.start N vs := by
  unfold L2.start
  simp
theorem start2 (x : Str) (N : List Str) : L2.start (x :: N) [] = none :: L2.start N [] := by
  unfold L2.start
  simp [List.replicate_succ]
theorem start3 : L2.start [] [] = [] := rfl
theorem sq_tup {K : PySem.W.Frag} {H : Hp} {a : Addr} {xs : List V} (h : H a = some (.tup xs)) : SqT K H a xs := .inl (.inl h)
theorem sq_lst {K : PySem.W.Frag} {H : Hp} {a : Addr} {xs : List V} (h : H a = some (.lst xs)) : SqL K H a xs := .inl (.inl h)
theorem slA_of {K : PySem.W.Frag} {H : Hp} {a : Addr} {xs : List V} {lo hi : Option Int} {Q : VK} (h : H a = some (.tup xs)) (q : ∀ p H', Gr [] H H' → H' p = some (.tup (cutV xs lo hi)) → Q (.ref p) H') : rSlA K (.ref a) lo hi H Q := by
  refine ⟨a, xs, rfl, sq_tup h, ?_, ?_⟩
  · intro e
    refine q a H (Gr.refl _ _) ?_
    have z : cutV xs lo hi = xs := by
      unfold cutV
      rw [e.1, e.2, List.drop_zero, Nat.sub_zero, List.take_length]
    rw [z]
    exact h
  · intro _ p np
    exact q p _ (Gr.new np) upd_same
def rLn (K : PySem.W.Frag) : List V → Hp → VK → Prop := fun xs H Q => ∃ p ys, xs = [.ref p] ∧ (SqL K H p ys ∨ SqT K H p ys) ∧ Q (.int ys.length) H
theorem call_ln {X : Cx} : CallR X (.builtin "len") (rLn X.K) := call_len_seq
def rLsO (K : PySem.W.Frag) : List V → Hp → VK → Prop := fun xs H Q => ∃ p ys, xs = [.ref p] ∧ (SqL K H p ys ∨ SqT K H p ys) ∧ ∀ l, H l = none → Q (.ref l) (upd H l (.lst ys))
theorem call_lsO {X : Cx} : CallR X (.type "list") (rLsO X.K) := call_list_of
def rTpO (K : PySem.W.Frag) : List V → Hp → VK → Prop := fun xs H Q => ∃ p ys, xs = [.ref p] ∧ ((SqL K H p ys ∧ ∀ l, H l = none → Q (.ref l) (upd H l (.tup ys))) ∨ (SqT K H p ys ∧ Q (.ref p) H))
theorem call_tpO {X : Cx} : CallR X (.type "tuple") (rTpO X.K) := call_tuple_of
theorem cut_lo {xs : List V} {k : Nat} (h : k ≤ xs.length) : cutV xs none (some (k : Int)) = xs.take k := by
  unfold cutV
  rw [HT.sIx_nat, HT.sIx_none, List.drop_zero, Nat.sub_zero, Nat.min_eq_left h]
theorem cut_hi {xs : List V} {k : Nat} (h : k ≤ xs.length) : cutV xs (some (k : Int)) none = xs.drop k := by
  unfold cutV
  rw [HT.sIx_nat, HT.sIx_none, Nat.min_eq_left h]
  exact List.take_of_length_le (by rw [List.length_drop]; omega)
theorem icm (a b n : Nat) : (a : Int) * (b : Int) % (n : Int) = ((a * b % n : Nat) : Int) := by
  rw [← Int.natCast_mul, ← Int.natCast_emod]
theorem icd (a b n : Nat) : (a : Int) * (b : Int) / (n : Int) = ((a * b / n : Nat) : Int) := by
  rw [← Int.natCast_mul, ← Int.natCast_ediv]
local macro_rules | `(tactic| walk_at "vc") => `(tactic| simp only [cxK, cxK2, start1, start2, start3, tRet, tRetN, tSeq, tNext, tIfS, tAsg, gName, tDrop, tVar, tC, tOp, tUn, tTest, tB, tNot, tAnd, tOr, tAndV, tOrV, tNotV, tIf, tCons, tNil, tCB, tCall, tChain, tAug, ipI, rI, rI0, rU, rIs, rGcd, rEq, rNe, scal,
  List.getElem?_cons_zero, List.getElem?_cons_succ, List.set_cons_zero, List.set_cons_succ, Option.some.injEq, List.cons.injEq, V.int.injEq, V.bl.injEq, V.ref.injEq, V.str.injEq, and_true, true_and, exists_eq_left, exists_eq_left', exists_and_left, exists_and_right, List.append_nil, List.nil_append, List.cons_append, exists_eq_right, exists_eq_right', and_assoc, exists_const, V.ty.injEq, ↓reduceIte, Bool.false_eq_true, Bool.not_true, Bool.not_false, decide_eq_true_eq])
end Wn
/-! contracts where nothing is being shown (no repr runs around): for defs that ask repr of lists, tuples, dicts -/
namespace Wn
open PySem PySem.Spec PyProof.Rows L2
structure FnG (P : Program) (w : World) (K : PySem.W.Frag) (mg : Str → Option Value) (base : Heap) (CX : CXT) (k : Nat) (f : Addr) (fd : FuncData) (ps : List Str) (sp : Sp) : Prop where
  sz : ∀ vs H Q E, sp vs H Q E → vs.length = ps.length
  go : ∀ (A : Around), A.guards = some [] → Room k A → ∀ (outer : List Env) (s : Shared) (H : Hp) (args : Args) (us : List Value) (vs : List V) (Q : VK) (E : XK),
    Env0 P w K mg base A outer s H → BindsTo s fd args (ps.zip us) → Vals vs us → sp vs H Q E → codeAny (model P w) A (.call (.ref f) args) (CR CX outer P w H s Q E) s
section
variable {P : Program} {w : World} {K : PySem.W.Frag} {mg : Str → Option Value} {base : Heap} {CX : CXT} {k : Nat} {f : Addr} {fd : FuncData} {ps : List Str} {sp : Sp}
theorem FnG.of (F : FnOk P w K mg base CX k f fd ps sp) : FnG P w K mg base CX k f fd ps sp :=
  ⟨F.len, fun A _ hr outer s H args us vs Q E e b v h => F.run A outer s H args us vs Q E hr e b v h⟩
theorem FnG.up {j : Nat} (F : FnG P w K mg base CX j f fd ps sp) (h : j ≤ k) : FnG P w K mg base CX k f fd ps sp :=
  ⟨F.sz, fun A hg hr => F.go A hg (hr.mono h)⟩
/-- a def by its body -/
theorem fnG {x qual : Str} {st : Stmt} {N : List Str} (F : Fun K x qual st f fd) (S : FnScope N ps (defScope st)) (sz : ∀ vs H Q E, sp vs H Q E → vs.length = ps.length)
    (body : ∀ (cdv : Value) (A : Around) (outer : List Env) (s : Shared) (H : Hp) (vs : List V) (Q : VK) (E : XK), (A.deeper (envOfC qual (defScope st) s.heap.objs.size f cdv)).guards = some [] →
      Room k (A.deeper (envOfC qual (defScope st) s.heap.objs.size f cdv)) → sp vs H Q E →
      ∃ t, PSs (cxOf CX P w K mg base N qual (defScope st) f cdv A outer s H E) (defBody st) t ∧ t { nx := fun _ H' => Q .non H', rt := Q } (L2.start N vs) H) : FnG P w K mg base CX (k + 1) f fd ps sp := by
  obtain ⟨oc, od, kV, doc, pm, an, cdv, ct, osl, rfl, lk, hcd⟩ := F.ex
  refine ⟨sz, fun A hgd hr outer s H args us vs Q E e0 hb r h => ?_⟩
  have KI : K.In s.heap := e0.mod.kin.keeps fun b o e => (e0.bs b o e).1
  have NL : s.heap.NoLimit := e0.mod.nolimit.keeps fun b o e => (e0.bs b o e).1
  refine codeAny_call_function hr.depth (KI _ _ lk) rfl S.co S.gen rfl (PySem.W.codeRec_of KI hcd) (hb _ _ _ _ ?_)
  refine wpAny_newFunctionEnv_cells S.kind (fun y hy => ?_) fun env he s1 x => ?_
  · obtain ⟨n, v⟩ := y
    rcases S.par n (List.of_mem_zip hy).1 with q | q
    · exact .inl q
    · exact .inr ⟨q, PySem.W.cellsFrom_some _ _ _ (.inl q)⟩
  · subst he
    refine ⟨NL.keeps x.toInCall.keep, codeAny_func ?_⟩
    obtain ⟨t, ht, hq⟩ := body cdv A outer s H vs Q E hgd (hr.deeper _) h
    refine wpAny_mono (ht.run [] s1 _ H _ (inv_start S hr.hd e0 (sz _ _ _ _ h) r x) hq) (fun fl s' z => ?_) fun e s' z => z
    cases fl with
    | ret u =>
      obtain ⟨v, σ', H', J, rv, q⟩ := z
      exact ⟨v, H', J.os, J.bare, J.base, J.hok, rv, q⟩
    | next =>
      obtain ⟨σ', H', J, q⟩ := z
      exact ⟨.non, H', J.os, J.bare, J.base, J.hok, rfl, q⟩
    | brk =>
      obtain ⟨_, _, _, q⟩ := z
      exact q.elim
    | cont =>
      obtain ⟨_, _, _, q⟩ := z
      exact q.elim
/-- no exception leaves it -/
theorem fnG0 {x qual : Str} {st : Stmt} {N : List Str} (F : Fun K x qual st f fd) (S : FnScope N ps (defScope st)) (sz : ∀ vs H Q E, sp vs H Q E → vs.length = ps.length)
    (body : ∀ (cdv : Value) (A : Around) (outer : List Env) (s : Shared) (H : Hp) (vs : List V) (Q : VK) (E : XK), (A.deeper (envOfC qual (defScope st) s.heap.objs.size f cdv)).guards = some [] →
      Room k (A.deeper (envOfC qual (defScope st) s.heap.objs.size f cdv)) → sp vs H Q E →
      ∃ t, PSs (cxOf CX0 P w K mg base N qual (defScope st) f cdv A outer s H E).nox (defBody st) t ∧ t { nx := fun _ H' => Q .non H', rt := Q } (L2.start N vs) H) : FnG P w K mg base CX0 (k + 1) f fd ps sp :=
  fnG F S sz fun cdv A outer s H vs Q E g r h => let ⟨t, ht, q⟩ := body cdv A outer s H vs Q E g r h; ⟨t, ht.nox, q⟩
end
section
variable {X : Cx} {CX : CXT} {k : Nat} {f : Addr} {fd : FuncData} {ps : List Str} {sp : Sp} {dvs : List V} {ds : List Value} {E : XK} {x : Str} {p pos : Pos} {e : Expr} {es : List Expr} {t : TA}
theorem runG {pins : List (Addr × Obj)} {σ : L2.St} {H : Hp} {s : Shared} {Q : VK} {us : List Value} {vs : List V} (F : FnG X.prog X.w X.K X.mg X.base CX k f fd ps sp) (hgd : X.A.guards = some []) (hr : Room k X.A) (hb : Binds X.K fd ps ds) (hd : Vals dvs ds)
    (hx : Passes CX X E) (I : Inv X pins σ H s) (r : Vals vs us) (h : sp (vs ++ dvs) H Q E) : wpAny (model X.prog X.w) X.A (call (.ref f) us) (EP X pins σ Q) X.xe s := by
  have rr := r.append hd
  refine wpAny_call (codeAny_mono (F.go X.A hgd hr X.stack s H ⟨us, []⟩ (us ++ ds) (vs ++ dvs) Q E I.env0 (hb s us I.kIn (rr.length ▸ F.sz _ _ _ _ h)) rr h) fun z s' q => ?_)
  match z, q with
  | .error e, q => exact hx pins σ H s e s' I q
  | .ok (.ret u), q => exact I.after q
  | .ok .next, q => exact q.elim
  | .ok .brk, q => exact q.elim
  | .ok .cont, q => exact q.elim
theorem pe_callG (hgd : X.A.guards = some []) (F : FnG X.prog X.w X.K X.mg X.base CX k f fd ps sp) (hr : Room k X.A) (hg : Gl X x) (hm : X.mg x = some (.ref f)) (hk : PySem.W.keepIn X.K (.ref f) = true) (hb : Binds X.K fd ps ds) (hd : Vals dvs ds) (hx : Passes CX X E)
    (ha : PA X (e :: es) t) (hdb : (x == ("__debug__" : Str)) = false := by decide) (he : starEach (e :: es) X.env = (false, eval e X.env) :: starEach es X.env := by rfl) (hpl : (backTo pos (starEach es X.env)).any (·.1) = false := by rfl) :
    PE X (.Call (.Name x p) (e :: es) [] pos) (tCall sp dvs E t) :=
  ⟨fun pins s σ H Q I h => wpAny_Call_Name_kw (ld_glob I hg hm (PySem.W.callWith_K (h₀ := X.base) I.ok.mod.kin hk (thn (ha.run pos pins s σ H _ I h) fun us s1 ⟨vs, H1, I1, r, q⟩ => ⟨I1.kIn, runG F hgd hr hb hd hx I1 r q⟩) he hpl) hdb)⟩
theorem pe_callG0 (hgd : X.A.guards = some []) (F : FnG X.prog X.w X.K X.mg X.base CX k f fd ps sp) (hr : Room k X.A) (hg : Gl X x) (hm : X.mg x = some (.ref f)) (hk : PySem.W.keepIn X.K (.ref f) = true) (hb : Binds X.K fd ps ds) (hd : Vals dvs ds) (hx : Passes CX X E)
    (hdb : (x == ("__debug__" : Str)) = false := by decide) : PE X (.Call (.Name x p) [] [] pos) (tCall sp dvs E tNil) :=
  ⟨fun pins s σ H Q I h => wpAny_Call_Name_kw (ld_glob I hg hm (PySem.W.callWith_K0 I.kIn hk (runG (us := []) F hgd hr hb hd hx I .nil h)) hdb)⟩
end
/-! the law's own head -/
theorem law_callG {P : Program} {w : World} {K : PySem.W.Frag} {mg mb : Str → Option Value} {CX : CXT} {k : Nat} {fa a : Addr} {fd : FuncData} {x : Str} {sp : Sp} {s1 : Shared} {vs : List Value} {ns : List Int}
    (KX : K.In s1.heap) (hns : s1.heap.Ns mainGlobals mg) (hb : s1.heap.Ns builtinsNs mb) (hbb : ∀ x : Str, x ≠ "__name__" → mb x = bootBuiltins x) (hlim : s1.heap.NoLimit) (hg : s1.gens = #[])
    (ha : s1.heap.get? a = some { cls := .type "list", data := .seq vs.toArray }) (hi : IntsAre vs ns) (hl : ns.length ≤ sizeLine) (hr : Room k callerA)
    (F : ∀ base : Heap, K.In base → base.Ns mainGlobals mg → FnG P w K mg base CX k fa fd [x] sp) (hbind : ∀ (s : Shared) (u : Value), BindsTo s fd ⟨[u], []⟩ [(x, u)])
    (hsp : ∀ H : Hp, Only H → SqL K H a (ns.map V.int) → sp [.ref a] H (fun v _ => v = .bl true) fun _ _ _ => False)
    (hCX : ∀ H e s', CX [] H s1 (fun _ _ _ => False) e s' → False) :
    codeAny (model P w) callerA (.call (.ref fa) ⟨[.ref a], []⟩) (fun r s' => r = .ok (.ret (.bool true)) ∧ OldK s1.heap s'.heap ∧ s'.os = s1.os ∧ AllBare s'.gens) s1 := by
  -- the script is tracked, unless it is one of the text's own objects
  obtain ⟨H, hH⟩ : ∃ H : Hp, H = fun b => if b = a ∧ K.lookup a = none then some (.frz { cls := .type "list", data := .seq vs.toArray } (.lst (ns.map V.int))) else none := ⟨_, rfl⟩
  have at_ : ∀ b u, H b = some u → b = a ∧ K.lookup a = none ∧ u = .frz { cls := .type "list", data := .seq vs.toArray } (.lst (ns.map V.int)) := fun b u z => by
    rw [hH] at z
    dsimp only at z
    split at z
    · rename_i c
      exact ⟨c.1, c.2, (Option.some.inj z).symm⟩
    · cases z
  have off : ∀ b o, s1.heap.get? b = some o → (∀ q, K.lookup b = some q → True) → (∀ n, o.data ≠ .seq vs.toArray n) → H b = none := fun b o e _ d => by
    cases z : H b with
    | none => rfl
    | some u =>
      obtain ⟨rfl, _, _⟩ := at_ b u z
      rw [ha] at e
      cases e
      exact absurd rfl (d _)
  have kb : ∀ b o, K.lookup b = some o → H b = none := fun b o e => by
    cases z : H b with
    | none => rfl
    | some u =>
      obtain ⟨rfl, z2, _⟩ := at_ b u z
      rw [z2] at e
      cases e
  have ok : HOk P w H s1.heap := fun b u z => by
    obtain ⟨rfl, _, rfl⟩ := at_ b u z
    exact ⟨ha, by rw [List.length_map]; exact hl, vs, _, vals_ints hi, ha⟩
  have sq : SqL K H a (ns.map V.int) := by
    cases z : K.lookup a with
    | none =>
      refine .inl (.inr ⟨{ cls := .type "list", data := .seq vs.toArray }, ?_⟩)
      rw [hH]
      exact if_pos ⟨rfl, z⟩
    | some o =>
      have e := KX a o z
      rw [ha] at e
      cases e
      exact .inr ⟨_, vs.toArray, _, z, rfl, rfl, rfl, by rw [List.size_toArray, hi.length]; exact hl, by simpa using vals_ints hi⟩
  have only : Only H := fun b => by
    cases z : H b with
    | none => exact .inl rfl
    | some u =>
      obtain ⟨_, _, rfl⟩ := at_ b u z
      exact .inr ⟨_, _, rfl⟩
  have nsB : ∀ {b : Addr} {m : Str → Option Value}, s1.heap.Ns b m → (hidT s1.heap H).Ns b m := fun {b m} ⟨o, es, ep, e, d, r⟩ => ⟨o, es, ep, hidT_get e (off b o e (fun _ _ => trivial) fun n z => by rw [d] at z; cases z), d, r⟩
  have KB : K.In (hidT s1.heap H) := fun b o e => hidT_get (KX b o e) (kb b o e)
  have M : Mod K mg (hidT s1.heap H) := ⟨KB, nsB hns, ⟨mb, nsB hb, hbb⟩, let ⟨mc, h1, h2⟩ := hlim; ⟨mc, nsB h1, h2⟩⟩
  have E0' : Env0 P w K mg (hidT s1.heap H) callerA [] s1 H := ⟨rfl, M, fun b o e => of_hidT e, Nat.le_of_eq (hidT_size _ _), trivial, fun b z => absurd (show b ∈ ([] : List Addr) from z) (by simp), ok, .of_eq hg⟩
  refine codeAny_mono ((F _ KB (nsB hns)).go callerA rfl hr [] s1 H ⟨[.ref a], []⟩ [.ref a] [.ref a] _ _ E0' (hbind s1 (.ref a)) (.cons rfl .nil) (hsp H only sq)) fun r s' z => ?_
  match r, z with
  | .error e, z => exact (hCX H e s' z).elim
  | .ok .next, z => exact z.elim
  | .ok .brk, z => exact z.elim
  | .ok .cont, z => exact z.elim
  | .ok (.ret u), z =>
    obtain ⟨v, H', os, bare, un, ok', rv, q⟩ := z
    obtain rfl : v = .bl true := q
    obtain rfl : u = Value.bool true := rv
    refine ⟨rfl, OldK.of_keep fun b o e => ?_, os, bare⟩
    cases y : H b with
    | none => exact un.keep b o e y (fun c => absurd (show b ∈ ([] : List Addr) from c) (by simp)) (by simp)
    | some u =>
      obtain ⟨rfl, _, rfl⟩ := at_ b u y
      rw [ha] at e
      cases e
      exact (ok' _ _ (un.frzs _ _ _ y)).1
theorem walkG {l : PySem.W.OpenLaw} {n k : Nat} {q : Program} {loose : List Str} {XP : (Str → Option Value) → Heap → Prop} {YP : World → Heap → Prop} {d : DefRec} {K : Params → PySem.W.Frag} {sp : World → Sp} {x : Str}
    (hn : l.most = some n) (hn2 : n ≤ sizeLine) (hdf : d.params.defaults = []) (hr : Room k callerA) (hY : ∀ (w : World) (h : Heap), YP w h → (K w.params).In h)
    (F : ∀ (w : World) (mg : Str → Option Value) (fa : Addr) (h : Heap), (K w.params).In h → h.Ns mainGlobals mg → mg d.name = some (.ref fa) →
      ∃ fd : FuncData, (∀ (s : Shared) (u : Value), BindsTo s fd ⟨[u], []⟩ [(x, u)]) ∧ ∀ base : Heap, (K w.params).In base → base.Ns mainGlobals mg → FnG l.prog w (K w.params) mg base CX0 k fa fd [x] (sp w))
    (hsp : ∀ (w : World) (H : Hp) (a : Addr) (ns : List Int), ns.length ≤ n → Only H → SqL (K w.params) H a (ns.map V.int) → sp w [.ref a] H (fun v _ => v = .bl true) fun _ _ _ => False) :
    PySem.W.WalkO q loose XP YP l.row.toRowW d [] (fun f vs => PySem.call f vs) :=
  Att.attach_call hn hdf fun w s0 s1 mg mb fa o pm cd doc a vs ns G Y ho hd hcd hmg hobj hints hlen hg => by
    obtain ⟨fd, hb, hF⟩ := F w mg fa _ (hY w _ Y) G.T.g hmg
    exact law_callG (hY w _ Y) G.T.g G.T.b G.T.builtins G.T.nolimit hg hobj hints (Nat.le_trans hlen hn2) hr hF hb (fun H hO hS => hsp w H a ns hlen hO hS) fun H e s' z => z
end Wn
/-! repr of data -/
namespace Wn
open PySem PySem.Spec PyProof.Rows L2
/-- data that repr takes: leaves of at most B signs, weight at most W, depth at most D -/
structure Sm (d : PyData) (B D W : Nat) : Prop where
  show_ : d.showable = true
  leaf : d.leavesShort B = true
  nod : d.hasDict = false
  lay : d.canLay0 = true
  dep : d.depth ≤ D
  wei : d.bulk ≤ W
theorem Sm.all : ∀ {xs : List PyData} {B D W : Nat}, (∀ x ∈ xs, Sm x B D W) → PyData.showableAll xs = true ∧ PyData.leavesShortAll B xs = true ∧ PyData.hasDictAll xs = false ∧ PyData.canLayAll0 xs = true ∧ PyData.depthAll xs ≤ D ∧ PyData.bulkAll xs ≤ xs.length * (W + 1)
  | [], _, _, _, _ => ⟨rfl, rfl, rfl, rfl, Nat.zero_le _, Nat.zero_le _⟩
  | x :: xs, B, D, W, h => by
    obtain ⟨h1, h2, h3, h6, h4, h5⟩ := Sm.all (xs := xs) fun y hy => h y (List.mem_cons_of_mem _ hy)
    have hx := h x (List.mem_cons_self ..)
    refine ⟨?_, ?_, ?_, ?_, ?_, ?_⟩
    · show (x.showable && PyData.showableAll xs) = true
      rw [hx.show_, h1]
      rfl
    · show (x.leavesShort B && PyData.leavesShortAll B xs) = true
      rw [hx.leaf, h2]
      rfl
    · show (x.hasDict || PyData.hasDictAll xs) = false
      rw [hx.nod, h3]
      rfl
    · show (x.canLay0 && PyData.canLayAll0 xs) = true
      rw [hx.lay, h6]
      rfl
    · show max x.depth (PyData.depthAll xs) ≤ D
      exact Nat.max_le.mpr ⟨hx.dep, h4⟩
    · show x.bulk + 1 + PyData.bulkAll xs ≤ (xs.length + 1) * (W + 1)
      rw [Nat.succ_mul]
      have := hx.wei
      omega
theorem Sm.lst {xs : List PyData} {B D W : Nat} (n : Nat) (h : ∀ x ∈ xs, Sm x B D W) (hn : xs.length ≤ n) : Sm (.list xs) B (D + 1) (n * (W + 1)) := by
  obtain ⟨h1, h2, h3, h6, h4, h5⟩ := Sm.all h
  exact ⟨h1, h2, h3, h6, Nat.succ_le_succ h4, Nat.le_trans h5 (Nat.mul_le_mul_right _ hn)⟩
theorem Sm.tup {xs : List PyData} {B D W : Nat} (n : Nat) (h : ∀ x ∈ xs, Sm x B D W) (hn : xs.length ≤ n) : Sm (.tuple xs) B (D + 1) (n * (W + 1)) := by
  obtain ⟨h1, h2, h3, h6, h4, h5⟩ := Sm.all h
  exact ⟨h1, h2, h3, h6, Nat.succ_le_succ h4, Nat.le_trans h5 (Nat.mul_le_mul_right _ hn)⟩
theorem Sm.mono {d : PyData} {B D W D' W' : Nat} (h : Sm d B D W) (h1 : D ≤ D') (h2 : W ≤ W') : Sm d B D' W' := ⟨h.show_, h.leaf, h.nod, h.lay, Nat.le_trans h.dep h1, Nat.le_trans h.wei h2⟩
theorem log2_lt {a k : Nat} (hk : 1 ≤ k) (h : a < 2 ^ k) : a.log2 < k := by
  rcases Nat.eq_zero_or_pos a with z | z
  · rw [z, Nat.log2_zero]
    exact hk
  · exact (Nat.log2_lt (by omega)).mpr h
/-- a whole number below 10 ^ 12 and below 2 ^ k -/
theorem Sm.int {i : Int} {k : Nat} (hk : 1 ≤ k) (h : i.natAbs < 2 ^ k) (hk2 : k ≤ 39) : Sm (.int i) 13 0 k := by
  have hl := log2_lt hk h
  have h12 : i.natAbs < 10 ^ 12 := Nat.lt_of_lt_of_le h (Nat.le_trans (Nat.pow_le_pow_right (by decide) hk2) (by decide))
  refine ⟨?_, ?_, rfl, rfl, Nat.le_refl _, ?_⟩
  · show decide (i.natAbs.log2 < 1920) = true
    exact decide_eq_true (by omega)
  · show decide ((PyData.shown (.int i)).length ≤ 13) = true
    exact decide_eq_true (PyData.shown_int_le h12)
  · show 0 ≤ k
    omega
def Fits (d : PyData) : Prop := ∃ B D W, Sm d B D W ∧ 8 ≤ B ∧ D ≤ 100 ∧ (B + 2) * W + B ≤ 16777216
theorem Fits.len {d : PyData} (h : Fits d) : d.shown.length ≤ sizeLine := by
  obtain ⟨B, D, W, s, h1, h2, h3⟩ := h
  have := PyData.shown_le_bulk B h1 d s.leaf
  rw [sizeLine_eq]
  have : (B + 2) * d.bulk ≤ (B + 2) * W := Nat.mul_le_mul_left _ s.wei
  omega
theorem Fits.shaped {d : PyData} (h : d.canLay0 = true) (h2 : d.depth ≤ 64) : SeqAt.shaped d = true := by
  unfold SeqAt.shaped
  rw [h, decide_eq_true h2]
  rfl
theorem Sm.fits {d : PyData} {D W : Nat} (h : Sm d 13 D W) (h1 : D ≤ 64 := by decide) (h2 : W ≤ 1100000 := by decide) : Fits d := ⟨13, D, W, h, by decide, by omega, by omega⟩
theorem Sm.fitsB {d : PyData} {B D W : Nat} (h : Sm d B D W) (h0 : 8 ≤ B := by decide) (h1 : D ≤ 64 := by decide) (h2 : (B + 2) * W + B ≤ 16777216 := by decide) : Fits d := ⟨B, D, W, h, h0, by omega, h2⟩
theorem Sm.shaped {d : PyData} {B D W : Nat} (h : Sm d B D W) (h1 : D ≤ 64 := by decide) : SeqAt.shaped d = true := Fits.shaped h.lay (Nat.le_trans h.dep h1)
/-! data stands while lists and tuples stand -/
def Kp (H H' : Hp) : Prop := (∀ a xs, H a = some (.lst xs) → H' a = some (.lst xs)) ∧ (∀ a xs, H a = some (.tup xs) → H' a = some (.tup xs)) ∧ ∀ a o u, H a = some (.frz o u) → H' a = some (.frz o u)
theorem Kp.of {H H' : Hp} (g : Gr [] H H') : Kp H H' := ⟨fun a _ e => g a _ (by simp) e, fun a _ e => g a _ (by simp) e, fun a _ _ e => g a _ (by simp) e⟩
theorem Kp.ofM {H H' : Hp} {d : Addr} (g : Gr [d] H H') (h : ∃ kvs, H d = some (.dK kvs)) : Kp H H' := by
  obtain ⟨kvs, h⟩ := h
  have ne : ∀ {a o}, H a = some o → (∀ k, o ≠ .dK k) → a ∉ [d] := fun {a o} e k z => by
    rw [List.mem_singleton] at z
    subst z
    rw [h] at e
    exact k _ (Option.some.inj e).symm
  exact ⟨fun a _ e => g a _ (ne e fun _ z => by cases z) e, fun a _ e => g a _ (ne e fun _ z => by cases z) e, fun a _ _ e => g a _ (ne e fun _ z => by cases z) e⟩
theorem Kp.trans {H H1 H2 : Hp} (a : Kp H H1) (b : Kp H1 H2) : Kp H H2 := ⟨fun x _ e => b.1 x _ (a.1 x _ e), fun x _ e => b.2.1 x _ (a.2.1 x _ e), fun x _ _ e => b.2.2 x _ _ (a.2.2 x _ _ e)⟩
theorem Kp.sqL {K : PySem.W.Frag} {H H' : Hp} {a : Addr} {xs : List V} (k : Kp H H') (h : SqL K H a xs) : SqL K H' a xs := by
  rcases h with (h | ⟨o, h⟩) | h
  · exact .inl (.inl (k.1 _ _ h))
  · exact .inl (.inr ⟨o, k.2.2 _ _ _ h⟩)
  · exact .inr h
theorem Kp.sqT {K : PySem.W.Frag} {H H' : Hp} {a : Addr} {xs : List V} (k : Kp H H') (h : SqT K H a xs) : SqT K H' a xs := by
  rcases h with (h | ⟨o, h⟩) | h
  · exact .inl (.inl (k.2.1 _ _ h))
  · exact .inl (.inr ⟨o, k.2.2 _ _ _ h⟩)
  · exact .inr h
mutual
theorem Dp.kp {K : PySem.W.Frag} {H H' : Hp} (k : Kp H H') : ∀ {v : V} {d : PyData}, Dp K H v d → Dp K H' v d
  | _, _, .non => .non
  | _, _, .bl b => .bl b
  | _, _, .int i => .int i
  | _, _, .str x => .str x
  | _, _, .lst h1 h2 => .lst (k.sqL h1) (DpAll.kp k h2)
  | _, _, .tup h1 h2 => .tup (k.sqT h1) (DpAll.kp k h2)
theorem DpAll.kp {K : PySem.W.Frag} {H H' : Hp} (k : Kp H H') : ∀ {vs : List V} {ds : List PyData}, DpAll K H vs ds → DpAll K H' vs ds
  | _, _, .nil => .nil
  | _, _, .cons h1 h2 => .cons (Dp.kp k h1) (DpAll.kp k h2)
end
theorem dpAll_ints {K : PySem.W.Frag} {H : Hp} : ∀ ns : List Int, DpAll K H (ns.map V.int) (ns.map PyData.int)
  | [] => .nil
  | n :: r => .cons (.int n) (dpAll_ints r)
theorem dp_lst {K : PySem.W.Frag} {H : Hp} {a : Addr} {xs : List V} {ds : List PyData} (h : H a = some (.lst xs)) (h2 : DpAll K H xs ds) : Dp K H (.ref a) (.list ds) := .lst (sq_lst h) h2
theorem dp_tup {K : PySem.W.Frag} {H : Hp} {a : Addr} {xs : List V} {ds : List PyData} (h : H a = some (.tup xs)) (h2 : DpAll K H xs ds) : Dp K H (.ref a) (.tuple ds) := .tup (sq_tup h) h2
def rRepr (K : PySem.W.Frag) : List V → Hp → VK → Prop := fun xs H Q => ∃ (x : V) (d : PyData), xs = [x] ∧ Dp K H x d ∧ Fits d ∧ Q (.str d.shown) H
theorem call_repr {X : Cx} (hg : X.A.guards = some []) (hu : X.A.units + 200 < cLine) : CallR X (.builtin "repr") (rRepr X.K) := by
  intro pins s σ H xs us Q I r h
  obtain ⟨x, d, rfl, hd, hf, q⟩ := h
  obtain ⟨u, rfl, rx⟩ := vals1 r
  have fin : ∀ tk' tk, EP X pins σ Q (.str d.shown tk) { s with toks := tk' } := fun tk' tk => ⟨.str _, H, I.tok _, ⟨_, rfl⟩, q⟩
  have hl := hf.len
  cases hd with
  | non =>
    obtain rfl : u = Value.none := rx
    exact PySem.P.repr_of_none (fin _ _)
  | bl b =>
    obtain rfl : u = Value.bool b := rx
    exact PySem.P.repr_of_bool (fin _ _)
  | int i =>
    obtain ⟨t, rfl⟩ := rx
    obtain ⟨B, D, W, sm, _⟩ := hf
    exact PySem.P.repr_of_int (of_decide_eq_true sm.show_) (fin _ _)
  | str y =>
    obtain ⟨t, rfl⟩ := rx
    exact PySem.P.repr_of_str (fin _ _) hl
  | lst h1 h2 =>
    rename_i a xs ds
    obtain rfl : u = Value.ref a := rx
    obtain ⟨as, rd⟩ := Dp.reads I (.list ds) (.ref a) (.ref a) (.lst h1 h2) rfl
    obtain ⟨B, D, W, sm, _, hD, _⟩ := hf
    have := sm.dep
    refine repr_of_reads' rd sm.show_ (fun z => absurd (sm.nod.symm.trans z) (by decide)) hg (by omega) (fun _ _ e => e) (fun h' u tk k => ⟨.str _, H, I.un (Un.kept k) (I.hok.kept k), ⟨_, rfl⟩, q⟩) hl
  | tup h1 h2 =>
    rename_i a xs ds
    obtain rfl : u = Value.ref a := rx
    obtain ⟨as, rd⟩ := Dp.reads I (.tuple ds) (.ref a) (.ref a) (.tup h1 h2) rfl
    obtain ⟨B, D, W, sm, _, hD, _⟩ := hf
    have := sm.dep
    refine repr_of_reads' rd sm.show_ (fun z => absurd (sm.nod.symm.trans z) (by decide)) hg (by omega) (fun _ _ e => e) (fun h' u tk k => ⟨.str _, H, I.un (Un.kept k) (I.hok.kept k), ⟨_, rfl⟩, q⟩) hl
theorem gu_of {A : Around} {k : Nat} (hr : Room k A) : A.units + 200 < cLine := by
  have := hr.un
  omega
end Wn
/-! expressions that give data and leave all as it was -/
namespace Wn
open PySem PySem.Spec PyProof.Rows L2
section
variable {K : PySem.W.Frag} {σ : L2.St} {H : Hp}
def EvD (K : PySem.W.Frag) (te : TE) (σ : L2.St) (H : Hp) (d : PyData) : Prop := ∀ H1, Gr [] H H1 → ∀ Q : VK, (∀ v H2, Gr [] H1 H2 → Dp K H2 v d → Q v H2) → te σ H1 Q
def EvS (K : PySem.W.Frag) (ta : TA) (σ : L2.St) (H : Hp) (ds : List PyData) : Prop := ∀ H1, Gr [] H H1 → ∀ Q : List V → Hp → Prop, (∀ vs H2, Gr [] H1 H2 → DpAll K H2 vs ds → Q vs H2) → ta σ H1 Q
/-- a list that stands as such -/
def EvL (K : PySem.W.Frag) (te : TE) (σ : L2.St) (H : Hp) (ds : List PyData) : Prop := ∀ H1, Gr [] H H1 → ∀ Q : VK, (∀ p xs H2, Gr [] H1 H2 → H2 p = some (.lst xs) → DpAll K H2 xs ds → Q (.ref p) H2) → te σ H1 Q
theorem EvD.on {te : TE} {d : PyData} {H' : Hp} (h : EvD K te σ H d) (g : Gr [] H H') : EvD K te σ H' d := fun H1 g1 Q q => h H1 (g.trans g1) Q q
theorem EvL.d {te : TE} {ds : List PyData} (h : EvL K te σ H ds) : EvD K te σ H (.list ds) := fun H1 g Q q => h H1 g Q fun p xs H2 g2 e a => q _ H2 g2 (dp_lst e a)
theorem ev_var {i : Nat} {v : V} {d : PyData} (e : σ[i]? = some (some v)) (h : Dp K H v d) : EvD K (tVar i) σ H d := fun H1 g Q q => ⟨v, e, q v H1 (Gr.refl _ _) (Dp.kp (Kp.of g) h)⟩
theorem ev_varL {i : Nat} {p : Addr} {xs : List V} {ds : List PyData} (e : σ[i]? = some (some (.ref p))) (h : H p = some (.lst xs)) (a : DpAll K H xs ds) : EvL K (tVar i) σ H ds :=
  fun H1 g Q q => ⟨_, e, q p xs H1 (Gr.refl _ _) (g _ _ (by simp) h) (DpAll.kp (Kp.of g) a)⟩
theorem ev_int {i : Int} : EvD K (tC (.int i)) σ H (.int i) := fun H1 _ Q q => q _ H1 (Gr.refl _ _) (.int i)
theorem ev_bl {i : Bool} : EvD K (tC (.bl i)) σ H (.bool i) := fun H1 _ Q q => q _ H1 (Gr.refl _ _) (.bl i)
theorem ev_str {i : Str} : EvD K (tC (.str i)) σ H (.str i) := fun H1 _ Q q => q _ H1 (Gr.refl _ _) (.str i)
theorem ev_non : EvD K (tC .non) σ H .none := fun H1 _ Q q => q _ H1 (Gr.refl _ _) .non
theorem es_nil : EvS K tNil σ H [] := fun H1 _ Q q => q _ H1 (Gr.refl _ _) .nil
theorem es_cons {te : TE} {ta : TA} {d : PyData} {ds : List PyData} (h : EvD K te σ H d) (r : EvS K ta σ H ds) : EvS K (tCons te ta) σ H (d :: ds) := fun H1 g Q q =>
  h H1 g _ fun v H2 g2 dv => r H2 (g.trans g2) _ fun vs H3 g3 dvs => q _ H3 (g2.trans g3) (.cons (Dp.kp (Kp.of g3) dv) dvs)
theorem dpAll_len {H : Hp} : ∀ {vs : List V} {ds : List PyData}, DpAll K H vs ds → vs.length = ds.length
  | _, _, .nil => rfl
  | _, _, .cons _ t => congrArg (· + 1) (dpAll_len t)
theorem ev_tup {ta : TA} {ds : List PyData} (h : EvS K ta σ H ds) (hz : ds.length ≤ 1000 := by exact Nat.le_of_ble_eq_true rfl) : EvD K (tTup ta) σ H (.tuple ds) := fun H1 g Q q =>
  h H1 g _ fun vs H2 g2 a => ⟨by rw [dpAll_len a]; exact Nat.le_of_lt (small1000 hz), fun p np => q _ _ (g2.trans (Gr.new np)) (dp_tup upd_same (DpAll.kp (Kp.of (Gr.new np)) a))⟩
theorem el_lst {ta : TA} {ds : List PyData} (h : EvS K ta σ H ds) (hz : ds.length ≤ 1000 := by exact Nat.le_of_ble_eq_true rfl) : EvL K (tLst ta) σ H ds := fun H1 g Q q =>
  h H1 g _ fun vs H2 g2 a => ⟨by rw [dpAll_len a]; exact Nat.le_of_lt (small1000 hz), fun p np => q _ _ _ (g2.trans (Gr.new np)) upd_same (DpAll.kp (Kp.of (Gr.new np)) a)⟩
theorem ev_lst {ta : TA} {ds : List PyData} (h : EvS K ta σ H ds) (hz : ds.length ≤ 1000 := by exact Nat.le_of_ble_eq_true rfl) : EvD K (tLst ta) σ H (.list ds) := (el_lst h hz).d
theorem dpAll_append {H : Hp} : ∀ {vs ws : List V} {ds es : List PyData}, DpAll K H vs ds → DpAll K H ws es → DpAll K H (vs ++ ws) (ds ++ es)
  | _, _, _, _, .nil, b => b
  | _, _, _, _, .cons h t, b => .cons h (dpAll_append t b)
theorem el_cat {ta tb : TE} {ds es : List PyData} (h1 : EvL K ta σ H ds) (h2 : EvL K tb σ H es) (hz : ds.length + es.length ≤ 1000 := by exact Nat.le_of_ble_eq_true rfl) : EvL K (tOp rCat ta tb) σ H (ds ++ es) := fun H1 g Q q =>
  h1 H1 g _ fun p xs H2 g2 e2 a2 => h2 H2 (g.trans g2) _ fun p3 ys H3 g3 e3 a3 => by
    have e2' := g3 _ _ (by simp) e2
    refine ⟨p, p3, xs, ys, rfl, rfl, e2', e3, by rw [dpAll_len a2, dpAll_len a3]; exact Nat.le_of_lt (small1000 hz), fun p4 np => ?_⟩
    exact q p4 _ _ ((g2.trans g3).trans (Gr.new np)) upd_same (dpAll_append (DpAll.kp (Kp.of (g3.trans (Gr.new np))) a2) (DpAll.kp (Kp.of (Gr.new np)) a3))
/-! two data compared -/
theorem ev_eq {ta tb : TE} {d e : PyData} (h1 : EvD K ta σ H d) (h2 : EvD K tb σ H e) (s1 : SeqAt.shaped d = true) (s2 : SeqAt.shaped e = true) : EvD K (tOp (rEqD K) ta tb) σ H (.bool (PyData.eqv d e)) := fun H1 g Q q =>
  h1 H1 g _ fun v H2 g2 a => h2 H2 (g.trans g2) _ fun w H3 g3 b => ⟨d, e, Dp.kp (Kp.of g3) a, b, s1, s2, q _ H3 (g2.trans g3) (.bl _)⟩
theorem ev_ne {ta tb : TE} {d e : PyData} (h1 : EvD K ta σ H d) (h2 : EvD K tb σ H e) (s1 : SeqAt.shaped d = true) (s2 : SeqAt.shaped e = true) : EvD K (tOp (rNeD K) ta tb) σ H (.bool (!PyData.eqv d e)) := fun H1 g Q q =>
  h1 H1 g _ fun v H2 g2 a => h2 H2 (g.trans g2) _ fun w H3 g3 b => ⟨d, e, Dp.kp (Kp.of g3) a, b, s1, s2, q _ H3 (g2.trans g3) (.bl _)⟩
theorem iteFb {b : Bool} {A B : Prop} (h : b = false) (x : B) : if b = true then A else B := by
  rw [h]
  exact iteF x
theorem iteTb {b : Bool} {A B : Prop} (h : b = true) (x : A) : if b = true then A else B := by
  rw [h]
  exact iteT x
/-! statements over them -/
theorem st_asgD {te : TE} {i : Nat} {d : PyData} {D : Ends} (h : EvD K te σ H d) (k : ∀ v H2, Gr [] H H2 → Dp K H2 v d → D.nx (σ.set i (some v)) H2) : tAsg te (gName i) D σ H := h H (Gr.refl _ _) _ k
theorem st_asgL {te : TE} {i : Nat} {ds : List PyData} {D : Ends} (h : EvL K te σ H ds) (k : ∀ p xs H2, Gr [] H H2 → H2 p = some (.lst xs) → DpAll K H2 xs ds → D.nx (σ.set i (some (.ref p))) H2) : tAsg te (gName i) D σ H := h H (Gr.refl _ _) _ k
theorem dp_bool {H : Hp} {v : V} {b : Bool} (h : Dp K H v (.bool b)) : v = .bl b := by cases h; rfl
theorem dp_int {H : Hp} {v : V} {b : Int} (h : Dp K H v (.int b)) : v = .int b := by cases h; rfl
theorem st_retB {te : TE} {b : Bool} {D : Ends} (h : EvD K te σ H (.bool b)) (k : ∀ H2, Gr [] H H2 → D.rt (.bl b) H2) : tRet te D σ H := h H (Gr.refl _ _) _ fun v H2 g e => by rw [dp_bool e]; exact k H2 g
/-- a test that is data -/
theorem tt_of {te : TE} {b : Bool} {H1 : Hp} {Q : Bool → Hp → Prop} (h : EvD K te σ H (.bool b)) (g : Gr [] H H1) (q : ∀ H2, Gr [] H1 H2 → Q b H2) : tTest te σ H1 Q := h H1 g _ fun v H2 g2 e => ⟨b, dp_bool e, q H2 g2⟩
theorem tb_of {te : TE} {b : Bool} {H1 : Hp} {Q : Bool → Hp → Prop} (h : EvD K te σ H (.bool b)) (g : Gr [] H H1) (q : ∀ H2, Gr [] H1 H2 → Q b H2) : tB te σ H1 Q := h H1 g _ fun v H2 g2 e => ⟨b, dp_bool e, q H2 g2⟩
theorem ev_andV {ta tb : TE} {a b : Bool} (h1 : EvD K ta σ H (.bool a)) (h2 : EvD K tb σ H (.bool b)) : EvD K (tAndV ta tb) σ H (.bool (a && b)) := fun H1 g Q q =>
  h1 H1 g _ fun v H2 g2 e => ⟨a, dp_bool e, by
    cases a with
    | true => exact iteT (h2 H2 (g.trans g2) _ fun w H3 g3 e3 => q w H3 (g2.trans g3) e3)
    | false => exact iteF (q _ H2 g2 (.bl false))⟩
end
end Wn
/-! sum of a tuple of whole numbers -/
namespace Wn
open PySem PySem.Spec PyProof.Rows L2
section
variable {prog : Program} {w : World} {A : Around} {E : Value → Shared → Prop} {s : Shared} {l : Addr} {its : List Value} {ns : List Int} {Q : Value → Shared → Prop}
theorem sum_tup0 {xs : Array (Int × Tok)} (hh : A.handled = none) (hl : s.heap.IsTuple l (intItems xs))
    (h : ∀ h' tk t', (∀ b o, s.heap.get? b = some o → h'.get? b = some o) → Q (.int (preSum (numAt xs) xs.size) t') { s with heap := h', toks := tk }) : wpAny (model prog w) A (call (.builtin "sum") [.ref l]) Q E s := by
  refine call_sum_walkG (wpAny_pyIter_tuple hl ?_)
  obtain ⟨o, ho, hc, n, hd⟩ := hl
  have lt : l < s.heap.objs.size := Heap.lt_size ho
  have kp : ∀ b u, s.heap.get? b = some u → (s.heap.push { cls := .type "tuple_iterator", data := .fields #[.ref l, .int 0 0] }).get? b = some u := fun b u e => Heap.get?_push_of_some _ e
  refine ⟨s.heap.objs.size, _, _, _, _, _, numAt xs, rfl, Walks.tuple (A := A.in1) hh s.heap.objs.size l (Nat.ne_of_lt lt) (intItems xs), ⟨⟨_, Heap.get?_push_size _ rfl, rfl, rfl⟩, ⟨o, kp _ _ ho, hc, n, hd⟩⟩, fun b hb => ?_, fun _ _ => intItems_at, fun h' tk t' hk => ?_⟩
  · have hz : (s.heap.push { cls := .type "tuple_iterator", data := .fields #[.ref l, .int 0 0] }).objs.size = s.heap.objs.size + 1 := by simp [Heap.push]
    simp only [List.mem_cons, List.not_mem_nil, or_false] at hb
    show b < (s.heap.push _).objs.size
    rw [hz]
    rcases hb with rfl | rfl
    · exact Nat.lt_succ_self _
    · exact Nat.lt_succ_of_lt lt
  · have := h h' tk t' (fun b u e => hk b u (by
      rw [List.mem_singleton]
      exact Nat.ne_of_lt (Heap.lt_size e)) (kp b u e))
    simpa [intItems] using this
theorem sum_tup (hh : A.handled = none) (hl : s.heap.IsTuple l its.toArray) (hi : IntsAre its ns)
    (h : ∀ h' tk t', (∀ b o, s.heap.get? b = some o → h'.get? b = some o) → Q (.int ns.sum t') { s with heap := h', toks := tk }) : wpAny (model prog w) A (call (.builtin "sum") [.ref l]) Q E s := by
  obtain ⟨xs, e⟩ := hi.allInts.items
  have hn : numsOf (intItems xs).toList = ns := by
    rw [← e]
    exact hi.numsOf
  rw [nums_intItems] at hn
  rw [e] at hl
  refine sum_tup0 hh hl fun h' tk t' hk => ?_
  have := h h' tk t' hk
  rw [preSum_eq, List.take_of_length_le (by simp), hn]
  exact this
end
def rSumT (K : PySem.W.Frag) : List V → Hp → VK → Prop := fun vs H Q => ∃ (a : Addr) (ns : List Int), vs = [V.ref a] ∧ SqT K H a (ns.map V.int) ∧ Q (.int ns.sum) H
theorem cr_sumT {X : Cx} (hc : X.calm = true) : CallR X (.builtin "sum") (rSumT X.K) := by
  intro pins s σ H vs us Q I r h
  obtain ⟨a, ns, rfl, hs, q⟩ := h
  obtain ⟨its, rv, hl, _⟩ := I.tuple hs
  rw [Vals.ref1 r]
  exact sum_tup (I.ok.hd hc) hl rv.ints fun h' tk t' hk => ⟨.int _, H, I.kept hk, ⟨_, rfl⟩, q⟩
end Wn
/-! a list with a step: xs[::k] -/
namespace Wn
open PySem PySem.Spec PyProof.Rows L2
def stepV (xs : List V) (k : Nat) : List V := (List.range ((xs.length + k - 1) / k)).filterMap fun i => xs[k * i]?
theorem vals_picks {xs : List V} {us : List Value} (r : Vals xs us) (f : Nat → Nat) : ∀ js : List Nat, Vals (js.filterMap fun i => xs[f i]?) (js.filterMap fun i => us[f i]?)
  | [] => .nil
  | j :: js => by
    have ih := vals_picks r f js
    cases e : xs[f j]? with
    | none =>
      have e2 := r.none_of e
      rw [List.filterMap_cons, List.filterMap_cons, e, e2]
      exact ih
    | some x =>
      obtain ⟨u, e2, h⟩ := r.get e
      rw [List.filterMap_cons, List.filterMap_cons, e, e2]
      exact .cons h ih
theorem pick_step (us : List Value) {k : Nat} (hk : 1 ≤ k) : slicePick us.toArray none none (some (k : Int)) = ((List.range ((us.length + k - 1) / k)).filterMap fun i => us[k * i]?).toArray := by
  have e : sliceBounds none none (some (k : Int)) us.toArray.size = ((0 : Int), (us.length : Int), (k : Int)) := by
    have h : (k : Int) > 0 := by omega
    simp only [sliceBounds, Option.getD_some, h, if_true, List.size_toArray]
  unfold slicePick
  rw [e]
  show (List.filterMap (fun i => us.toArray[i]?) (sliceRange 0 (us.length : Int) (k : Int))).toArray = _
  congr 1
  have e2 : sliceRange 0 (us.length : Int) (k : Int) = (List.range ((us.length + k - 1) / k)).map fun i => k * i := by
    unfold sliceRange
    have h : (k : Int) > 0 := by omega
    rw [if_pos h]
    have c : (if (0 : Int) < (us.length : Int) then ((us.length : Int) - 0 + k - 1) / k else 0).toNat = (us.length + k - 1) / k := by
      by_cases z : (0 : Int) < (us.length : Int)
      · rw [if_pos z, show ((us.length : Int) - 0 + k - 1) = ((us.length + k - 1 : Nat) : Int) by omega, ← Int.natCast_ediv]
        rfl
      · rw [if_neg z]
        have : us.length = 0 := by omega
        rw [this, Nat.zero_add, Nat.div_eq_of_lt (by omega)]
        rfl
    dsimp only
    rw [c]
    apply List.map_congr_left
    intro i _
    rw [Int.zero_add, ← Int.natCast_mul]
    rfl
  rw [e2, List.filterMap_map]
  congr 1
  funext i
  simp
theorem stepV_len (xs : List V) (k : Nat) (hk : 1 ≤ k) : (stepV xs k).length ≤ xs.length := by
  unfold stepV
  refine Nat.le_trans (List.length_filterMap_le _ _) ?_
  rw [List.length_range]
  rcases Nat.eq_zero_or_pos xs.length with z | z
  · rw [z, Nat.zero_add, Nat.div_eq_of_lt (by omega)]
    exact Nat.le_refl _
  · refine Nat.lt_succ_iff.mp ((Nat.div_lt_iff_lt_mul (by omega)).mpr ?_)
    have : xs.length * 1 ≤ xs.length * k := Nat.mul_le_mul_left _ hk
    rw [Nat.succ_mul]
    omega
def rStL (K : PySem.W.Frag) : V → V → Hp → VK → Prop := fun x y H Q => ∃ (a : Addr) (xs : List V) (k : Nat), x = .ref a ∧ y = .int k ∧ 1 ≤ k ∧ SqL K H a xs ∧ ∀ p, H p = none → Q (.ref p) (upd H p (.lst (stepV xs k)))
def tStL (r : R2) (te ts : TE) : TE := fun σ H Q => te σ H fun x H1 => ts σ H1 fun y H2 => r x y H2 Q
variable {X : Cx} {e st : Expr} {te ts : TE} {pos p2 : Pos}
theorem pe_stepL {r : R2} (he : PE X e te) (hs : PE X st ts) (hr : r = rStL X.K := by rfl) : PE X (.Subscript e (.Slice none none (some st) p2) pos) (tStL r te ts) := by
  subst hr
  refine ⟨fun pins s σ H Q I h => ?_⟩
  refine Subscript_ (thn (he.run pins s σ H _ I h) fun v s1 ⟨x, H1, I1, r1, q1⟩ => ?_)
  refine wpAny_Slice ?_
  rw [evalPart_none]
  refine wpAny_pure (wpAny_pure ?_)
  rw [evalPart_some]
  refine thn (hs.run pins s1 σ H1 _ I1 q1) fun vs s3 ⟨y, H3, I3, ry, q3⟩ => ?_
  obtain ⟨a, xs, k, rfl, rfl, hk, hx, q⟩ := q3
  cases r1
  obtain ⟨t, rfl⟩ := ry
  have I4 : Inv X pins σ H3 { s3 with heap := s3.heap.push { cls := .type "slice", data := .fields #[.none, .none, .int k t] } } := I3.kept (t' := s3.toks) fun b ob q => Heap.get?_push_of_some _ q
  obtain ⟨its, r, ht, hz⟩ := I4.list hx
  have hlen := r.length
  have hg : wpAny (model X.prog X.w) X.A (getItem (.ref a) (.ref s3.heap.objs.size)) (EP X pins σ Q) X.xe { s3 with heap := s3.heap.push { cls := .type "slice", data := .fields #[.none, .none, .int k t] } } := by
    refine wpAny_getItem_list_slice (st := some (k : Int)) ht.isList (Heap.IsSliceOf.new ..) .none .none (.int _ _) (by intro z; have := Option.some.inj z; omega) ?_ (by rw [List.size_toArray] <;> omega)
    rw [pick_step its hk, ← hlen]
    refine ⟨.ref _, _, I4.laid (t' := s3.toks) (o := .lst (stepV xs k)) (fun b ob q => Heap.get?_push_of_some _ q) (Nat.le_refl _) ?_, rfl, q _ (I4.hok.fresh (Nat.le_refl _))⟩
    exact ⟨Nat.le_trans (stepV_len xs k hk) hz, _, 0, vals_picks r _ _, Heap.get?_push_size _ rfl⟩
  show wpAny (model X.prog X.w) X.A (subscriptTail e (.Slice none none (some st) p2) (.ref a) (.ref s3.heap.objs.size)) (EP X pins σ Q) X.xe { s3 with heap := s3.heap.push { cls := .type "slice", data := .fields #[.none, .none, .int k t] } }
  exact tail_any (ops := [.ref a, .ref s3.heap.objs.size]) ht.isList.typeIs slot_list_getitem.lookup hg (by with_unfolding_all rfl)
end Wn
/-! sums of powers, and which cuts balance -/
namespace Wn
open PySem PySem.Spec PyProof.Rows L2
def geo (g : Nat) : Nat → Nat
  | 0 => 0
  | c + 1 => geo g c + g ^ c
theorem geo_add (g a : Nat) : ∀ d, geo g (a + d) = geo g a + g ^ a * geo g d
  | 0 => by simp [geo]
  | d + 1 => by
    rw [← Nat.add_assoc]
    show geo g (a + d) + g ^ (a + d) = geo g a + g ^ a * (geo g d + g ^ d)
    rw [geo_add g a d, Nat.mul_add, Nat.pow_add, Nat.add_assoc]
theorem geo_mul (g m : Nat) : ∀ c, geo g (m * c) = geo g m * geo (g ^ m) c
  | 0 => by simp [geo]
  | c + 1 => by
    show geo g (m * c + m) = geo g m * (geo (g ^ m) c + (g ^ m) ^ c)
    rw [geo_add, geo_mul g m c, Nat.mul_add, ← Nat.pow_mul, Nat.mul_comm (g ^ (m * c))]
theorem geo_tel (g : Nat) : ∀ c, geo g c * g + 1 = geo g c + g ^ c
  | 0 => by simp [geo]
  | c + 1 => by
    show (geo g c + g ^ c) * g + 1 = geo g c + g ^ c + g ^ (c + 1)
    rw [Nat.add_mul, Nat.pow_succ]
    have := geo_tel g c
    omega
def restSum (b n x s c : Nat) : Nat := ((List.range c).map fun i => rem b n x (s * i)).sum
theorem restSum_succ (b n x s c : Nat) : restSum b n x s (c + 1) = restSum b n x s c + rem b n x (s * c) := by
  unfold restSum
  rw [List.range_succ, List.map_append, List.sum_append]
  simp
theorem restSum_mod (b n x s : Nat) : ∀ c, restSum b n x s c % n = x * geo (b ^ s) c % n
  | 0 => by simp [restSum, geo]
  | c + 1 => by
    rw [restSum_succ, Nat.add_mod, restSum_mod b n x s c]
    show (_ + rem b n x (s * c) % n) % n = x * (geo (b ^ s) c + (b ^ s) ^ c) % n
    rw [Nat.mul_add, Nat.add_mod (x * _)]
    unfold rem
    rw [Nat.mod_mod, Nat.pow_mul]
def bal (b n s c : Nat) : Bool := decide (restSum b n 1 s c % n = 0)
theorem bal_iff {b n s c : Nat} : bal b n s c = true ↔ n ∣ geo (b ^ s) c := by
  unfold bal
  rw [decide_eq_true_eq, restSum_mod, Nat.one_mul]
  exact (Nat.dvd_iff_mod_eq_zero ..).symm
theorem bal_mul {b n s c m : Nat} (h : bal b n (m * s) c = true) : bal b n s (m * c) = true := by
  rw [bal_iff] at h ⊢
  rw [geo_mul, ← Nat.pow_mul, Nat.mul_comm s m]
  exact Nat.dvd_trans h (Nat.dvd_mul_left _ _)
theorem bal_prime {b n s c L : Nat} (hb : 1 ≤ b) (hn : 2 ≤ n) (hp : ∀ k, 2 ≤ k → k < n → ¬ n % k = 0) (hL : IsPer b n L) (hc : 2 ≤ c) (hs : 1 ≤ s) (e : L = s * c) : bal b n s c = true := by
  rw [bal_iff]
  have hsL : s < L := by
    rw [e]
    have : s * 2 ≤ s * c := Nat.mul_le_mul_left _ hc
    omega
  have g1 : 1 ≤ b ^ s := Nat.one_le_pow _ _ hb
  have h1 : (b ^ s) ^ c % n = 1 % n := by
    rw [← Nat.pow_mul, ← e]
    exact hL.2.1
  have h2 : ¬ n ∣ b ^ s - 1 := fun z => hL.2.2 s hs hsL ((mod_iff g1).mpr z).symm
  have t := geo_tel (b ^ s) c
  have t2 : geo (b ^ s) c * (b ^ s - 1) = (b ^ s) ^ c - 1 := by
    rw [Nat.mul_sub, Nat.mul_one]
    omega
  have h3 : n ∣ geo (b ^ s) c * (b ^ s - 1) := by
    rw [t2]
    exact (mod_iff (Nat.one_le_pow _ _ g1)).mp h1.symm
  have hd : Nat.gcd n (b ^ s - 1) ∣ n := Nat.gcd_dvd_left _ _
  have hdn := Nat.le_of_dvd (by omega) hd
  have hd0 : 1 ≤ Nat.gcd n (b ^ s - 1) := Nat.gcd_pos_of_pos_left _ (by omega)
  have hd1 : Nat.gcd n (b ^ s - 1) = 1 := by
    rcases Nat.lt_or_eq_of_le hdn with z | z
    · rcases Nat.lt_or_eq_of_le hd0 with y | y
      · exact absurd (Nat.mod_eq_zero_of_dvd hd) (hp _ y z)
      · exact y.symm
    · exact absurd (z ▸ Nat.gcd_dvd_right n (b ^ s - 1)) h2
  exact Nat.Coprime.dvd_of_dvd_mul_right hd1 h3
/-! which cuts -/
def from2 (k : Nat) : List Nat := (List.range k).map (2 + ·)
theorem from2_succ (k : Nat) : from2 (k + 1) = from2 k ++ [2 + k] := by
  unfold from2
  rw [List.range_succ, List.map_append]
  rfl
theorem mem_from2 {k c : Nat} : c ∈ from2 k ↔ 2 ≤ c ∧ c < 2 + k := by
  unfold from2
  rw [List.mem_map]
  constructor
  · rintro ⟨i, hi, rfl⟩
    rw [List.mem_range] at hi
    omega
  · rintro ⟨h1, h2⟩
    exact ⟨c - 2, List.mem_range.mpr (by omega), by omega⟩
def splitsL (L : Nat) : List Nat := (from2 (L - 1)).filter fun c => decide (L % c = 0)
theorem mem_splits {L c : Nat} (hL : 1 ≤ L) : c ∈ splitsL L ↔ 2 ≤ c ∧ c ∣ L := by
  unfold splitsL
  rw [List.mem_filter, mem_from2, decide_eq_true_eq]
  constructor
  · rintro ⟨⟨h1, h2⟩, h3⟩
    exact ⟨h1, Nat.dvd_of_mod_eq_zero h3⟩
  · rintro ⟨h1, h2⟩
    have := Nat.le_of_dvd hL h2
    exact ⟨⟨h1, by omega⟩, Nat.mod_eq_zero_of_dvd h2⟩
def dueL (b n L : Nat) : List Nat := (splitsL L).filter fun c => bal b n (L / c) c
def below (xs : List Nat) (c : Nat) : List Nat := xs.filter fun k => decide (k < c) && decide (c % k = 0)
def isLeast (xs : List Nat) (c : Nat) : Bool := (below xs c).isEmpty
def leastL (xs : List Nat) : List Nat := xs.filter (isLeast xs)
theorem asc_splits (L : Nat) : (splitsL L).Pairwise (· < ·) := by
  unfold splitsL from2
  refine List.Pairwise.filter _ ?_
  rw [List.pairwise_map]
  exact List.Pairwise.imp (fun h => by omega) List.pairwise_lt_range
theorem asc_due (b n L : Nat) : (dueL b n L).Pairwise (· < ·) := (asc_splits L).filter _
theorem isLeast_iff {xs : List Nat} {c : Nat} : isLeast xs c = true ↔ ∀ k ∈ xs, k < c → ¬ c % k = 0 := by
  unfold isLeast below
  rw [List.isEmpty_iff, List.filter_eq_nil_iff]
  constructor
  · intro h k hk hc hm
    exact h k hk (by rw [decide_eq_true hc, decide_eq_true hm]; rfl)
  · intro h k hk hm
    rw [Bool.and_eq_true, decide_eq_true_eq, decide_eq_true_eq] at hm
    exact h k hk hm.1 hm.2
theorem least_under {xs : List Nat} (h2 : ∀ k ∈ xs, 1 ≤ k) : ∀ (m k : Nat), k ≤ m → k ∈ xs → ∃ k0 ∈ xs, k0 ∣ k ∧ isLeast xs k0 = true
  | 0, k, hm, hk => absurd (h2 k hk) (by omega)
  | m + 1, k, hm, hk => by
    by_cases h : isLeast xs k = true
    · exact ⟨k, hk, Nat.dvd_refl k, h⟩
    · rw [isLeast_iff] at h
      have : ∃ j, j ∈ xs ∧ j < k ∧ k % j = 0 := by
        apply Classical.byContradiction
        intro z
        exact h fun j hj hl hm' => z ⟨j, hj, hl, hm'⟩
      obtain ⟨j, hj, hl, hm'⟩ := this
      obtain ⟨k0, h0, hd, hs⟩ := least_under h2 m j (by omega) hj
      exact ⟨k0, h0, Nat.dvd_trans hd (Nat.dvd_of_mod_eq_zero hm'), hs⟩
/-- the look at the least ones found so far -/
theorem least_step {xs : List Nat} (h2 : ∀ k ∈ xs, 1 ≤ k) (asc : xs.Pairwise (· < ·)) {i : Nat} (hi : i < xs.length) :
    (((xs.take i).filter (isLeast xs)).map fun k => !decide (xs[i] % k = 0)).all id = isLeast xs xs[i] := by
  rw [Bool.eq_iff_iff, List.all_map, List.all_eq_true, isLeast_iff]
  have lt : ∀ k ∈ xs.take i, k < xs[i] := fun k hk => by
    obtain ⟨j, hj, rfl⟩ := List.mem_iff_getElem.mp hk
    rw [List.length_take] at hj
    rw [List.getElem_take]
    exact List.pairwise_iff_getElem.mp asc j i (by omega) hi (by omega)
  have back : ∀ k ∈ xs, k < xs[i] → k ∈ xs.take i := fun k hk hl => by
    obtain ⟨j, hj, rfl⟩ := List.mem_iff_getElem.mp hk
    rw [List.mem_iff_getElem]
    have hji : j < i := by
      rcases Nat.lt_trichotomy j i with z | z | z
      · exact z
      · subst z
        omega
      · have := List.pairwise_iff_getElem.mp asc i j hi hj z
        omega
    exact ⟨j, by rw [List.length_take]; omega, by rw [List.getElem_take]⟩
  constructor
  · intro h k hk hl hm
    obtain ⟨k0, h0, hd, hs⟩ := least_under h2 k k (Nat.le_refl _) hk
    have hk0 : k0 < xs[i] := Nat.lt_of_le_of_lt (Nat.le_of_dvd (h2 k hk) hd) hl
    have := h k0 (List.mem_filter.mpr ⟨back k0 h0 hk0, hs⟩)
    rw [Function.comp_apply, id_eq, Bool.not_eq_true', decide_eq_false_iff_not] at this
    exact this (Nat.mod_eq_zero_of_dvd (Nat.dvd_trans hd (Nat.dvd_of_mod_eq_zero hm)))
  · intro h k hk
    obtain ⟨hk1, hk2⟩ := List.mem_filter.mp hk
    rw [Function.comp_apply, id_eq, Bool.not_eq_true', decide_eq_false_iff_not]
    exact h k (List.mem_of_mem_take hk1) (lt k hk1)
theorem due_mul {b n L c k : Nat} (hL : 1 ≤ L) (hc : c ∈ dueL b n L) (hk : k ∈ splitsL L) (hd : k % c = 0) : k ∈ dueL b n L := by
  obtain ⟨hc1, hc2⟩ := List.mem_filter.mp hc
  refine List.mem_filter.mpr ⟨hk, ?_⟩
  obtain ⟨k1, k2⟩ := (mem_splits hL).mp hk
  obtain ⟨c1, c2⟩ := (mem_splits hL).mp hc1
  obtain ⟨m, rfl⟩ := Nat.dvd_of_mod_eq_zero hd
  obtain ⟨s, rfl⟩ := k2
  have hm : 1 ≤ m := by
    rcases Nat.eq_zero_or_pos m with z | z
    · subst z
      omega
    · exact z
  have e1 : c * m * s / c = m * s := by
    rw [Nat.mul_assoc]
    exact Nat.mul_div_cancel_left _ (by omega)
  have e2 : c * m * s / (c * m) = s := Nat.mul_div_cancel_left _ (by omega)
  rw [e1] at hc2
  rw [e2, Nat.mul_comm c m]
  exact bal_mul hc2
theorem due_prime {b n L : Nat} (hb : 1 ≤ b) (hn : 2 ≤ n) (hp : ∀ k, 2 ≤ k → k < n → ¬ n % k = 0) (hL : IsPer b n L) : dueL b n L = splitsL L := by
  unfold dueL
  rw [List.filter_eq_self]
  intro c hc
  obtain ⟨h1, s, e⟩ := (mem_splits hL.1).mp hc
  have hs : 1 ≤ s := by
    rcases Nat.eq_zero_or_pos s with z | z
    · rw [z, Nat.mul_zero] at e
      have := hL.1
      omega
    · exact z
  have : L / c = s := by
    rw [e]
    exact Nat.mul_div_cancel_left _ (by omega)
  rw [this]
  exact bal_prime hb hn hp hL h1 hs (by rw [e, Nat.mul_comm])
/-! lists of whole numbers from 0 on -/
def vn (xs : List Nat) : List V := xs.map fun k => V.int (k : Nat)
def ni (xs : List Nat) : List Int := xs.map fun k => ((k : Nat) : Int)
theorem vn_ni (xs : List Nat) : vn xs = (ni xs).map V.int := by
  unfold vn ni
  rw [List.map_map]
  rfl
theorem vn_len (xs : List Nat) : (vn xs).length = xs.length := by simp [vn]
theorem vn_snoc (xs : List Nat) (k : Nat) : vn xs ++ [V.int (k : Nat)] = vn (xs ++ [k]) := by simp [vn]
theorem vn_get {xs : List Nat} {i : Nat} {y : V} (h : (vn xs)[i]? = some y) : ∃ hi : i < xs.length, y = V.int (xs[i] : Nat) := by
  unfold vn at h
  rw [List.getElem?_map] at h
  cases e : xs[i]? with
  | none =>
    rw [e] at h
    cases h
  | some n =>
    rw [e] at h
    obtain ⟨hi, e2⟩ := List.getElem?_eq_some_iff.mp e
    subst e2
    exact ⟨hi, (Option.some.inj h).symm⟩
theorem ni_sum : ∀ xs : List Nat, (ni xs).sum = ((xs.sum : Nat) : Int)
  | [] => rfl
  | x :: r => by
    show (x : Int) + (ni r).sum = ((x + r.sum : Nat) : Int)
    rw [ni_sum r]
    omega
theorem filt_yes {xs : List Nat} {g : Nat → Bool} {i : Nat} (hi : i < xs.length) (h : g xs[i] = true) : (xs.take (i + 1)).filter g = (xs.take i).filter g ++ [xs[i]] := by
  rw [List.take_succ_eq_append_getElem hi, List.filter_append, List.filter_cons, if_pos h]
  rfl
theorem filt_no {xs : List Nat} {g : Nat → Bool} {i : Nat} (hi : i < xs.length) (h : g xs[i] = false) : (xs.take (i + 1)).filter g = (xs.take i).filter g := by
  rw [List.take_succ_eq_append_getElem hi, List.filter_append, List.filter_cons, if_neg (by rw [h]; decide)]
  simp
theorem from2_len (k : Nat) : (from2 k).length = k := by simp [from2]
theorem from2_get {k i : Nat} (h : i < k) : (from2 k)[i]'(by rw [from2_len]; exact h) = 2 + i := by simp [from2]
theorem eqv_niL (ys : List Nat) : PyData.eqv (.list ((ni ys).map PyData.int)) (.list []) = ys.isEmpty := by
  cases ys with
  | nil => rfl
  | cons y r => rfl
theorem inV_ni (k : Nat) : ∀ xs : List Nat, inV (.int (k : Nat)) (vn xs) = decide (k ∈ xs) := by
  intro xs
  induction xs with
  | nil => rfl
  | cons y r ih =>
    show ((((y : Nat) : Int) == ((k : Nat) : Int)) || inV (.int (k : Nat)) (vn r)) = _
    rw [ih, Bool.eq_iff_iff, Bool.or_eq_true, beq_iff_eq, decide_eq_true_eq, decide_eq_true_eq, List.mem_cons]
    constructor
    · rintro (h | h)
      · exact .inl (by omega)
      · exact .inr h
    · rintro (h | h)
      · exact .inl (by omega)
      · exact .inr h
theorem flat_ni : ∀ xs : List Nat, (vn xs).all flatV = true
  | [] => rfl
  | _ :: r => flat_ni r
theorem blkOk_of {N N0 : List Str} {sc sc0 scope : Scope} {own : List (Str × Nat)} (hN : N = N0) (hs : sc = sc0) (h : blkC N0 sc0 scope own = true) : BlkOk N sc scope own := by
  subst hN hs
  exact blkOk_by h
end Wn
/-! values of digits, and the sum of the pieces -/
namespace Wn
open PySem PySem.Spec PyProof.Rows L2
def wrt (b : Nat) (ds : List Nat) : Nat := ds.foldl (fun f d => f * b + d) 0
theorem wrt_snoc (b : Nat) (ds : List Nat) (d : Nat) : wrt b (ds ++ [d]) = wrt b ds * b + d := by simp [wrt]
def dg (b n x lo c : Nat) : List Nat := (List.range c).map fun i => rem b n x (lo + i) * b / n
theorem dg_len (b n x lo c : Nat) : (dg b n x lo c).length = c := by simp [dg]
theorem dg_succ (b n x lo c : Nat) : dg b n x lo (c + 1) = dg b n x lo c ++ [rem b n x (lo + c) * b / n] := by
  unfold dg
  rw [List.range_succ, List.map_append]
  rfl
theorem wrt_dg (b n x lo : Nat) : ∀ c, n * wrt b (dg b n x lo c) + rem b n x (lo + c) = rem b n x lo * b ^ c
  | 0 => by simp [dg, wrt]
  | c + 1 => by
    have ih := wrt_dg b n x lo c
    have dm := Nat.div_add_mod (rem b n x (lo + c) * b) n
    rw [rem_succ] at dm
    rw [dg_succ, wrt_snoc, Nat.pow_succ, ← Nat.mul_assoc, ← ih, Nat.mul_add, Nat.add_mul, ← Nat.mul_assoc]
    have e : lo + (c + 1) = lo + c + 1 := rfl
    rw [e]
    omega
/-- the value of piece number j of k digits -/
def pce (b n x k j : Nat) : Nat := wrt b (dg b n x (k * j) k)
def pcs (b n x k c : Nat) : List Nat := (List.range c).map (pce b n x k)
theorem pcs_len (b n x k c : Nat) : (pcs b n x k c).length = c := by simp [pcs]
theorem pcs_succ (b n x k c : Nat) : pcs b n x k (c + 1) = pcs b n x k c ++ [pce b n x k c] := by
  unfold pcs
  rw [List.range_succ, List.map_append]
  rfl
theorem pcs_sum (b n x k : Nat) : ∀ c, n * (pcs b n x k c).sum + restSum b n x k c + rem b n x (k * c) = b ^ k * restSum b n x k c + rem b n x 0
  | 0 => by simp [pcs, restSum]
  | c + 1 => by
    have ih := pcs_sum b n x k c
    have w := wrt_dg b n x (k * c) k
    have e : k * (c + 1) = k * c + k := rfl
    rw [e, pcs_succ, List.sum_append, restSum_succ, Nat.mul_add, Nat.mul_add]
    have e2 : ([pce b n x k c] : List Nat).sum = pce b n x k c := by simp
    rw [e2]
    unfold pce
    rw [Nat.mul_comm (b ^ k) (rem b n x (k * c)), ← w]
    omega
theorem pcs_all {b n x k c : Nat} (hb : 1 ≤ b) (h : rem b n x (k * c) = rem b n x 0) : n * (pcs b n x k c).sum = (b ^ k - 1) * restSum b n x k c := by
  have e := pcs_sum b n x k c
  rw [h] at e
  have h1 : 1 ≤ b ^ k := Nat.one_le_pow _ _ hb
  rw [Nat.sub_mul, Nat.one_mul]
  omega
theorem pcs_quot {b n x k c : Nat} (hb : 2 ≤ b) (hk : 1 ≤ k) (hn : 1 ≤ n) (h : rem b n x (k * c) = rem b n x 0) :
    ((pcs b n x k c).sum % (b ^ k - 1) = 0 ↔ restSum b n x k c % n = 0) ∧ (restSum b n x k c % n = 0 → (pcs b n x k c).sum / (b ^ k - 1) = restSum b n x k c / n) := by
  have e := pcs_all (b := b) (n := n) (x := x) (k := k) (c := c) (by omega) h
  have h1 : 2 ≤ b ^ k := Nat.le_trans hb (Nat.le_self_pow (by omega) b)
  generalize (pcs b n x k c).sum = S at e ⊢
  generalize restSum b n x k c = R at e ⊢
  generalize hm : b ^ k - 1 = m at e ⊢
  have m1 : 1 ≤ m := by omega
  refine ⟨⟨fun z => ?_, fun z => ?_⟩, fun z => ?_⟩
  · obtain ⟨q, rfl⟩ := Nat.dvd_of_mod_eq_zero z
    have : m * R = m * (n * q) := by rw [← e, Nat.mul_left_comm]
    rw [Nat.eq_of_mul_eq_mul_left m1 this]
    exact Nat.mul_mod_right _ _
  · obtain ⟨q, rfl⟩ := Nat.dvd_of_mod_eq_zero z
    have : n * S = n * (m * q) := by rw [e, Nat.mul_left_comm]
    rw [Nat.eq_of_mul_eq_mul_left hn this]
    exact Nat.mul_mod_right _ _
  · obtain ⟨q, rfl⟩ := Nat.dvd_of_mod_eq_zero z
    have : n * S = n * (m * q) := by rw [e, Nat.mul_left_comm]
    rw [Nat.eq_of_mul_eq_mul_left hn this, Nat.mul_div_cancel_left _ m1, Nat.mul_div_cancel_left _ hn]
theorem pce_lt {b n x k j : Nat} (hb : 1 ≤ b) (hn : 1 ≤ n) : pce b n x k j < b ^ k := by
  have w := wrt_dg b n x (k * j) k
  have r := rem_lt (b := b) (n := n) (x := x) (i := k * j) hn
  unfold pce
  have h1 : n * wrt b (dg b n x (k * j) k) ≤ rem b n x (k * j) * b ^ k := by omega
  have h2 : rem b n x (k * j) * b ^ k < n * b ^ k := Nat.mul_lt_mul_of_pos_right r (Nat.pow_pos hb)
  exact Nat.lt_of_mul_lt_mul_left (Nat.lt_of_le_of_lt h1 h2)
theorem rem_period {b n x L : Nat} (h : b ^ L % n = 1 % n) : rem b n x L = rem b n x 0 := by
  unfold rem
  rw [Nat.mul_mod, h, ← Nat.mul_mod, Nat.pow_zero]
/-! whole numbers of more signs -/
theorem Sm.intB {i : Int} {k : Nat} (hk : 1 ≤ k) (h : i.natAbs < 2 ^ k) (hk2 : k ≤ 1000) : Sm (.int i) 303 0 k := by
  have hl := log2_lt hk h
  have h12 : i.natAbs < 10 ^ 302 := Nat.lt_of_lt_of_le h (Nat.le_trans (Nat.pow_le_pow_right (by decide) hk2) (by decide +kernel))
  refine ⟨?_, ?_, rfl, rfl, Nat.le_refl _, ?_⟩
  · show decide (i.natAbs.log2 < 1920) = true
    exact decide_eq_true (by omega)
  · show decide ((PyData.shown (.int i)).length ≤ 303) = true
    refine decide_eq_true ?_
    have e := int_text_length_le10 (k := 302) (by decide) h12
    show (Str.ofString (toString i)).length ≤ 303
    rw [PySem.ofString_length]
    exact e
  · show 0 ≤ k
    omega
/-- .. of up to 1900 bits -/
theorem Sm.intW {i : Int} (h : i.natAbs < 2 ^ 1900) : Sm (.int i) 600 0 0 := by
  have hl := log2_lt (k := 1900) (by decide) h
  have h12 : i.natAbs < 10 ^ 599 := Nat.lt_of_lt_of_le h (by decide +kernel)
  refine ⟨?_, ?_, rfl, rfl, Nat.le_refl _, Nat.le_refl _⟩
  · show decide (i.natAbs.log2 < 1920) = true
    exact decide_eq_true (by omega)
  · show decide ((PyData.shown (.int i)).length ≤ 600) = true
    refine decide_eq_true ?_
    have e := int_text_length_le10 (k := 599) (by decide) h12
    show (Str.ofString (toString i)).length ≤ 600
    rw [PySem.ofString_length]
    exact e
theorem Sm.int0 {i : Int} {k : Nat} (hk : 1 ≤ k) (h : i.natAbs < 2 ^ k) (hk2 : k ≤ 39) : Sm (.int i) 13 0 0 := by
  obtain ⟨a, b, c, d, e, _⟩ := Sm.int hk h hk2
  exact ⟨a, b, c, d, e, Nat.le_refl _⟩
end Wn
/-! d.update(e) for dicts of whole numbers and texts; dict(xs) with a name -/
namespace Wn
open PySem PySem.Spec PyProof.Rows L2
def rUpd : V → List V → Hp → VK → Prop := fun x vs H Q => ∃ (a o : Addr) (kvs more : List (Key × V)), x = .ref a ∧ vs = [.ref o] ∧ a ≠ o ∧ H a = some (.dK kvs) ∧ H o = some (.dK more) ∧ kvs.length + more.length ≤ sizeLine ∧ Q .non (upd H a (.dK (mergeK kvs more)))
theorem mt_update {X : Cx} : MtR X "dict.update" rUpd := by
  intro pins s σ H x vs v us Q I rx rv h
  obtain ⟨a, o, kvs, more, rfl, rfl, hne, ha, ho, hz, q⟩ := h
  cases rx
  obtain ⟨u, rfl, ru⟩ := rv.one
  cases ru
  obtain ⟨z1, n1, vs1, rel1, d1⟩ := dk_of I.hok ha
  obtain ⟨z2, n2, vs2, rel2, d2⟩ := dk_of I.hok ho
  have l1 := rel1.length
  have l2 := rel2.length
  refine call_meetsIn PySem.F.slot_dict_update d1.typeIs PySem.F.entry_dict_update (PySem.F.args_dict_update_2 _ _) (meets_dict_update (mixKind X.prog X.w) a o hne n2) ⟨vs1, vs2, d1, d2, by omega, fun h' d1' d2' hs => ?_⟩
  have hlm := length_mergeK more kvs
  have he : ∃ q, h'.get? a = some q := let ⟨q, _, _, hq, _⟩ := d1'; ⟨q, hq⟩
  exact ⟨.non, _, d_write I (by rw [ha]; exact True.intro) hs he (dk_new (by omega) n1 (rel2.merge rel1) d1'), rfl, q⟩
def rDP (K : PySem.W.Frag) : List V → Hp → VK → Prop := fun xs H Q => ∃ (a : Addr) (ps : List Addr) (kvs : List (Key × V)), xs = [.ref a] ∧ SqL K H a (ps.map V.ref) ∧ Paired (fun p kv => SqT K H p [kV kv.1, kv.2]) ps kvs ∧
    ∀ p, H p = none → Q (.ref p) (upd H p (.dK (mergeK [] kvs)))
theorem call_dP {X : Cx} (h : X.calm = true) : CallR X (.type "dict") (rDP X.K) := call_dictP h
theorem valV_merge : ∀ (more kvs : List (Key × V)) (k : Key), (valV (mergeK kvs more) k).isSome = ((valV kvs k).isSome || decide (∃ kv ∈ more, kv.1 = k))
  | [], kvs, k => by simp [mergeK]
  | p :: r, kvs, k => by
    show (valV (mergeK (putK kvs p.1 p.2) r) k).isSome = _
    rw [valV_merge r, valV_put, Bool.eq_iff_iff]
    by_cases e : k = p.1
    · subst e
      simp
    · rw [if_neg e]
      have e' : ¬ p.1 = k := fun z => e z.symm
      simp [e']
end Wn
/-! wheels: rows of remainders -/
namespace Wn
open PySem PySem.Spec PyProof.Rows L2
def topB (b n L x : Nat) : Bool := decide (Nat.gcd x n = 1) && (List.range L).all fun i => decide (x ≤ rem b n x i)
def wl (b n L : Nat) : List Nat := (List.range n).filter (topB b n L)
def InOrb (b n L y r : Nat) : Prop := ∃ i, i < L ∧ rem b n y i = r
theorem top_iff {b n L x : Nat} : topB b n L x = true ↔ Nat.gcd x n = 1 ∧ ∀ i, i < L → x ≤ rem b n x i := by
  unfold topB
  rw [Bool.and_eq_true, decide_eq_true_eq, List.all_eq_true]
  constructor
  · rintro ⟨h1, h2⟩
    refine ⟨h1, fun i hi => ?_⟩
    have := h2 i (List.mem_range.mpr hi)
    rwa [decide_eq_true_eq] at this
  · rintro ⟨h1, h2⟩
    exact ⟨h1, fun i hi => decide_eq_true (h2 i (List.mem_range.mp hi))⟩
theorem rem_rem (b n y i j : Nat) : rem b n (rem b n y i) j = rem b n y (i + j) := by
  unfold rem
  rw [Nat.mod_mul_mod, Nat.mul_assoc, ← Nat.pow_add]
theorem rem_per {b n L y : Nat} (h : IsPer b n L) (hy : y < n) : rem b n y L = y := by
  unfold rem
  rw [Nat.mul_mod, h.2.1, ← Nat.mul_mod, Nat.mul_one, Nat.mod_eq_of_lt hy]
theorem orb_symm {b n L x y : Nat} (h : IsPer b n L) (hy : y < n) (o : InOrb b n L y x) : InOrb b n L x y := by
  obtain ⟨i, hi, e⟩ := o
  subst e
  rcases Nat.eq_zero_or_pos i with z | z
  · subst z
    exact ⟨0, h.1, by rw [rem_rem, rem_zero hy]⟩
  · exact ⟨L - i, by omega, by rw [rem_rem, show i + (L - i) = L by omega, rem_per h hy]⟩
theorem rem_cop {b n x : Nat} (g : Nat.gcd b n = 1) (gx : Nat.gcd x n = 1) (i : Nat) : Nat.gcd (rem b n x i) n = 1 := by
  unfold rem
  rw [← Nat.gcd_rec n (x * b ^ i), Nat.gcd_comm]
  exact Nat.Coprime.mul_left gx (cop_pow g i)
theorem not_top {b n L x : Nat} (g : Nat.gcd b n = 1) (h : IsPer b n L) (hx : x < n) (gx : Nat.gcd x n = 1) : topB b n L x = false ↔ ∃ y, y < x ∧ Nat.gcd y n = 1 ∧ InOrb b n L y x := by
  have hn : 1 ≤ n := by omega
  constructor
  · intro z
    have z' : ¬ topB b n L x = true := by rw [z]; decide
    rw [top_iff] at z'
    have : ∃ i, i < L ∧ rem b n x i < x := by
      apply Classical.byContradiction
      intro c
      exact z' ⟨gx, fun i hi => Nat.le_of_not_lt fun l => c ⟨i, hi, l⟩⟩
    obtain ⟨i, hi, l⟩ := this
    exact ⟨_, l, rem_cop g gx i, orb_symm h hx ⟨i, hi, rfl⟩⟩
  · rintro ⟨y, hy, gy, o⟩
    obtain ⟨j, hj, e⟩ := orb_symm h (by omega) o
    cases c : topB b n L x with
    | false => rfl
    | true =>
      have := (top_iff.mp c).2 j hj
      omega
/-- who has been met before x comes -/
def Met (b n L k r : Nat) : Prop := ∃ y, y < k ∧ Nat.gcd y n = 1 ∧ InOrb b n L y r
theorem met_top {b n L k r : Nat} (g : Nat.gcd b n = 1) (h : IsPer b n L) (hk : k ≤ n) : Met b n L k r ↔ ∃ y, y < k ∧ topB b n L y = true ∧ InOrb b n L y r := by
  constructor
  · rintro ⟨y, hy, gy, i, hi, e⟩
    -- the least of its row
    obtain ⟨m, hm, ⟨j, hj, ej⟩, q⟩ := least (fun z => ∃ j, j < L ∧ rem b n y j = z) y ⟨0, h.1, rem_zero (by omega)⟩
    have hjm : rem b n y j = m := ej
    refine ⟨m, by omega, top_iff.mpr ⟨?_, fun t ht => ?_⟩, ?_⟩
    · rw [← hjm]
      exact rem_cop g gy j
    · apply Nat.le_of_not_lt
      intro l
      refine q _ l ⟨(j + t) % L, Nat.mod_lt _ h.1, ?_⟩
      rw [← hjm, rem_rem]
      have := Nat.div_add_mod (j + t) L
      show rem b n y ((j + t) % L) = rem b n y (j + t)
      conv => rhs; rw [← this]
      rw [← rem_rem]
      congr 1
      unfold rem
      rw [Nat.mul_mod, h.mul, ← Nat.mul_mod, Nat.mul_one, Nat.mod_eq_of_lt (by omega)]
    · refine ⟨(L - j + i) % L, Nat.mod_lt _ h.1, ?_⟩
      have := Nat.div_add_mod (L - j + i) L
      rw [← e, ← hjm, rem_rem]
      have e2 : rem b n y (j + (L - j + i) % L) = rem b n y (j + (L - j + i)) := by
        conv => rhs; rw [← this]
        rw [show j + (L * ((L - j + i) / L) + (L - j + i) % L) = L * ((L - j + i) / L) + (j + (L - j + i) % L) by omega, ← rem_rem (i := L * ((L - j + i) / L))]
        congr 1
        unfold rem
        rw [Nat.mul_mod, h.mul, ← Nat.mul_mod, Nat.mul_one, Nat.mod_eq_of_lt (by omega)]
      rw [e2, show j + (L - j + i) = L + i by omega, ← rem_rem, rem_per h (by omega)]
  · rintro ⟨y, hy, t, o⟩
    exact ⟨y, hy, (top_iff.mp t).1, o⟩
theorem met_succ {b n L k r : Nat} : Met b n L (k + 1) r ↔ Met b n L k r ∨ (Nat.gcd k n = 1 ∧ InOrb b n L k r) := by
  constructor
  · rintro ⟨y, hy, gy, o⟩
    rcases Nat.lt_or_eq_of_le (show y ≤ k by omega) with z | z
    · exact .inl ⟨y, z, gy, o⟩
    · subst z
      exact .inr ⟨gy, o⟩
  · rintro (⟨y, hy, gy, o⟩ | ⟨gk, o⟩)
    · exact ⟨y, by omega, gy, o⟩
    · exact ⟨k, by omega, gk, o⟩
/-- a number whose least one stands before it brings nothing new -/
theorem met_skip {b n L k r : Nat} (g : Nat.gcd b n = 1) (h : IsPer b n L) (hk : k < n) (c : topB b n L k = false) : Met b n L (k + 1) r ↔ Met b n L k r := by
  rw [met_top g h (by omega), met_top g h (by omega)]
  constructor
  · rintro ⟨y, hy, t, o⟩
    rcases Nat.lt_or_eq_of_le (show y ≤ k by omega) with z | z
    · exact ⟨y, z, t, o⟩
    · subst z
      rw [c] at t
      cases t
  · rintro ⟨y, hy, t, o⟩
    exact ⟨y, by omega, t, o⟩
def rl (b n x L : Nat) : List Nat := (List.range L).map fun i => rem b n x i
theorem rl_len (b n x L : Nat) : (rl b n x L).length = L := by simp [rl]
theorem mem_rl {b n x L r : Nat} : r ∈ rl b n x L ↔ InOrb b n L x r := by
  unfold rl
  rw [List.mem_map]
  constructor
  · rintro ⟨i, hi, e⟩
    exact ⟨i, List.mem_range.mp hi, e⟩
  · rintro ⟨i, hi, e⟩
    exact ⟨i, List.mem_range.mpr hi, e⟩
theorem rl_lt {b n x L r : Nat} (hn : 1 ≤ n) (h : r ∈ rl b n x L) : r < n := by
  obtain ⟨i, _, rfl⟩ := mem_rl.mp h
  exact rem_lt hn
def copL (n : Nat) : List Nat := (List.range n).filter fun x => decide (Nat.gcd x n = 1)
theorem wl_take_succ {b n L k : Nat} (hk : k < n) : ((List.range n).take (k + 1)).filter (topB b n L) = ((List.range n).take k).filter (topB b n L) ++ (if topB b n L k = true then [k] else []) := by
  rw [List.take_succ_eq_append_getElem (by simpa using hk), List.filter_append, List.getElem_range, List.filter_cons]
  split <;> simp
end Wn
namespace Wn
open PySem PySem.Spec PyProof.Rows L2
theorem orb_trans {b n L x y r : Nat} (h : IsPer b n L) (hy : y < n) (o : InOrb b n L y x) (o2 : InOrb b n L x r) : InOrb b n L y r := by
  obtain ⟨i, hi, rfl⟩ := o
  obtain ⟨j, hj, rfl⟩ := o2
  refine ⟨(i + j) % L, Nat.mod_lt _ h.1, ?_⟩
  rw [rem_rem]
  have := Nat.div_add_mod (i + j) L
  show rem b n y ((i + j) % L) = rem b n y (i + j)
  conv => rhs; rw [← this]
  rw [← rem_rem]
  congr 1
  unfold rem
  rw [Nat.mul_mod, h.mul, ← Nat.mul_mod, Nat.mul_one, Nat.mod_eq_of_lt hy]
theorem asc_cop (n : Nat) : (copL n).Pairwise (· < ·) := List.Pairwise.filter _ List.pairwise_lt_range
theorem mem_cop {n x : Nat} : x ∈ copL n ↔ x < n ∧ Nat.gcd x n = 1 := by
  unfold copL
  rw [List.mem_filter, List.mem_range, decide_eq_true_eq]
theorem cop_len (n : Nat) : (copL n).length ≤ n := by
  unfold copL
  exact Nat.le_trans (List.length_filter_le _ _) (by simp)
theorem cop_take {n i y : Nat} (hi : i < (copL n).length) : y ∈ (copL n).take i ↔ y < (copL n)[i] ∧ Nat.gcd y n = 1 := by
  have hx := mem_cop.mp (List.getElem_mem hi)
  constructor
  · intro h
    obtain ⟨j, hj, rfl⟩ := List.mem_iff_getElem.mp h
    rw [List.length_take] at hj
    rw [List.getElem_take]
    exact ⟨List.pairwise_iff_getElem.mp (asc_cop n) j i (by omega) hi (by omega), (mem_cop.mp (List.getElem_mem _)).2⟩
  · rintro ⟨hl, hg⟩
    have hm : y ∈ copL n := mem_cop.mpr ⟨by omega, hg⟩
    obtain ⟨j, hj, rfl⟩ := List.mem_iff_getElem.mp hm
    rw [List.mem_iff_getElem]
    have hji : j < i := by
      rcases Nat.lt_trichotomy j i with z | z | z
      · exact z
      · subst z
        omega
      · have := List.pairwise_iff_getElem.mp (asc_cop n) i j hi hj z
        omega
    exact ⟨j, by rw [List.length_take]; omega, by rw [List.getElem_take]⟩
theorem cop_top (b n L : Nat) : (copL n).filter (topB b n L) = wl b n L := by
  unfold copL wl
  rw [List.filter_filter]
  congr 1
  funext x
  cases t : topB b n L x with
  | false => rfl
  | true => rw [decide_eq_true (top_iff.mp t).1]; rfl
theorem valV_mem : ∀ (l : List (Key × V)) (k : Key), (valV l k).isSome = true ↔ ∃ kv ∈ l, kv.1 = k
  | [], k => by simp [valV]
  | p :: r, k => by
    by_cases e : p.1 = k
    · rw [valV_pos e]
      simp [e]
    · rw [valV_neg e, valV_mem r]
      simp [e]
end Wn
/-! set(xs) of a list of whole numbers -/
namespace Wn
open PySem PySem.Spec PyProof.Rows L2
abbrev eSet (w : World) : Obj := { cls := .type "set", dict := none, data := .set #[] 0 (.fresh 0 0 (!w.params.followText "set-order")) }
section
variable {P : Program} {w : World} {A : Around} {E : Value → Shared → Prop} {z : Shared}
theorem set_lst {l : Addr} {us : Array Value} (ks : List Int) {Q : Value → Shared → Prop} (hh : A.handled = none) (hl : z.heap.IsList l us) (hu : IntsAre us.toList ks) (hb : ks.length + 1 < scanBound)
    (go : ∀ (hp : Heap) (tk c : Nat), SetR w hp z.heap.objs.size (fun j => decide (j ∈ ks)) c → (∀ b o, z.heap.get? b = some o → hp.get? b = some o) → Q (.ref z.heap.objs.size) { z with heap := hp, toks := tk }) :
    wpAny (model P w) A (call (.type "set") [.ref l]) Q E z := by
  have hsz : us.size = ks.length := Array.length_toList (xs := us) ▸ IntsAre.length hu
  obtain ⟨c0, t0, mr⟩ := F.called_set.mro
  have p1 := F.called_set.made; have p2 := F.called_set.sub
  refine wpAny_call (codeAny_of_tree (show wpAny _ _ (callAny (.type "set") _) _ _ _ from wpAny_pure ⟨Code.quiet_builtin _ (by decide +kernel), codeAny_builtin F.entry_type_call ?_⟩))
  rw [Around.under_plain (weight_type_call_type "set" [Value.ref l] []) rfl]
  have p3 := F.called_set.notType; have p4 := F.called_set.canCreate; have p5 := F.typeCall_set_1 (.ref l)
  repeat (any_goals (first | assumption | wp_step))
  refine codeAny_mono (code_set_led1 (.ref l) (E := E) (Q₁ := fun v s1 => v = .ref z.heap.objs.size ∧ s1 = { z with heap := z.heap.push (eSet w) }) ⟨rfl, rfl⟩) fun r s1 hr => ?_
  cases r with
  | error e => exact hr
  | ok fl =>
    cases fl with
    | ret v =>
      obtain ⟨rfl, rfl⟩ := hr
      have aS : (z.heap.push (eSet w)).get? z.heap.objs.size = some (eSet w) := Heap.get?_push_size _ rfl
      have tS : Shared.TypeIs { z with heap := z.heap.push (eSet w) } (.ref z.heap.objs.size) "set" := ⟨_, aS, rfl⟩
      have p6 := F.called_set.init.lookup; have p7 := F.called_set.init.bind (.ref z.heap.objs.size)
      repeat (any_goals (first | assumption | wp_step))
      refine codeAny_mono (codeAny_call_builtin (R := wants (fun r s2 => r = .none ∧ ∃ hp tk c, s2 = { z with heap := hp, toks := tk } ∧ SetR w hp z.heap.objs.size (fun j => decide (j ∈ ks)) c ∧ (∀ b o, z.heap.get? b = some o → hp.get? b = some o)) E)
        F.called_set.init.plain F.entry_set_init (check_set_init_1 tS ?_)) fun r2 s2 hr2 => ?_
      · obtain ⟨⟨oc, od, odata, osl⟩, ho, hc, nl, hd⟩ := hl
        simp only at hc hd; subst hc; subst hd
        have ho' : (z.heap.push (eSet w)).get? l = some { cls := .type "list", dict := od, data := .seq us nl, slots := osl } := Heap.get?_push_of_some _ ho
        have q1 := F.sub_list_set; have q2 := F.sub_list_frozenset
        have q3 : (Value.type "list" == Value.type "dict") = false := by decide
        have il : (z.heap.push (eSet w)).IsList l us := ⟨_, ho', rfl, nl, rfl⟩
        unfold Builtin.«set.__init__» noKeywords Builtin.Frozenset.updateFrom
        generalize eI : pyIter = PI; wp_walk; subst eI
        refine wpAny_pyIter_list il (wpAny_bind (wpAny_runValue ?_))
        have lt : l < z.heap.objs.size := Heap.lt_size ho
        have h3 : A.in1.in1.in1.handled = none := by simp [hh]
        have eI : (z.heap.push (eSet w)).objs.size = z.heap.objs.size + 1 := Heap.size_push ..
        have nI : l ≠ (z.heap.push (eSet w)).objs.size := by rw [eI]; exact Nat.ne_of_lt (Nat.lt_succ_of_lt lt)
        have nS : z.heap.objs.size ∉ [(z.heap.push (eSet w)).objs.size, l] := by
          rw [eI]; simp only [List.mem_cons, List.not_mem_nil, or_false]; exact fun h => h.elim (Nat.ne_of_lt (Nat.lt_succ_self _)) (Nat.ne_of_gt lt)
        have items : ∀ (i : Nat) (v : Value), us[i]? = some v → ∃ k t, ks[i]? = some k ∧ v = .int k t := fun i v hv => by
          have hi : i < ks.length := hsz ▸ (Array.getElem?_eq_some_iff.mp hv).1
          obtain ⟨t, e⟩ := PyProof.Rows.IntsAre.int_at hu i v (by simpa using hv)
          exact ⟨ks[i], t, by simp [hi], by rw [e]; simp [hi]⟩
        refine set_update_ints ((Walks.list h3 _ l nI us).toS) z.heap.objs.size nS ks hsz hb items (us.size - 0) 0 _ (by omega) (Nat.zero_le _) ⟨⟨_, Heap.get?_push_size _ rfl, rfl, rfl⟩, il.push _⟩ ⟨0, Nat.le_refl 0, setR_new_at (Heap.get?_push_of_some _ aS)⟩ fun s3 c3 mv hc3 R3 => ?_
        obtain ⟨h3', g3, d3, tk3, os3⟩ := s3
        have e1 : g3 = z.gens := mv.gens; have e2 : d3 = z.drawn := mv.drawn; have e3 : os3 = z.os := mv.os
        subst e1; subst e2; subst e3
        refine wpAny_pure (show wpAny _ _ (ret Value.none) _ _ _ from wpAny_pure ⟨rfl, h3', tk3, c3, rfl, R3, fun b o e => ?_⟩)
        have lb : b < z.heap.objs.size := Heap.lt_size e
        refine mv.heap b o ?_ (Heap.get?_push_of_some _ (Heap.get?_push_of_some _ e))
        simp only [List.mem_cons, List.not_mem_nil, or_false]; rw [eI]; exact fun h => h.elim (Nat.ne_of_lt lb) (Nat.ne_of_lt (Nat.lt_succ_of_lt lb))
      · cases r2 with
        | error e => exact hr2
        | ok fl2 =>
          cases fl2 with
          | ret r =>
            obtain ⟨rfl, hp, tk, c, rfl, R, kp⟩ := hr2
            repeat (any_goals (first | assumption | wp_step))
            exact go _ _ _ R kp
          | _ => exact hr2.elim
    | _ => exact hr.elim
end
theorem ints_vals : ∀ {ns : List Int} {us : List Value}, Vals (ns.map V.int) us → IntsAre us ns
  | [], _, .nil => .nil
  | _ :: _, _, .cons ⟨k, e⟩ t => e ▸ IntsAre.cons _ k (ints_vals t)
def rSetL (K : PySem.W.Frag) (w : World) : List V → Hp → VK → Prop := fun xs H Q => ∃ (l : Addr) (ns : List Int), xs = [V.ref l] ∧ SqL K H l (ns.map V.int) ∧ ns.length ≤ 4000 ∧
  ∀ (a : Addr) (ks : List Int), H a = none → ks.Nodup → (∀ k, k ∈ ks ↔ k ∈ ns) → Q (.ref a) (upd H a (SetO w a (fun j => decide (j ∈ ns)) ks.length))
theorem call_setL {X : Cx} (hc : X.calm = true) : CallR X (.type "set") (rSetL X.K X.w) := by
  intro pins s σ H xs us Q I r h
  obtain ⟨l, ns, rfl, hs, hz, q⟩ := h
  obtain ⟨its, rv, hl, _⟩ := I.list hs
  rw [Vals.ref1 r]
  refine set_lst ns (I.ok.hd hc) hl.isList (by simpa using ints_vals rv) (by unfold scanBound; omega) fun hp tk c R kp => ?_
  have R' := R
  obtain ⟨o, es, ep, t, _, _, _, _, nd, hm, _, _, hn, _⟩ := R
  have e : (es.toList.map keyOf).length = c := by rw [List.length_map, Array.length_toList, hn]
  have free := I.hok.fresh (Nat.le_refl s.heap.objs.size)
  have q' := q s.heap.objs.size (es.toList.map keyOf) free nd (fun k => by rw [← hm]; simp)
  rw [e] at q'
  exact ⟨.ref _, _, I.laid (t' := tk) kp (Nat.le_refl _) (setO_new R'), rfl, q'⟩
/-! ascending lists with the same members are one -/
theorem asc_eq : ∀ {xs ys : List Int}, xs.Pairwise (· < ·) → ys.Pairwise (· < ·) → (∀ k, k ∈ xs ↔ k ∈ ys) → xs = ys
  | [], [], _, _, _ => rfl
  | [], y :: ys, _, _, h => absurd ((h y).mpr List.mem_cons_self) (by simp)
  | x :: xs, [], _, _, h => absurd ((h x).mp List.mem_cons_self) (by simp)
  | x :: xs, y :: ys, hx, hy, h => by
    have hx' := List.pairwise_cons.mp hx
    have hy' := List.pairwise_cons.mp hy
    have e : x = y := by
      rcases List.mem_cons.mp ((h x).mp List.mem_cons_self) with z | z
      · exact z
      · rcases List.mem_cons.mp ((h y).mpr List.mem_cons_self) with z2 | z2
        · exact z2.symm
        · have h1 := hy'.1 x z
          have h2 := hx'.1 y z2
          omega
    subst e
    rw [asc_eq hx'.2 hy'.2 fun k => ?_]
    have hk := h k
    simp only [List.mem_cons] at hk
    constructor
    · intro z
      rcases hk.mp (.inr z) with z2 | z2
      · have := hx'.1 k z
        omega
      · exact z2
    · intro z
      rcases hk.mpr (.inr z) with z2 | z2
      · have := hy'.1 k z
        omega
      · exact z2
end Wn
/-! a tuple times any small number -/
namespace Wn
open PySem PySem.Spec PyProof.Rows L2
theorem tmul_same (l : Addr) (us : Array Value) (n : Nat) (dd : Option Addr) (sl : Array (Option Value)) (k : Int) (u : Tok) (c0 : (decide (k < -(2 ^ 63)) || decide (k ≥ 2 ^ 63)) = false) (c1 : (us.isEmpty || k == 1) = true) :
    Meets (Builtin.«tuple.__mul__» ⟨[.ref l, .int k u], []⟩) (fun _ R s => s.heap.get? l = some { cls := .type "tuple", dict := dd, data := .seq us n, slots := sl } ∧ R (.ok (.ret (Value.ref l))) s) :=
  .of_wp fun prog w A R s ⟨hl, go⟩ => by
    obtain ⟨hp, g, d, tk, os⟩ := s
    have f1 := AutoSeq1.idx_int
    wp_walk using wpAny_loadPart' hl
    repeat (first
      | (refine wpAny_ite_false (decide_eq_false (by rw [c0]; exact Bool.false_ne_true)) ?_; wp_walk using wpAny_loadPart' hl)
      | (refine wpAny_ite_true (decide_eq_true (by rw [c1])) ?_; wp_walk using wpAny_loadPart' hl))
    exact ⟨_, rfl, go⟩
theorem tmul_none (l : Addr) (us : Array Value) (n : Nat) (dd : Option Addr) (sl : Array (Option Value)) (k : Int) (u : Tok) (c0 : (decide (k < -(2 ^ 63)) || decide (k ≥ 2 ^ 63)) = false) (c1 : (us.isEmpty || k == 1) = false) (c2 : (decide (k ≤ 0) || us.isEmpty) = true) :
    Meets (Builtin.«tuple.__mul__» ⟨[.ref l, .int k u], []⟩) (fun _ R s => s.heap.get? l = some { cls := .type "tuple", dict := dd, data := .seq us n, slots := sl } ∧
      R (.ok (.ret (Value.ref s.heap.objs.size))) { s with heap := s.heap.push { cls := Value.type "tuple", data := Data.seq #[] }, toks := s.toks }) :=
  .of_wp fun prog w A R s ⟨hl, go⟩ => by
    obtain ⟨hp, g, d, tk, os⟩ := s
    have f1 := AutoSeq1.idx_int
    wp_walk using wpAny_loadPart' hl
    repeat (first
      | (refine wpAny_ite_false (decide_eq_false (by rw [c0]; exact Bool.false_ne_true)) ?_; wp_walk using wpAny_loadPart' hl)
      | (refine wpAny_ite_false (decide_eq_false (by rw [c1]; exact Bool.false_ne_true)) ?_; wp_walk using wpAny_loadPart' hl)
      | (refine wpAny_ite_true (decide_eq_true (by rw [c2])) ?_; wp_walk using wpAny_loadPart' hl))
    exact ⟨_, rfl, go⟩
def rRepG (K : PySem.W.Frag) : R2 := fun x y H Q => ∃ (l : Addr) (k : Int) (xs : List V), x = .ref l ∧ y = .int k ∧ SqT K H l xs ∧ (-1000 ≤ k ∧ k ≤ 1000 ∧ xs.length ≤ 1000) ∧
  ((k = 1 ∨ xs = []) → Q (.ref l) H) ∧ (k ≠ 1 → xs ≠ [] → ∀ p, H p = none → Q (.ref p) (upd H p (.tup (List.replicate k.toNat xs).flatten)))
theorem op_repG {X : Cx} : OpR X (binaryOp .Mult) (rRepG X.K) := by
  intro pins s σ H x y v u Q I rx ry h
  obtain ⟨l, k, xs, rfl, rfl, hT, ⟨h0, h1, hz⟩, q1, q2⟩ := h
  by_cases hb : 2 ≤ k ∧ xs ≠ []
  · exact op_repT pins s σ H _ _ _ _ _ I rx ry ⟨l, k, xs, rfl, rfl, hT, hb.2, hb.1, h1, hz, q2 (by omega) hb.2⟩
  cases rx
  obtain ⟨t, rfl⟩ := ry
  obtain ⟨its, r, ⟨⟨cls, dd, data, sl⟩, ho, hc, n, hd⟩, hs⟩ := I.tuple hT
  simp only at hc hd
  subst hc hd
  have c0 : (decide (k < -(2 ^ 63)) || decide (k ≥ 2 ^ 63)) = false := by
    rw [decide_eq_false (by omega), decide_eq_false (by omega)] <;> rfl
  have hne : its.toArray.isEmpty = true ↔ xs = [] := by
    cases r with
    | nil => exact ⟨fun _ => rfl, fun _ => rfl⟩
    | cons a b => exact ⟨fun z => by simp at z, fun z => by cases z⟩
  by_cases c1 : (its.toArray.isEmpty || k == 1) = true
  · have hk : k = 1 ∨ xs = [] := by
      rcases Bool.or_eq_true _ _ ▸ c1 with z | z
      · exact .inr (hne.mp z)
      · exact .inl (beq_iff_eq.mp z)
    refine wpAny_binaryOp_repeat_ref (T := "tuple") (U := "int") (by decide) ⟨_, ho, rfl⟩ (fun s' => typeIs_int s' k t) noFill_tuple_mul F.fills_int_mul F.slot_int_rmul repeat_tuple F.slot_int_index.lookup
      (call_meets F.slot_int_rmul (typeIs_int s k t) F.entry_int_rmul (F.args_int_rmul_2 _ _) (int_rmul_tuple k t l its.toArray n dd sl)
        ⟨ho, rfl, ⟨_, ho, rfl⟩, call_meets F.slot_tuple_mul ⟨_, ho, rfl⟩ F.entry_tuple_mul (F.args_tuple_mul_2 _ _) (tmul_same l its.toArray n dd sl k t c0 c1) ⟨ho, .ref l, H, I, rfl, q1 hk⟩⟩)
  · have c1' : (its.toArray.isEmpty || k == 1) = false := by simpa using c1
    rw [Bool.or_eq_false_iff] at c1'
    have hx : xs ≠ [] := fun z => by
      rw [hne.mpr z] at c1'
      cases c1'.1
    have hk1 : k ≠ 1 := fun z => by
      have := c1'.2
      rw [z] at this
      cases this
    have hk0 : k ≤ 0 := by
      rcases Int.lt_or_le 0 k with z | z
      · exact absurd ⟨by omega, hx⟩ hb
      · exact z
    have q3 := q2 hk1 hx s.heap.objs.size (I.hok.fresh (Nat.le_refl _))
    rw [show k.toNat = 0 by omega] at q3
    refine wpAny_binaryOp_repeat_ref (T := "tuple") (U := "int") (by decide) ⟨_, ho, rfl⟩ (fun s' => typeIs_int s' k t) noFill_tuple_mul F.fills_int_mul F.slot_int_rmul repeat_tuple F.slot_int_index.lookup
      (call_meets F.slot_int_rmul (typeIs_int s k t) F.entry_int_rmul (F.args_int_rmul_2 _ _) (int_rmul_tuple k t l its.toArray n dd sl)
        ⟨ho, rfl, ⟨_, ho, rfl⟩, call_meets F.slot_tuple_mul ⟨_, ho, rfl⟩ F.entry_tuple_mul (F.args_tuple_mul_2 _ _) (tmul_none l its.toArray n dd sl k t c0 (by rw [c1'.1, c1'.2]; rfl) (by rw [decide_eq_true hk0]; rfl)) ⟨ho, ?_⟩⟩)
    refine ⟨.ref s.heap.objs.size, _, I.laid (t' := s.toks) (o := .tup (List.replicate 0 xs).flatten) (fun b ob q => Heap.get?_push_of_some _ q) (Nat.le_refl _) ?_, rfl, q3⟩
    exact ⟨Nat.zero_le _, [], .nil, IsTup.new _ _⟩
end Wn
/-! rotations -/
namespace Wn
open PySem PySem.Spec PyProof.Rows L2
def rotL (ds : List Nat) (k : Nat) : List Nat := ds.drop k ++ ds.take k
theorem rotL_len (ds : List Nat) (k : Nat) : (rotL ds k).length = ds.length := by
  unfold rotL
  rw [List.length_append, List.length_drop, List.length_take]
  omega
theorem rotL_zero (ds : List Nat) : rotL ds 0 = ds := by simp [rotL]
theorem rotL_succ {ds : List Nat} {k : Nat} (h : k < ds.length) : (rotL ds k).drop 1 ++ (rotL ds k).take 1 = rotL ds (k + 1) := by
  unfold rotL
  rw [List.drop_eq_getElem_cons h]
  simp only [List.cons_append, List.drop_succ_cons, List.drop_zero, List.take_succ_cons, List.take_zero]
  rw [List.append_assoc, List.take_succ_eq_append_getElem h]
theorem mem_rotL {ds : List Nat} {k x : Nat} (h : x ∈ rotL ds k) : x ∈ ds := by
  unfold rotL at h
  rcases List.mem_append.mp h with z | z
  · exact List.mem_of_mem_drop z
  · exact List.mem_of_mem_take z
/-- the repeating digits -/
def dgl (b n x L : Nat) : List Nat := (List.range L).map fun i => rem b n x i * b / n
theorem dgl_len (b n x L : Nat) : (dgl b n x L).length = L := by simp [dgl]
theorem rem_cyc {b n x L : Nat} (h : IsPer b n L) (i : Nat) : rem b n x (i + L) = rem b n x i := by
  unfold rem
  rw [Nat.pow_add, ← Nat.mul_assoc, Nat.mul_mod, h.2.1, ← Nat.mul_mod, Nat.mul_one]
theorem dgl_rot {b n x L k : Nat} (h : IsPer b n L) (hk : k ≤ L) : rotL (dgl b n x L) k = dgl b n (rem b n x k) L := by
  unfold rotL
  apply List.ext_getElem
  · rw [List.length_append, List.length_drop, List.length_take, dgl_len, dgl_len]
    omega
  · intro i h1 h2
    rw [dgl_len] at h2
    rw [List.getElem_append]
    split
    · rename_i hi
      rw [List.length_drop, dgl_len] at hi
      rw [List.getElem_drop]
      simp only [dgl, List.getElem_map, List.getElem_range]
      rw [rem_rem]
    · rename_i hi
      rw [List.length_drop, dgl_len] at hi
      rw [List.getElem_take]
      simp only [dgl, List.getElem_map, List.getElem_range, List.length_drop, List.length_map, List.length_range]
      rw [rem_rem, show k + i = i - (L - k) + L by omega, rem_cyc h]
theorem dgl_inj {b n x y L : Nat} (hb : 2 ≤ b) (h : IsPer b n L) (hx : x < n) (hy : y < n) (e : dgl b n x L = dgl b n y L) : x = y := by
  have hn : 1 ≤ n := by omega
  have hd : ∀ i, i < L → rem b n x i * b / n = rem b n y i * b / n := fun i hi => by
    have h1 : (dgl b n x L)[i]'(by rw [dgl_len]; exact hi) = (dgl b n y L)[i]'(by rw [dgl_len]; exact hi) := by simp only [e]
    simp only [dgl, List.getElem_map, List.getElem_range] at h1
    exact h1
  have st : ∀ z i, rem b n z i * b = n * (rem b n z i * b / n) + rem b n z (i + 1) := fun z i => by
    rw [← rem_succ]
    exact (Nat.div_add_mod _ _).symm
  -- the difference grows by the base at each step
  have key : ∀ i, i ≤ L → (rem b n x i : Int) - rem b n y i = ((x : Int) - y) * (b : Int) ^ i := by
    intro i
    induction i with
    | zero =>
      intro _
      rw [rem_zero hx, rem_zero hy]
      simp
    | succ i ih =>
      intro hi
      have h1 := ih (by omega)
      have h2 := st x i
      have h3 := st y i
      rw [hd i (by omega)] at h2
      generalize rem b n y i * b / n = q at h2 h3
      have h4 : (rem b n x i : Int) * b = n * q + rem b n x (i + 1) := by exact_mod_cast h2
      have h5 : (rem b n y i : Int) * b = n * q + rem b n y (i + 1) := by exact_mod_cast h3
      rw [Int.pow_succ, ← Int.mul_assoc, ← h1, Int.sub_mul]
      omega
  have k := key L (Nat.le_refl _)
  rw [rem_per h hx, rem_per h hy] at k
  have hL := h.1
  have hp : (2 : Int) ≤ (b : Int) ^ L := by
    have : 2 ≤ b ^ L := Nat.le_trans hb (Nat.le_self_pow (by omega) b)
    exact_mod_cast this
  have : ((x : Int) - y) * ((b : Int) ^ L - 1) = 0 := by
    rw [Int.mul_sub, Int.mul_one]
    omega
  rcases Int.mul_eq_zero.mp this with z | z <;> omega
/-- among the first ones each comes once -/
theorem rem_once {b n x L i j : Nat} (g : Nat.gcd b n = 1) (gx : Nat.gcd x n = 1) (h : IsPer b n L) (hi : i < L) (hj : j < L) (e : rem b n x i = rem b n x j) : i = j := by
  have key : ∀ {i j : Nat}, i < j → j < L → rem b n x i = rem b n x j → False := fun {i j} hij hj e => by
    have e1 : b ^ i % n = b ^ j % n := mod_cancel gx e
    have e2 : b ^ (j - i) % n = 1 % n := by
      refine mod_cancel (cop_pow g i) ?_
      rw [← Nat.pow_add, show i + (j - i) = j by omega, Nat.mul_one]
      exact e1.symm
    exact h.2.2 (j - i) (by omega) (by omega) e2
  rcases Nat.lt_trichotomy i j with z | z | z
  · exact (key z hj e).elim
  · exact z
  · exact (key z hi e.symm).elim
/-- the first place from which y comes; the period where there is none -/
def topI (b n x y L : Nat) : Nat := ((List.range L).find? fun i => decide (rem b n x i = y)).getD L
theorem topI_hit {b n x y L i : Nat} (hi : i < L) (e : rem b n x i = y) (no : ∀ j, j < i → rem b n x j ≠ y) : topI b n x y L = i := by
  unfold topI
  have : (List.range L).find? (fun i => decide (rem b n x i = y)) = some i := by
    rw [List.find?_range_eq_some]
    refine ⟨decide_eq_true e, List.mem_range.mpr hi, fun j hj => ?_⟩
    simp only [Bool.not_eq_true', decide_eq_false_iff_not]
    exact no j hj
  rw [this]
  rfl
theorem topI_miss {b n x y L : Nat} (no : ∀ j, j < L → rem b n x j ≠ y) : topI b n x y L = L := by
  unfold topI
  have : (List.range L).find? (fun i => decide (rem b n x i = y)) = none := by
    rw [List.find?_eq_none]
    intro i hi
    rw [decide_eq_true_eq]
    exact no i (List.mem_range.mp hi)
  rw [this]
  rfl
theorem topI_cases (b n x y L : Nat) : (topI b n x y L < L ∧ rem b n x (topI b n x y L) = y ∧ ∀ j, j < topI b n x y L → rem b n x j ≠ y) ∨ (topI b n x y L = L ∧ ∀ j, j < L → rem b n x j ≠ y) := by
  by_cases h : ∃ i, i < L ∧ rem b n x i = y
  · obtain ⟨i, hi, e⟩ := h
    obtain ⟨m, hm, pm, q⟩ := least (fun i => rem b n x i = y) i e
    have e1 := topI_hit (L := L) (show m < L by omega) pm (fun j hj z => q j hj z)
    rw [e1]
    exact .inl ⟨by omega, pm, fun j hj z => q j hj z⟩
  · have no : ∀ j, j < L → rem b n x j ≠ y := fun j hj z => h ⟨j, hj, z⟩
    exact .inr ⟨topI_miss no, no⟩
end Wn
/-! values of digits and of their rotations; multipliers -/
namespace Wn
open PySem PySem.Spec PyProof.Rows L2
theorem wrt_from (b : Nat) : ∀ (ds : List Nat) (f : Nat), ds.foldl (fun f d => f * b + d) f = f * b ^ ds.length + wrt b ds
  | [], f => by simp [wrt]
  | d :: r, f => by
    have h1 := wrt_from b r (f * b + d)
    have h2 := wrt_from b r (0 * b + d)
    unfold wrt at h1 h2 ⊢
    simp only [List.foldl_cons, List.length_cons]
    rw [h1, h2, Nat.pow_succ, Nat.add_mul, Nat.zero_mul, Nat.zero_add, Nat.mul_assoc, Nat.mul_comm b]
    omega
theorem wrt_cons (b x : Nat) (r : List Nat) : wrt b (x :: r) = x * b ^ r.length + wrt b r := by
  have := wrt_from b r (0 * b + x)
  rw [Nat.zero_mul, Nat.zero_add] at this
  rw [← this]
  simp [wrt]
theorem wrt_append (b : Nat) (xs ys : List Nat) : wrt b (xs ++ ys) = wrt b xs * b ^ ys.length + wrt b ys := by
  rw [← wrt_from b ys (wrt b xs)]
  simp [wrt, List.foldl_append]
theorem wrt_lt {b : Nat} : ∀ {ds : List Nat}, (∀ d ∈ ds, d < b) → wrt b ds < b ^ ds.length
  | [], _ => by simp [wrt]
  | x :: r, h => by
    have ih := wrt_lt (ds := r) fun d hd => h d (List.mem_cons_of_mem _ hd)
    have hx := h x List.mem_cons_self
    rw [wrt_cons, List.length_cons, Nat.pow_succ, Nat.mul_comm (b ^ r.length)]
    have : (x + 1) * b ^ r.length ≤ b * b ^ r.length := Nat.mul_le_mul_right _ hx
    rw [Nat.succ_mul] at this
    omega
theorem rot_at {ds : List Nat} {i : Nat} (h : i < ds.length) : rotL ds i = ds[i] :: (ds.drop (i + 1) ++ ds.take i) := by
  unfold rotL
  rw [List.drop_eq_getElem_cons h]
  rfl
theorem wrt_rot {b : Nat} {ds : List Nat} {i : Nat} (h : i < ds.length) (hb : 1 ≤ b) : ((wrt b (rotL ds i) : Nat) : Int) * (b : Int) - ((ds[i] : Nat) : Int) * (((b ^ ds.length : Nat) : Int) - 1) = ((wrt b (rotL ds (i + 1)) : Nat) : Int) := by
  have e : rotL ds (i + 1) = (ds.drop (i + 1) ++ ds.take i) ++ [ds[i]] := by
    rw [← rotL_succ h, rot_at h]
    rfl
  have hl : (ds.drop (i + 1) ++ ds.take i).length + 1 = ds.length := by
    rw [List.length_append, List.length_drop, List.length_take]
    omega
  rw [rot_at h, e, wrt_cons, wrt_snoc, ← hl]
  generalize ds.drop (i + 1) ++ ds.take i = r
  generalize wrt b r = w
  generalize ds[i] = x
  rw [Nat.pow_succ]
  generalize b ^ r.length = p
  push_cast
  rw [Int.add_mul, Int.mul_sub, Int.mul_one, Int.mul_assoc (x : Int) (p : Int) (b : Int)]
  omega
/-- k times their value is that of a rotation -/
def IsMul (b : Nat) (ds : List Nat) (k : Nat) : Prop := ∃ j, j < ds.length ∧ wrt b (rotL ds j) = k * wrt b ds
/-- those met among the first i rotations -/
def mulL (b : Nat) (ds : List Nat) (i : Nat) : List Nat := ((List.range i).filter fun j => decide (wrt b (rotL ds j) % wrt b ds = 0)).map fun j => wrt b (rotL ds j) / wrt b ds
theorem mulL_succ (b : Nat) (ds : List Nat) (i : Nat) : mulL b ds (i + 1) = mulL b ds i ++ (if wrt b (rotL ds i) % wrt b ds = 0 then [wrt b (rotL ds i) / wrt b ds] else []) := by
  unfold mulL
  rw [List.range_succ, List.filter_append, List.map_append]
  congr 1
  by_cases h : wrt b (rotL ds i) % wrt b ds = 0
  · rw [if_pos h, List.filter_cons_of_pos (by simpa using h)]
    rfl
  · rw [if_neg h, List.filter_cons_of_neg (by simpa using h)]
    rfl
theorem mulL_len (b : Nat) (ds : List Nat) (i : Nat) : (mulL b ds i).length ≤ i := by
  unfold mulL
  rw [List.length_map]
  exact Nat.le_trans (List.length_filter_le _ _) (by simp)
theorem mem_mulL {b : Nat} {ds : List Nat} {k i : Nat} (hv : 1 ≤ wrt b ds) : k ∈ mulL b ds i ↔ ∃ j, j < i ∧ wrt b (rotL ds j) = k * wrt b ds := by
  unfold mulL
  rw [List.mem_map]
  constructor
  · rintro ⟨j, hj, rfl⟩
    rw [List.mem_filter, List.mem_range, decide_eq_true_eq] at hj
    exact ⟨j, hj.1, (Nat.div_mul_cancel (Nat.dvd_of_mod_eq_zero hj.2)).symm⟩
  · rintro ⟨j, hj, e⟩
    refine ⟨j, ?_, ?_⟩
    · rw [List.mem_filter, List.mem_range, decide_eq_true_eq, e]
      exact ⟨hj, Nat.mul_mod_left _ _⟩
    · rw [e, Nat.mul_div_cancel _ hv]
/-- there are few of them -/
def Few (b : Nat) (ds : List Nat) : Prop := ∀ ks : List Nat, ks.Nodup → (∀ k ∈ ks, IsMul b ds k) → ks.length < 64
theorem nodup_sub {xs : List Nat} : ∀ {ys : List Nat}, xs.Nodup → (∀ x ∈ xs, x ∈ ys) → xs.length ≤ ys.length := by
  intro ys
  induction ys generalizing xs with
  | nil =>
    intro _ h
    cases xs with
    | nil => exact Nat.le_refl _
    | cons x r => exact absurd (h x List.mem_cons_self) (by simp)
  | cons y ys ih =>
    intro nd h
    have h1 := ih (nd.erase y) fun x hx => by
      have hm := List.mem_of_mem_erase hx
      rcases List.mem_cons.mp (h x hm) with e | e
      · subst e
        exact absurd hx (List.Nodup.not_mem_erase nd)
      · exact e
    rw [List.length_cons]
    by_cases hy : y ∈ xs
    · rw [List.length_erase_of_mem hy] at h1
      omega
    · rw [List.erase_of_not_mem hy] at h1
      omega
theorem few_of {b p : Nat} {ds : List Nat} (hv : 1 ≤ wrt b ds) (hp : p < 64) (h : ∀ j, j < ds.length → ∃ i, i < p ∧ rotL ds j = rotL ds i) : Few b ds := fun ks nd hk => by
  have := nodup_sub (ys := (List.range p).map fun i => wrt b (rotL ds i) / wrt b ds) nd fun k hm => by
    obtain ⟨j, hj, e⟩ := hk k hm
    obtain ⟨i, hi, e2⟩ := h j hj
    exact List.mem_map.mpr ⟨i, List.mem_range.mpr hi, by rw [← e2, e, Nat.mul_div_cancel _ hv]⟩
  rw [List.length_map, List.length_range] at this
  omega
theorem few_len {b : Nat} {ds : List Nat} (hv : 1 ≤ wrt b ds) (h : ds.length < 64) : Few b ds := few_of hv h fun j hj => ⟨j, hj, rfl⟩
/-- digits twice over -/
theorem rot_twice {ds : List Nat} {j : Nat} (h1 : ds.length ≤ j) (h2 : j < (ds ++ ds).length) : rotL (ds ++ ds) j = rotL (ds ++ ds) (j - ds.length) := by
  unfold rotL
  rw [List.length_append] at h2
  rw [List.drop_append, List.take_append, List.drop_append, List.take_append, List.drop_eq_nil_of_le h1, List.take_of_length_le h1, show j - ds.length - ds.length = 0 by omega]
  simp only [List.nil_append, List.drop_zero, List.take_zero, List.append_nil, List.append_assoc]
theorem few_twice {b : Nat} {ds : List Nat} (hv : 1 ≤ wrt b (ds ++ ds)) (h : ds.length < 64) : Few b (ds ++ ds) := few_of hv h fun j hj => by
  rcases Nat.lt_or_ge j ds.length with z | z
  · exact ⟨j, z, rfl⟩
  · refine ⟨j - ds.length, ?_, rot_twice z hj⟩
    rw [List.length_append] at hj
    omega
/-- a number up to 1000 has no common divisor with one of two primes -/
theorem gcd_prime {b p : Nat} (hp : ∀ g, g ≤ p → g ∣ p → g = 1 ∨ g = p) (h0 : 1 ≤ p) (h : Nat.gcd b p ≠ 1) : p ∣ b := by
  rcases hp _ (Nat.le_of_dvd h0 (Nat.gcd_dvd_right b p)) (Nat.gcd_dvd_right b p) with e | e
  · exact absurd e h
  · rw [← e]
    exact Nat.gcd_dvd_left b p
theorem cop_two {b p q : Nat} (hb : 1 ≤ b) (hp : ∀ g, g ≤ p → g ∣ p → g = 1 ∨ g = p) (hq : ∀ g, g ≤ q → g ∣ q → g = 1 ∨ g = q) (p0 : 1 ≤ p) (q0 : 1 ≤ q) (c : Nat.gcd p q = 1) (hl : b < p * q) : Nat.gcd b p = 1 ∨ Nat.gcd b q = 1 := by
  by_cases h1 : Nat.gcd b p = 1
  · exact .inl h1
  · by_cases h2 : Nat.gcd b q = 1
    · exact .inr h2
    · have := Nat.le_of_dvd hb (Nat.Coprime.mul_dvd_of_dvd_of_dvd c (gcd_prime hp p0 h1) (gcd_prime hq q0 h2))
      omega
theorem cop_43_47 {b : Nat} (h1 : 1 ≤ b) (h2 : b ≤ 1000) : Nat.gcd b 43 = 1 ∨ Nat.gcd b 47 = 1 := cop_two h1 (by decide) (by decide) (by decide) (by decide) (by decide) (by omega)
/-- two ascending rows of numbers with the same members -/
theorem ascN_eq {xs ys : List Nat} (hx : xs.Pairwise (· < ·)) (hy : ys.Pairwise (· < ·)) (h : ∀ k, k ∈ xs ↔ k ∈ ys) : xs = ys := by
  have key : ∀ {zs : List Nat}, zs.Pairwise (· < ·) → (ni zs).Pairwise (· < ·) := fun hz => List.Pairwise.map _ (fun a b h => by omega) hz
  have := asc_eq (key hx) (key hy) fun k => by
    unfold ni
    rw [List.mem_map, List.mem_map]
    exact ⟨fun ⟨a, ha, e⟩ => ⟨a, (h a).mp ha, e⟩, fun ⟨a, ha, e⟩ => ⟨a, (h a).mpr ha, e⟩⟩
  unfold ni at this
  exact (List.map_inj_right (fun a b e => by omega)).mp this
/-- rows of whole numbers whose members are natural ones -/
theorem ni_of : ∀ {zs : List Int}, (∀ k ∈ zs, 0 ≤ k) → ∃ xs : List Nat, zs = ni xs
  | [], _ => ⟨[], rfl⟩
  | z :: zs, h => by
    obtain ⟨xs, e⟩ := ni_of (zs := zs) fun k hk => h k (List.mem_cons_of_mem _ hk)
    have := h z List.mem_cons_self
    exact ⟨z.toNat :: xs, by rw [e]; show z :: ni xs = ((z.toNat : Nat) : Int) :: ni xs; rw [Int.toNat_of_nonneg this]⟩
theorem mem_ni {xs : List Nat} {k : Nat} : ((k : Nat) : Int) ∈ ni xs ↔ k ∈ xs := by
  unfold ni
  rw [List.mem_map]
  constructor
  · rintro ⟨a, ha, e⟩
    rw [show k = a by omega]
    exact ha
  · exact fun h => ⟨k, h, rfl⟩
end Wn
/-! fractions of digits -/
namespace Wn
open PySem PySem.Spec PyProof.Rows L2
def frN (b : Nat) (h g : List Nat) : Nat := wrt b h * (b ^ g.length - 1) + wrt b g
def frD (b : Nat) (h g : List Nat) : Nat := b ^ h.length * (b ^ g.length - 1)
theorem nines_pos {b k : Nat} (hb : 2 ≤ b) (hk : 1 ≤ k) : 1 ≤ b ^ k - 1 := by
  have : 2 ^ 1 ≤ b ^ k := Nat.le_trans (Nat.pow_le_pow_left hb 1) (Nat.pow_le_pow_right (by omega) hk)
  omega
theorem frD_pos {b : Nat} {h g : List Nat} (hb : 2 ≤ b) (hg : 1 ≤ g.length) : 1 ≤ frD b h g := Nat.mul_pos (Nat.pow_pos (by omega)) (nines_pos hb hg)
/-- the value is not above 1 -/
theorem frN_le {b : Nat} {h g : List Nat} (hh : ∀ d ∈ h, d < b) (hg : ∀ d ∈ g, d < b) : frN b h g ≤ frD b h g := by
  have h1 := wrt_lt hh
  have h2 := wrt_lt hg
  unfold frN frD
  have h4 : wrt b g ≤ b ^ g.length - 1 := by omega
  have h5 : (wrt b h + 1) * (b ^ g.length - 1) ≤ b ^ h.length * (b ^ g.length - 1) := Nat.mul_le_mul_right _ h1
  rw [Nat.succ_mul] at h5
  omega
/-- one fraction in two forms, one of them in lowest terms -/
theorem lowest {x n N D : Nat} (g : Nat.gcd x n = 1) (hn : 1 ≤ n) (hD : 1 ≤ D) (e : n * N = x * D) : N / Nat.gcd N D = x ∧ D / Nat.gcd N D = n := by
  have h1 : n ∣ D := Nat.Coprime.dvd_of_dvd_mul_left (Nat.Coprime.symm g) ⟨N, e.symm⟩
  obtain ⟨c, rfl⟩ := h1
  have hc : 1 ≤ c := Nat.pos_of_ne_zero fun z => by rw [z] at hD; omega
  have h2 : N = x * c := Nat.eq_of_mul_eq_mul_left hn (by rw [e, Nat.mul_left_comm])
  subst h2
  have h3 : Nat.gcd (x * c) (n * c) = c := by rw [Nat.gcd_mul_right, g, Nat.one_mul]
  rw [h3, Nat.mul_div_cancel _ hc, Nat.mul_div_cancel _ hc]
  exact ⟨rfl, rfl⟩
/-- digits of a division that comes round -/
theorem fr_of {b n x lo c : Nat} (hx : x < n) (hr : rem b n x (lo + c) = rem b n x lo) : n * frN b (dg b n x 0 lo) (dg b n x lo c) = x * frD b (dg b n x 0 lo) (dg b n x lo c) := by
  have h1 := wrt_dg b n x 0 lo
  have h2 := wrt_dg b n x lo c
  rw [rem_zero hx, Nat.zero_add] at h1
  rw [hr] at h2
  unfold frN frD
  rw [dg_len, dg_len]
  have hp : 1 ≤ b ^ c ∨ b ^ c = 0 := by omega
  rcases hp with hp | hp
  · obtain ⟨z, hz⟩ : ∃ z, b ^ c = z + 1 := ⟨b ^ c - 1, by omega⟩
    rw [hz] at h2 ⊢
    rw [Nat.add_sub_cancel]
    rw [Nat.mul_add, Nat.mul_one] at h2
    rw [Nat.mul_add, ← Nat.mul_assoc, ← Nat.mul_assoc, ← h1, Nat.add_mul]
    omega
  · rw [hp] at h2 ⊢
    rw [Nat.mul_zero] at h2
    simp only [Nat.zero_sub, Nat.mul_zero, Nat.zero_add]
    omega
theorem dg_app {b n x lo c c' : Nat} : dg b n x lo c ++ dg b n x (lo + c) c' = dg b n x lo (c + c') := by
  unfold dg
  rw [List.range_add, List.map_append, List.map_map]
  congr 1
  apply List.map_congr_left
  intro i _
  show rem b n x (lo + c + i) * b / n = rem b n x (lo + (c + i)) * b / n
  rw [Nat.add_assoc]
/-- behind a turn the same remainders -/
theorem rem_shift {b n x lo c : Nat} (hr : rem b n x (lo + c) = rem b n x lo) (i : Nat) : rem b n x (lo + c + i) = rem b n x (lo + i) := by
  have h1 := rem_rem b n x (lo + c) i
  rw [hr, rem_rem] at h1
  exact h1.symm
theorem dg_shift {b n x lo c : Nat} (hr : rem b n x (lo + c) = rem b n x lo) (k : Nat) : dg b n x (lo + c) k = dg b n x lo k := by
  unfold dg
  apply List.map_congr_left
  intro i _
  rw [rem_shift hr]
end Wn
/-! texts of whole numbers, one behind the other -/
namespace Wn
open PySem PySem.Spec PyProof.Rows L2
def dgC (c : Nat) : Bool := decide (48 ≤ c) && decide (c ≤ 57)
def runN (s : Str) : Nat := (s.cps.toList.takeWhile dgC).length
/-- the number that a text is, as texts have them -/
def intIn (s : Str) : Option Nat := if 1 ≤ s.length ∧ s.length ≤ 40 ∧ runN s = s.length ∧ ¬ (1 < s.length ∧ s.cps.toList.head? = some 48) then some (NumText.digitsVal s.cps.toList) else none
/-- the text of a number -/
def nS (n : Nat) : Str := Str.ofString (toString ((n : Nat) : Int))
theorem len_cps (s : Str) : s.length = s.cps.toList.length := by
  show s.cps.size = _
  rw [Array.length_toList]
theorem tl_nS (n : Nat) : (nS n).cps.toList = TL.numL n := TL.tl_num n
theorem ten_eq : (Str.ofString "0123456789").cps.toList = [48, 49, 50, 51, 52, 53, 54, 55, 56, 57] := by decide +kernel
theorem in_ten (c : Nat) : decide (c ∈ (Str.ofString "0123456789").cps.toList) = dgC c := by
  rw [ten_eq, Bool.eq_iff_iff, decide_eq_true_iff]
  unfold dgC
  rw [Bool.and_eq_true, decide_eq_true_iff, decide_eq_true_iff]
  simp only [List.mem_cons, List.not_mem_nil, or_false]
  omega
theorem take_all {f : Nat → Bool} : ∀ {l : List Nat}, (∀ c ∈ l, f c = true) → l.takeWhile f = l
  | [], _ => rfl
  | c :: r, h => by
    rw [List.takeWhile_cons, if_pos (h c (List.mem_cons_self ..)), take_all fun x hx => h x (List.mem_cons_of_mem _ hx)]
theorem take_len {f : Nat → Bool} : ∀ {l : List Nat}, (l.takeWhile f).length = l.length → ∀ c ∈ l, f c = true
  | [], _, c, h => by cases h
  | x :: r, h, c, hc => by
    rw [List.takeWhile_cons] at h
    split at h
    · rename_i hx
      rcases List.mem_cons.mp hc with rfl | hc
      · exact hx
      · exact take_len (by simpa using h) c hc
    · simp at h
theorem run_le (s : Str) : runN s ≤ s.length := by
  rw [len_cps]
  exact (List.takeWhile_sublist dgC).length_le
theorem take_at {f : Nat → Bool} : ∀ {l : List Nat} {i : Nat} {c : Nat}, l[i]? = some c → i ≤ (l.takeWhile f).length → (f c = true → i + 1 ≤ (l.takeWhile f).length) ∧ (f c = false → i = (l.takeWhile f).length)
  | [], i, c, h, _ => by simp at h
  | x :: r, 0, c, h, _ => by
    have e : x = c := by simpa using h
    subst e
    rw [List.takeWhile_cons]
    constructor
    · intro z
      rw [if_pos z]
      simp
    · intro z
      rw [if_neg (by rw [z]; decide)]
      rfl
  | x :: r, i + 1, c, h, hi => by
    rw [List.takeWhile_cons] at hi ⊢
    split at hi
    · rename_i hx
      rw [if_pos hx]
      have hi' : i ≤ (r.takeWhile f).length := by simpa using hi
      obtain ⟨h1, h2⟩ := take_at (f := f) (by simpa using h) hi'
      constructor
      · intro z
        have := h1 z
        simpa using this
      · intro z
        have := h2 z
        simpa using this
    · simp at hi
theorem numL_head : ∀ {n : Nat}, (TL.numL n).head? = some 48 → n = 0 := by
  intro n
  induction n using Nat.strongRecOn with
  | _ n ih =>
    intro h
    by_cases hn : n < 10
    · rw [TL.numL_lt hn] at h
      have : 48 + n = 48 := by simpa using h
      omega
    · rw [TL.numL_step (by omega), List.head?_append] at h
      have h0 : (TL.numL (n / 10)).head? = some 48 := by
        cases e : TL.numL (n / 10) with
        | nil => exact absurd e (TL.numL_ne _)
        | cons x r =>
          rw [e] at h
          simpa using h
      have := ih (n / 10) (by omega) h0
      omega
theorem nS_dig (n : Nat) : ∀ c ∈ (nS n).cps.toList, dgC c = true := fun c hc => by
  rw [tl_nS] at hc
  have := TL.numL_digits n c hc
  unfold dgC
  rw [Bool.and_eq_true, decide_eq_true_iff, decide_eq_true_iff]
  exact this
theorem nS_len {n k : Nat} (hk : 0 < k) (h : n < 10 ^ k) : (nS n).length ≤ k := by
  rw [len_cps, tl_nS]
  exact TL.numL_len hk h
theorem nS_pos (n : Nat) : 1 ≤ (nS n).length := by
  rw [len_cps, tl_nS]
  exact List.length_pos_iff.mpr (TL.numL_ne n)
theorem run_nS (n : Nat) : runN (nS n) = (nS n).length := by
  unfold runN
  rw [take_all (nS_dig n), len_cps]
theorem intIn_nS {n : Nat} (h : n < 10 ^ 40) : intIn (nS n) = some n := by
  unfold intIn
  rw [if_pos, tl_nS, TL.numL_val]
  refine ⟨nS_pos n, nS_len (by decide) h, run_nS n, fun z => ?_⟩
  rw [tl_nS] at z
  have z0 := numL_head z.2
  subst z0
  have := nS_len (n := 0) (k := 1) (by decide) (by decide)
  omega
/-- int() of such a text -/
theorem intIn_int {s : Str} {n : Nat} (h : intIn s = some n) : intText? s = some (n : Int) ∧ s.length ≤ 40 := by
  unfold intIn at h
  split at h
  · rename_i hc
    obtain ⟨h1, h2, h3, _⟩ := hc
    have hall : NumText.AllDigits s.cps.toList := fun c hc => by
      have := take_len (f := dgC) (by rw [← len_cps]; exact h3) c hc
      unfold dgC at this
      rw [Bool.and_eq_true, decide_eq_true_iff, decide_eq_true_iff] at this
      exact this
    have hne : s.cps.toList ≠ [] := fun z => by
      rw [len_cps, z] at h1
      simp at h1
    injection h with h
    subst h
    exact ⟨intText_digits hall hne (by omega), h2⟩
  · cases h
/-- the digits at the beginning of words -/
def digL (b : Nat) : List Str → List Nat
  | [] => []
  | w :: r => match intIn w with
    | some d => if d < b then d :: digL b r else []
    | none => []
def digIn (b : Nat) (ws : List Str) : List Nat := digL b (ws.take 400)
theorem digL_app {b : Nat} {w : Str} {r : List Str} (hw : intIn w = none) (hb : b ≤ 1000) : ∀ {ds : List Nat}, (∀ d ∈ ds, d < b) → ∀ k, ds.length ≤ k → digL b ((ds.map nS ++ w :: r).take k) = ds
  | [], _, 0, _ => rfl
  | [], _, k + 1, _ => by
    show (match intIn w with
      | some d => if d < b then d :: digL b (r.take k) else []
      | none => []) = []
    rw [hw]
  | d :: ds, h, 0, hk => by simp at hk
  | d :: ds, h, k + 1, hk => by
    have hd := h d (List.mem_cons_self ..)
    show (match intIn (nS d) with
      | some d' => if d' < b then d' :: digL b ((ds.map nS ++ w :: r).take k) else []
      | none => []) = d :: ds
    rw [intIn_nS (Nat.lt_trans (Nat.lt_of_lt_of_le hd hb) (by decide))]
    show (if d < b then d :: digL b ((ds.map nS ++ w :: r).take k) else []) = _
    rw [if_pos hd, digL_app hw hb (fun x hx => h x (List.mem_cons_of_mem _ hx)) k (by simpa using hk)]
theorem digL_small {b : Nat} : ∀ (ws : List Str), ∀ d ∈ digL b ws, d < b
  | [], d, h => by cases h
  | w :: r, d, h => by
    unfold digL at h
    split at h
    · split at h
      · rename_i hd
        rcases List.mem_cons.mp h with rfl | h
        · exact hd
        · exact digL_small r d h
      · cases h
    · cases h
theorem digL_len {b : Nat} : ∀ (ws : List Str), (digL b ws).length ≤ ws.length
  | [] => Nat.le_refl _
  | w :: r => by
    unfold digL
    split
    · split
      · have := digL_len (b := b) r
        simpa using this
      · exact Nat.zero_le _
    · exact Nat.zero_le _
/-- the text of an expansion -/
def expW (h g : List Nat) : List Str := h.map nS ++ [Str.ofString "("] ++ g.map nS ++ [Str.ofString ")"]
def expS (h g : List Nat) : Str := Txt.join (Str.ofString " ") (expW h g)
theorem no_par : intIn (Str.ofString "(") = none ∧ intIn (Str.ofString ")") = none := by decide +kernel
theorem sp_tl : (Str.ofString " ").cps.toList = [32] := by decide +kernel
theorem split_expS (h g : List Nat) : Txt.split (expS h g) (Str.ofString " ") = expW h g := by
  refine TL.split_join (s := 32) (S := []) sp_tl (by decide +kernel) (by unfold expW; simp) fun p hp => ?_
  unfold expW at hp
  have num : ∀ n : Nat, 32 ∉ TL.tl (nS n) := fun n => by
    show 32 ∉ (nS n).cps.toList
    rw [tl_nS]
    exact TL.numL_free (.inl (by decide))
  have p1 : 32 ∉ TL.tl (Str.ofString "(") := by decide +kernel
  have p2 : 32 ∉ TL.tl (Str.ofString ")") := by decide +kernel
  simp only [List.mem_append, List.mem_map, List.mem_singleton] at hp
  rcases hp with ((⟨n, _, rfl⟩ | rfl) | ⟨n, _, rfl⟩) | rfl
  · exact num n
  · exact p1
  · exact num n
  · exact p2
theorem expW_len (h g : List Nat) : (expW h g).length = h.length + g.length + 2 := by
  unfold expW
  simp
  omega
/-- how long such words are, altogether -/
theorem expW_sum {h g : List Nat} (hh : ∀ d ∈ h, d < 1000) (hg : ∀ d ∈ g, d < 1000) : ((expW h g).map (·.length)).sum ≤ 3 * (expW h g).length := by
  have : ∀ (ws : List Str), (∀ w ∈ ws, w.length ≤ 3) → (ws.map (·.length)).sum ≤ 3 * ws.length := by
    intro ws
    induction ws with
    | nil => intro _; simp
    | cons w r ih =>
      intro hw
      have h1 := hw w (List.mem_cons_self ..)
      have h2 := ih fun x hx => hw x (List.mem_cons_of_mem _ hx)
      simp only [List.map_cons, List.sum_cons, List.length_cons]
      omega
  refine this _ fun w hw => ?_
  unfold expW at hw
  simp only [List.mem_append, List.mem_map, List.mem_singleton] at hw
  rcases hw with ((⟨n, hn, rfl⟩ | rfl) | ⟨n, hn, rfl⟩) | rfl
  · exact nS_len (by decide) (hh n hn)
  · decide +kernel
  · exact nS_len (by decide) (hg n hn)
  · decide +kernel
end Wn
/-! errors of one's own, over any built-in one: made, kept as values, looked at -/
namespace Wn
open PySem PySem.Spec PyProof.Rows L2
/-! the first store to such an error -/
section
open PySem.W PySem.HandSPX Builtin Builtin.ObjectAttr
variable {prog : Program} {w : World} {A : Around} {E : Value → Shared → Prop} {s : Shared} {K : PySem.W.Frag} {C : Addr} {B : String} {bmB : List Value}
theorem osa_one {x t : Addr} {name : Str} {tk : Tok} {v : Value} {R : Result → Shared → Prop} (SF : StoreFacts B bmB "object.__setattr__" "object") (X : K.In s.heap) (hx : s.heap.get? x = some (PySem.W.excObj C t none .none))
    (hp : PySem.W.excOver K C bmB = true) (ht : PySem.W.takerIn K C name = some none) (hh : PySem.W.hasDictIn K C = true)
    (h : ∀ dx h' tk', (∀ b o, b ≠ x → s.heap.get? b = some o → h'.get? b = some o) → s.heap.objs.size ≤ dx → dx ≠ x → h'.get? x = some (PySem.W.excObj C t (some dx) .none) → h'.Ns1 dx (fun y => if y = name then some v else none) → R (.ok (.ret .none)) { s with heap := h', toks := tk' }) :
    codeAny (model prog w) A (.call (.builtin "object.__setattr__") ⟨[.ref x, .str name tk, v], []⟩) R s := by
  have hlt := Heap.lt_size hx
  have hne : s.heap.objs.size ≠ x := Nat.ne_of_gt hlt
  refine osa_openX (od := none) SF X ⟨hx, rfl, rfl, trivial⟩ hp ht fun b => ?_
  obtain ⟨cd, hc, hd⟩ := any_some hh
  refine wpAny_bind (wpAny_pure (wpAny_bind (instanceDict_exc hx (looks_clsIn X hc) hd ?_)))
  have e1 : (s.heap.push (dictOf [] 0)).get? x = some (PySem.W.excObj C t none .none) := Heap.get?_push_of_some _ hx
  obtain ⟨G, hG⟩ : ∃ G, G = (s.heap.push (dictOf [] 0)).update x (fun o => { o with dict := some s.heap.objs.size }) := ⟨_, rfl⟩
  have gx : G.get? x = some (PySem.W.excObj C t (some s.heap.objs.size) .none) := by
    rw [hG]
    exact Heap.get?_update_self _ e1 rfl
  have go : ∀ b, b ≠ x → G.get? b = (s.heap.push (dictOf [] 0)).get? b := fun b hb => by
    rw [hG]
    exact Heap.get?_update_ne _ _ _ _ hb
  have gd : G.Ns s.heap.objs.size (fun _ => none) := by
    refine ⟨_, #[], 0, (go _ hne).trans (Heap.get?_push_size _ rfl), rfl, fun e he => ?_, fun _ => rfl⟩
    exact absurd he (by simp)
  rw [← hG]
  show wpAny (model prog w) A.in1 (storeInDict s.heap.objs.size (.str name tk) name v) _ _ { s with heap := G }
  obtain ⟨hp0, g, d, tt, os⟩ := s
  refine store_in_new gd fun h' tk' hn hs => ?_
  refine h _ h' tk' (fun b o hb e => ?_) (Nat.le_refl _) hne ((hs.2 x hne.symm).trans gx) hn
  have hbs : b ≠ hp0.objs.size := Nat.ne_of_lt (Heap.lt_size e)
  exact (hs.2 b hbs).trans ((go b hb).trans (Heap.get?_push_of_some _ e))
end
/-- what the text says of an error's class: C, over the built-in B, with the field f and its own __init__ at fI -/
structure ErrC (K : PySem.W.Frag) (C fI : Addr) (f : Str) (B newId initId : String) (bmB : List Value) : Prop where
  F : ExcBaseFacts B newId initId bmB
  SF : StoreFacts B bmB "object.__setattr__" "object"
  ini : PySem.W.excInitIn K C bmB newId = true
  ov : PySem.W.excOver K C bmB = true
  hd : PySem.W.hasDictIn K C = true
  sa : PySem.W.findIn K (.ref C) "__setattr__" = some (some (.builtin "object.__setattr__"))
  exC : PySem.W.subIn K (.ref C) (.type "BaseException") = some true
  tyC : PySem.W.typeIn K (.ref C) = some (.type "type")
  kC : PySem.W.keepIn K (.ref C) = true
  tk : PySem.W.takerIn K C f = some none
  no : PySem.W.findIn K (.ref C) f = some none
  iC : PySem.W.findIn K (.ref C) "__init__" = some (some (.ref fI))
  tI : PySem.W.typeIn K (.ref fI) = some (.type "function")
  ga : PySem.W.findIn K (.ref C) "__getattribute__" = some (some (.builtin "BaseException.__getattribute__"))
  gg : PySem.W.findIn K (.ref C) "__getattr__" = some none
  ha : PySem.W.findIn K (.ref C) "__class__" = some (some (.builtin "object.__class__"))
  mr : PySem.W.mroIn K C (.type "object") = some true
section
variable {X : Cx} {pins : List (Addr × Obj)} {σ : L2.St} {H : Hp} {s : Shared} {a C fI dx : Addr} {f : Str} {y : V} {u : Value} {B newId initId : String} {bmB : List Value} {A : Around} {E : Value → Shared → Prop}
theorem ErrC.xf {K : PySem.W.Frag} (T : ErrC K C fI f B newId initId bmB) : XfC K C := ⟨T.ga, T.gg, T.exC, T.hd⟩
/-- self.f = y, the first one -/
theorem ostE {Q : Unit → Shared → Prop} (T : ErrC X.K C fI f B newId initId bmB) (I : Inv X pins σ H s) (e : H a = some (exo a C none)) (ry : RelV y u)
    (h : ∀ dx s', H dx = none → dx ≠ a → Inv X pins σ (upd (upd H dx (exd dx [(f, y)])) a (exo a C (some dx))) s' → Q () s') : wpAny (model X.prog X.w) A (setAttr (.ref a) f u) Q E s := by
  obtain ⟨t1, ho⟩ := exo_at I.hok e
  refine PySem.W.set_plain I.kIn (od := none) ⟨ho, rfl, rfl, trivial⟩ T.sa ?_
  refine osa_one (s := { s with toks := s.toks + 1 }) T.SF I.kIn ho T.ov T.tk T.hd fun d2 G tk2 keep lo ne gx gn => ?_
  have free2 : H d2 = none := I.hok.fresh lo
  have lt2 : ∀ {b : Addr} {o : Obj}, s.heap.get? b = some o → b ≠ d2 := fun z => Nat.ne_of_lt (Nat.lt_of_lt_of_le (Heap.lt_size z) lo)
  have nA : ∀ {b : Addr}, H b = none → b ≠ a := fun z w => by
    rw [w, e] at z
    cases z
  have un : Un X.fs [] H (upd (upd H d2 (exd d2 [(f, y)])) a (exo a C (some d2))) s.heap G := by
    constructor
    · exact fun b o q n _ _ => keep b o (nA n) q
    · exact fun b o q n _ _ => ⟨o.slots, keep b o (nA n) q⟩
    · intro b o q n _
      rw [upd_ne (nA n), upd_ne (lt2 q)]
      exact n
    · intro b o q _
      by_cases w : b = a
      · subst w
        exact ⟨_, gx⟩
      · exact ⟨o, keep b o w q⟩
    · intro b xs q
      rw [upd_ne (at_ne e q exo_tup), upd_ne (ne_of_none q free2)]
      exact q
    · intro b o v q
      rw [upd_ne (at_ne e q exo_frz), upd_ne (ne_of_none q free2)]
      exact q
    · intro b ps q
      refine ⟨#[], ?_⟩
      rw [upd_ne (at_ne e q exo_tbl), upd_ne (ne_of_none q free2), q]
      simp
  refine h d2 _ free2 ne (I.un (t' := tk2) un fun b o q => ?_)
  by_cases w : b = a
  · subst w
    rw [upd_same] at q
    cases q
    exact exo_ok gx
  rw [upd_ne w] at q
  by_cases w2 : b = d2
  · subst w2
    rw [upd_same] at q
    cases q
    exact exd_ok gn (relO_put (fs := []) ry fun g => True.intro)
  rw [upd_ne w2] at q
  refine (I.hok b o q).stay (fun c v hc z => keep c v ?_ z) (fun c hc => ?_) (fun c xs hc => ?_)
  · rcases hc with hc | hc
    · rw [hc]
      exact w
    · exact at_ne e hc exo_own
  · rw [upd_ne (at_ne e hc exo_own), upd_ne (ne_of_none hc free2)]
    exact hc
  · rw [upd_ne (at_ne e hc exo_tup), upd_ne (ne_of_none hc free2)]
    exact hc
/-- the built-in's __init__: nothing of it is told -/
theorem oinitE {us : List Value} {Q : Value → Shared → Prop} (T : ErrC X.K C fI f B newId initId bmB) (I : Inv X pins σ H s) (e : H a = some (exo a C none)) (hl : us.length ≤ sizeLine) (h : ∀ s', Inv X pins σ H s' → Q .none s') :
    wpAny (model X.prog X.w) A (call (.builtin initId) (.ref a :: us)) Q E s := by
  obtain ⟨t1, ho⟩ := exo_at I.hok e
  obtain ⟨nm, N, qn, bs, bm, hdct, sn, sub, ab, col, dd, k0, k1, k2, k3, k5, hC, hT⟩ := PySem.W.excInit_of I.kIn T.ini
  obtain ⟨hp, g, d, t, os⟩ := s
  refine wpAny_call (PySem.HandSPX.init_base T.F hT hC ho hl fun G t2 k gx => ?_)
  have J := I.write (t' := t) (x := a) (e := a) (o := exo a C none) (by rw [e]; exact True.intro) (.inl rfl) k ⟨_, gx⟩ (exo_ok gx)
  rw [show upd H a (exo a C none) = H from funext fun b => by
    by_cases w : b = a
    · rw [w, upd_same, e]
    · rw [upd_ne w]] at J
  exact h _ J
end
/-- W.__init__(self, ..), W one's own class or a built-in one -/
def tInitE (K : PySem.W.Frag) (C : Addr) (ta : TA) : TE := fun σ H Q => ta σ H fun vs H1 => ∃ (a : Addr) (ws : List V), vs = .ref a :: ws ∧ ws.length ≤ 1000 ∧ H1 a = some (exo a C none) ∧ Q .non H1
/-- self.f = e -/
def tOstE (K : PySem.W.Frag) (C : Addr) (f : Str) (to te : TE) : TS := fun D σ H => te σ H fun y H1 => to σ H1 fun x H2 => ∃ a : Addr, x = .ref a ∧ H2 a = some (exo a C none) ∧ ∀ dx, H2 dx = none → dx ≠ a → D.nx σ (upd (upd H2 dx (exd dx [(f, y)])) a (exo a C (some dx)))
section
variable {X : Cx} {o e : Expr} {es : List Expr} {to te : TE} {ta : TA} {f : Str} {p p' p1 p2 pos : Pos} {C fI W : Addr} {B newId initId : String} {bmB : List Value} {mc : Value} {wn : Str}
theorem call_initE {pl : Sem Bool} (T : ErrC X.K C fI f B newId initId bmB) (ha : PA X (e :: es) ta) {pins : List (Addr × Obj)} {s : Shared} {σ : L2.St} {H : Hp} {Q : VK} (I : Inv X pins σ H s) (h : tInitE X.K C ta σ H Q)
    (he : starEach (e :: es) X.env = (false, eval e X.env) :: starEach es X.env := by rfl) (hpl : (backTo pos (starEach es X.env)).any (·.1) = false := by rfl) :
    wpAny (model X.prog X.w) X.A (callWith pos (Value.builtin initId) [] (backTo pos (starEach (e :: es) X.env)) []) (EP X pins σ Q) X.xe s := by
  refine PyProof.Rows.callWith_method1 (thn (ha.run pos pins s σ H _ I h) fun us s1 ⟨vs, H1, I1, r1, a, ws, ev, hl, ea, q⟩ => ?_) he hpl
  subst ev
  cases r1 with
  | @cons _ u0 _ ur ra rw' =>
    obtain rfl : u0 = Value.ref a := ra
    have hlen : ur.length ≤ sizeLine := by
      rw [← Paired.length rw', sizeLine_eq]
      omega
    exact oinitE T I1 ea hlen fun s' J => ⟨.non, H1, J, rfl, q⟩
/-- a class of one's own: its name holds W, whose __init__ is the built-in's -/
theorem pe_initW {pl : Sem Bool} (T : ErrC X.K C fI f B newId initId bmB) (hg : Gl X wn) (hm : X.mg wn = some (.ref W)) (r : ClX.CRead X.K W mc) (at_ : PySem.W.findCls X.K (.ref W) mc "__init__" = some (.val (.builtin initId))) (hh : PySem.W.handedIn (.builtin initId) = true) (ha : PA X (e :: es) ta)
    (hc : eval (.Call (.Attribute (.Name wn p1) "__init__" p2) (e :: es) [] pos) X.env = (do
      let ov ← eval (.Name wn p1) X.env
      standAt p2.atName
      let (f, first) ← holding [ov] (getMethod ov "__init__" pl)
      callWith pos f first (backTo pos (starEach (e :: es) X.env)) (backToKw pos (keywordEach [] X.env))) := by rfl)
    (hdb : (wn == ("__debug__" : Str)) = false := by decide)
    (he : starEach (e :: es) X.env = (false, eval e X.env) :: starEach es X.env := by rfl) (hpl : (backTo pos (starEach es X.env)).any (·.1) = false := by rfl) :
    PE X (.Call (.Attribute (.Name wn p1) "__init__" p2) (e :: es) [] pos) (tInitE X.K C ta) := by
  refine ⟨fun pins s σ H Q I h => ?_⟩
  refine PySem.W.methodCall_KW (ld_glob I hg hm ?_ hdb) hc
  refine PySem.W.method_cls I.kIn r.ga ?_
  refine PySem.W.cls_value I.kIn r.rd at_ hh ?_
  show wpAny _ _ (callWith pos (Value.builtin initId) [] (backTo pos (starEach (e :: es) X.env)) []) _ _ _
  exact call_initE (pl := pl) T ha (I.tok _) h he hpl
end
end Wn
namespace Wn
open PySem PySem.Spec PyProof.Rows L2
/-! C(e): the error made by its own __init__, which keeps sp -/
section
variable {X : Cx} {e : Expr} {es : List Expr} {ta : TA} {f : Str} {p pos : Pos} {C fI : Addr} {B newId initId : String} {bmB : List Value}
theorem pmkE {CX : CXT} {x : Str} {k : Nat} {fd : FuncData} {ps : List Str} {sp : Sp} (T : ErrC X.K C fI f B newId initId bmB) (F1 : FnOk X.prog X.w X.K X.mg X.base CX k fI fd ps sp) (hr : Room (k + 1) X.A) (hb : Binds X.K fd ps []) (hx : Passes CX X (fun _ _ _ => False))
    (hg : Gl X x) (hm : X.mg x = some (.ref C)) (ha : PA X (e :: es) ta)
    (hdb : (x == ("__debug__" : Str)) = false := by decide) (he : starEach (e :: es) X.env = (false, eval e X.env) :: starEach es X.env := by rfl) (hpl : (backTo pos (starEach es X.env)).any (·.1) = false := by rfl) :
    PMk X (.Call (.Name x p) (e :: es) [] pos) (tMkO C sp [] ta) := by
  intro pins s σ H Q I h
  refine wpAny_Call_Name_kw (ld_glob I hg hm ?_ hdb)
  refine PySem.W.callWith_K (h₀ := X.base) I.ok.mod.kin T.kC (thn (ha.run pos pins s σ H _ I h) fun us s1 hh => ?_) he hpl
  obtain ⟨vs, H1, I1, r1, hz, q1⟩ := hh
  refine ⟨I1.kIn, ?_⟩
  show wpAny _ _ (call (.ref C) us) _ _ _
  obtain ⟨nm, N, qn, bs, bm, hdct, sn, sub, ab, col, dd, k0, k1, k2, k3, k5, hC, hT⟩ := PySem.W.excInit_of I1.kIn T.ini
  obtain ⟨h0, g, dr, tk, os⟩ := s1
  obtain ⟨a, haa⟩ : ∃ a, a = h0.objs.size + 1 := ⟨_, rfl⟩
  have lo : h0.objs.size ≤ a := by rw [haa]; exact Nat.le_succ _
  have fresh : H1 a = none := I1.hok.fresh lo
  obtain ⟨G, hG⟩ : ∃ G, G = (h0.push (PySem.W.kdv_tup us)).push (PySem.HandSPX.excO C h0.objs.size) := ⟨_, rfl⟩
  have keep : ∀ b o, h0.get? b = some o → G.get? b = some o := fun b o z => by
    rw [hG]
    exact Heap.get?_push_of_some _ (Heap.get?_push_of_some _ z)
  have gA : G.get? a = some (PySem.HandSPX.excO C h0.objs.size) := by
    rw [hG, haa]
    heap_get
  have I2 : Inv X pins σ (upd H1 a (exo a C none)) ⟨G, g, dr, tk, os⟩ := I1.laid (t' := tk) (a := a) (o := exo a C none) (h' := G) keep lo (exo_ok gA)
  have want := q1 a fresh
  have r2 : Vals (V.ref a :: (vs ++ [])) (Value.ref a :: us) := .cons rfl (by rw [List.append_nil]; exact r1)
  have cnt : (Value.ref a :: us ++ []).length = ps.length := by
    rw [← F1.len _ _ _ _ want, List.append_nil]
    exact r2.length.symm
  have b2 := hb ⟨G, g, dr, tk, os⟩ (Value.ref a :: us) I2.kIn cnt
  rw [List.append_nil] at b2
  have few : us.length ≤ sizeLine := by
    rw [← Paired.length r1, sizeLine_eq]
    omega
  refine wpAny_call (PySem.HandSPX.call_own T.F hT hC (PySem.W.looks_findIn I1.kIn T.iC) (fun self => PySem.W.bind_fn I1.kIn self T.tI) few ?_)
  rw [← hG, ← haa]
  refine codeAny_mono (F1.run _ X.stack _ _ ⟨Value.ref a :: us, []⟩ (Value.ref a :: us) _ _ (fun _ _ _ => False) (hr.make C us []) (I2.env0.make C us []) b2 r2 want) fun r s' back => ?_
  match r, back with
  | .error er, back => exact hx pins σ _ _ er s' I2 back
  | .ok .next, back => exact back.elim
  | .ok .brk, back => exact back.elim
  | .ok .cont, back => exact back.elim
  | .ok (.ret u), back =>
    obtain ⟨v, H2, os2, bare2, un2, hok2, rv, ev, d, fs, ea, ed, hd1, q2⟩ := back
    subst ev
    obtain ⟨h2, g2, d2, t2, os'⟩ := s'
    exact ⟨rv, mk_end (raises_own T.exC T.tyC) I1 lo keep un2 hok2 os2 bare2 ea ed hd1 q2⟩
end
/-! an error kept as a value: its class, its own dict -/
def ExV (cls : Value) (d : Option Addr) (a : Addr) : HO := .ext fun h => ∃ (oe : Obj) (vs : Array Value), h.get? a = some oe ∧ Zc cls d oe ∧ oe.data = .fields vs
theorem exV_ok {P : Program} {w : World} {H : Hp} {h : Heap} {a : Addr} {cls : Value} {d : Option Addr} {oe : Obj} {vs : Array Value} (e : h.get? a = some oe) (z : Zc cls d oe) (hd : oe.data = .fields vs) : ObjOk P w H h a (ExV cls d a) :=
  ⟨⟨oe, vs, e, z, hd⟩, ⟨oe, e⟩, fun _ _ ⟨o, v, q, r⟩ k => ⟨o, v, k o q, r⟩⟩
theorem exV_at {P : Program} {w : World} {H : Hp} {h : Heap} {a : Addr} {cls : Value} {d : Option Addr} (hok : HOk P w H h) (e : H a = some (ExV cls d a)) : ∃ (oe : Obj) (vs : Array Value), h.get? a = some oe ∧ Zc cls d oe ∧ oe.data = .fields vs := by
  have x : ObjOk P w H h a (.ext fun h => ∃ (oe : Obj) (vs : Array Value), h.get? a = some oe ∧ Zc cls d oe ∧ oe.data = .fields vs) := hok a _ e
  exact x.1
section
variable {X : Cx} {pins : List (Addr × Obj)} {σ σ0 : L2.St} {H H0 : Hp} {s s0 : Shared} {a : Addr} {o : HO}
/-- what stands there, and was not there before, is tracked from now on -/
theorem track (I : Inv X pins σ H s) (I0 : Inv X pins σ0 H0 s0) (n0 : s0.heap.get? a = none) (hn : H a = none) (new : ObjOk X.prog X.w (upd H a o) s.heap a o) : Inv X pins σ (upd H a o) s := by
  have nb : ∀ {b : Addr} {u : Obj}, s0.heap.get? b = some u → b ≠ a := fun z w => by
    rw [w, n0] at z
    cases z
  have nt : ∀ {b : Addr} {u : HO}, H b = some u → b ≠ a := fun z => ne_of_none z hn
  refine ⟨I.ok, I.os, I.bare, ⟨I.base.keep, I.base.slot, fun b u z n hx => ?_, I.base.there, fun b xs z => ?_, fun b u v z => ?_, fun b ps z => ?_⟩, I.loc, I.cell, ?_, fun x c z => ?_, fun p hp => ?_, fun b u z => ?_, I.len⟩
  · obtain ⟨u', z'⟩ := I0.base.there b u z hx
    rw [upd_ne (nb z')]
    exact I.base.free b u z n hx
  · have := I.base.tups b xs z
    rw [upd_ne (nt this)]
    exact this
  · have := I.base.frzs b u v z
    rw [upd_ne (nt this)]
    exact this
  · obtain ⟨more, this⟩ := I.base.tbls b ps z
    exact ⟨more, by rw [upd_ne (nt this)]; exact this⟩
  · obtain ⟨m, hm, _⟩ := I0.loc
    obtain ⟨ob, _, _, e, _⟩ := hm
    rw [upd_ne (nb e)]
    exact I.free
  · obtain ⟨v, ob, e, _⟩ := I0.cell x c z
    rw [upd_ne (nb e)]
    exact I.freeC x c z
  · obtain ⟨h1, h2, h3⟩ := I.pin p hp
    exact ⟨h1, by rw [upd_ne (nb (I0.pin p hp).1)]; exact h2, h3⟩
  · by_cases w : b = a
    · subst w
      rw [upd_same] at z
      cases z
      exact new
    · rw [upd_ne w] at z
      exact (I.hok b u z).stay (fun c v hc q => q) (fun c hc => by rw [upd_ne (nt hc)]; exact hc) fun c xs hc => by rw [upd_ne (nt hc)]; exact hc
end
/-- C(e) as a value -/
def tVal (t : L2.St → Hp → XK → Prop) : TE := fun σ H Q => t σ H fun cls d H' => ∀ a, H' a = none → Q (.ref a) (upd H' a (ExV cls d a))
theorem pe_mkV {X : Cx} {e : Expr} {t : L2.St → Hp → XK → Prop} (he : PMk X e t) : PE X e (tVal t) := by
  refine ⟨fun pins s σ H Q I h => thn (he pins s σ H _ I h) fun u s1 hh => ?_⟩
  obtain ⟨a, oe, vs, sI, H', cls, d, eu, J, keep, n0, ha, hz, hd, h1, na, os, ag, r, q⟩ := hh
  have J1 := J.landed (B := sI.heap) (fun _ _ z _ => z) keep (Heap.UpToSlots.of_keeps keep) os ag
  subst eu
  exact ⟨.ref a, _, track J1 J n0 na (exV_ok ha hz hd), rfl, q a na⟩
/-! its field, its class -/
def tFldE (K : PySem.W.Frag) (f : Str) (te : TE) : TE := fun σ H Q => te σ H fun x H1 => ∃ (a C d : Addr) (fs : List (Str × V)) (v : V), x = .ref a ∧ XfC K C ∧ PySem.W.findIn K (.ref C) f = some none ∧ H1 a = some (ExV (.ref C) (some d) a) ∧ H1 d = some (.xd fs) ∧ fs.lookup f = some v ∧ Q v H1
theorem pe_fldE {X : Cx} {e : Expr} {te : TE} {pos : Pos} {n : Str} (he : PE X e te) (hb : attributeBase e n X.env (eval e X.env) = eval e X.env := by rfl) : PE X (.Attribute e n pos) (tFldE X.K n te) := by
  refine ⟨fun pins s σ H Q I h => attr_of hb (thn (he.run pins s σ H _ I h) fun u s1 hh => ?_)⟩
  obtain ⟨x, H1, I1, rx, a, C, d, fs, v, ex, T, hno, ea, ed, l, q⟩ := hh
  subst ex
  obtain rfl : u = Value.ref a := rx
  obtain ⟨oe, vs, ha, hz, hd⟩ := exV_at I1.hok ea
  have hx : ObjOk X.prog X.w H1 s1.heap d (.xd fs) := I1.hok d _ ed
  obtain ⟨mA, hns, hr⟩ := hx
  obtain ⟨od, ho, hl⟩ := lookIn_ns hns
  obtain ⟨u, hu, ru⟩ := RelO.some_of (v := v) (o := mA n) (by rw [← l]; exact hr n)
  have J : PySem.W.InstAt s1.heap a oe C (some od) := by
    refine ⟨ha, hz.1, ?_, ?_⟩
    · unfold PySem.W.notCls
      rw [hd]
    · rw [hz.2]
      exact ho
  exact PySem.HandSPX.exc_get I1.kIn J T.ga T.gg T.exC (PySem.W.findObj_own T.hdC hno rfl (by rw [hl, hu])) (handed_of ru) ⟨v, H1, I1.tok _, ru, q⟩
end Wn
/-! errors caught and kept; isinstance of such -/
namespace Wn
open PySem PySem.Spec PyProof.Rows L2
/-- what isinstance asks of the class C of an error -/
structure IsC (K : PySem.W.Frag) (C : Addr) : Prop where
  cl : (PySem.W.clsIn K C).isSome = true
  ga : PySem.W.findIn K (.ref C) "__getattribute__" = some (some (.builtin "BaseException.__getattribute__"))
  gg : PySem.W.findIn K (.ref C) "__getattr__" = some none
  exC : PySem.W.subIn K (.ref C) (.type "BaseException") = some true
  ha : PySem.W.findIn K (.ref C) "__class__" = some (some (.builtin "object.__class__"))
  hn : PySem.W.specialIn K (.builtin "object.__class__") "__get__" = some (some (.builtin "getset_descriptor.__get__"))
  ht : PySem.W.takesIn K (.builtin "object.__class__") = some true
  mr : PySem.W.mroIn K C (.type "object") = some true
def rIsV (K : PySem.W.Frag) : List V → Hp → VK → Prop := fun xs H Q => ∃ (a C d : Addr) (fs : List (Str × V)) (c : V) (cv : Value) (b : Bool), xs = [.ref a, c] ∧ IsC K C ∧ H a = some (ExV (.ref C) (some d) a) ∧ H d = some (.xd fs) ∧ (∀ u, RelV c u → u = cv) ∧ PySem.W.kitOne K (.ref C) cv = some b ∧ Q (.bl b) H
theorem call_isV {X : Cx} : CallR X (.builtin "isinstance") (rIsV X.K) := by
  intro pins s σ H xs us Q I r h
  obtain ⟨a, C, d, fs, c, cv, b, rfl, T, ea, ed, hcv, e, q⟩ := h
  obtain ⟨oe, vs, ha, hz, hd⟩ := exV_at I.hok ea
  have hx : ObjOk X.prog X.w H s.heap d (.xd fs) := I.hok d _ ed
  obtain ⟨mA, hns, hr⟩ := hx
  obtain ⟨od, ho, hl⟩ := lookIn_ns hns
  have J : PySem.W.InstAt s.heap a oe C (some od) := by
    refine ⟨ha, hz.1, ?_, ?_⟩
    · unfold PySem.W.notCls
      rw [hd]
    · rw [hz.2]
      exact ho
  cases r with
  | cons rx rr =>
    cases rr with
    | cons rt rr =>
      cases rr
      cases rx
      have ec := hcv _ rt
      subst ec
      exact PySem.W.kia_one (PySem.W.kitx_exc T.cl T.ga T.gg T.exC T.ha T.hn T.ht T.mr) I.kIn J e (fun z => nomatch z) fun tk => ⟨.bl b, H, I.kept (t' := tk) fun _ _ z => z, rfl, q⟩
/-! try: body, except (A, B, C) as n: m = n; what was caught is kept in m -/
/-- what the three names of a tuple of classes hold -/
structure Names3 (X : Cx) (x1 x2 x3 : Str) (c1 c2 c3 : Addr) : Prop where
  n1 : Gl X x1 ∧ (x1 == ("__debug__" : Str)) = false ∧ X.mg x1 = some (.ref c1)
  n2 : Gl X x2 ∧ (x2 == ("__debug__" : Str)) = false ∧ X.mg x2 = some (.ref c2)
  n3 : Gl X x3 ∧ (x3 == ("__debug__" : Str)) = false ∧ X.mg x3 = some (.ref c3)
def wKeep (K : PySem.W.Frag) (cs : List Value) (i j : Nat) (D : Ends) : WX := fun cls d σ H =>
  PySem.W.exmAny K cls cs = some true ∧ ∀ a, H a = none → D.nx ((σ.set j (some (.ref a))).set i none) (upd H a (ExV cls d a))
theorem flying_keep {B h h' : Heap} {l : List Env} {a : Addr} {Z : Obj → Prop} (k : ∀ b o, h.get? b = some o → h'.get? b = some o) (f : PySem.HandSPX.FlyingZ B l a Z h) : PySem.HandSPX.FlyingZ B l a Z h' := by
  obtain ⟨f1, f2, f3, oe, vs, T, oT, ts, e1, e2, e3, e4, e5, e6, e7, e8, e9⟩ := f
  exact ⟨fun b o z => k b o (f1 b o z), f2, Heap.FunFrames.of_keeps (fun b o z _ => ⟨o, k b o z, rfl⟩) f3, oe, vs, T, oT, ts, k _ _ e1, e2, e3, e4, e5, e6, k _ _ e7, e8, e9⟩
section
variable {X : Cx} {x1 x2 x3 n m : Str} {c1 c2 c3 : Addr} {i j : Nat} {body : List Stmt} {q1 q2 q3 qt qm qn pa pos pos' : Pos} {kt : Nat} {tb : WX → TS}
theorem ps_try_keep (hs : X.stack = X.env :: X.outer) (hf : X.env.frame = some X.env.locals) (hN : X.N.Nodup) (hi : X.N[i]? = some n) (hj : X.N[j]? = some m) (hij : i ≠ j) (hln : X.env.kindOf n = some .local) (hlm : X.env.kindOf m = some .local) (hc : Names3 X x1 x2 x3 c1 c2 c3)
    (hb : ∀ (W : WX) (pn : List (Addr × Obj)) (xe : Value → Shared → Prop), Takes (X.tr pn xe) W → PassesOwn (model X.prog X.w) X.A X.env xe → PSs (X.tr pn xe) body (tb W))
    (hsw : swapsWith (.Name n qn) (some (.Name m qm)) pa.line X.env = pure false := by rfl) (hdn : (n == ("__debug__" : Str)) = false := by decide) (hcn : (n == ("__classdict__" : Str)) = false := by decide) :
    PS X (.Try body [.ExceptHandler (some (.Tuple [.Name x1 q1, .Name x2 q2, .Name x3 q3] kt qt)) (some n) [.Assign [.Name m qm] (.Name n qn) pa] pos'] [] [] pos) (fun D σ H => tb (wKeep X.K [.ref c1, .ref c2, .ref c3] i j D) D σ H) := by
  refine ⟨fun pins s σ H D I h => ?_⟩
  have ok := I.ok
  have hfr : X.A.frames = some (X.env :: X.outer) := by rw [ok.frames, hs]
  have hloc : Loc X.env.scope n := .inl hln
  have hlocm : Loc X.env.scope m := .inl hlm
  refine wpAny_Try_except ?_
  refine wpAny_mono ((hb (wKeep X.K [.ref c1, .ref c2, .ref c3] i j D) (X.pn ++ pins) (fun e s₁ => wpAny (model X.prog X.w) X.A (noteFrame e X.env) (fun _ s₂ => wpAny (model X.prog X.w) X.A (setFlight e none) (fun _ s₃ =>
    wpAny (model X.prog X.w) X.A (handleBy e X.env [.ExceptHandler (some (.Tuple [.Name x1 q1, .Name x2 q2, .Name x3 q3] kt qt)) (some n) [.Assign [.Name m qm] (.Name n qn) pa] pos']) (SP X pins D) X.xe s₃) X.xe s₂) X.xe s₁) (fun u s' xx => ?_) PassesOwn.looking).run [] s σ H D (I.toTry _) h) (fun f s1 hsp => ?_) (fun e s1 he => he)
  · obtain ⟨a, B, sI, pins', σ', H', cls, d, rfl, J', nb, up, sky, na, os, ag, hb1, hyes⟩ := xx
    have J : Inv X pins σ' H' sI := J'.ofTry ok
    have sky2 : Sky B (X.env :: X.outer) a (Zc cls d) X.env.locals s'.heap := by
      rw [← hs]
      exact sky
    show wpAny (model X.prog X.w) X.A (noteFrame (.ref a) X.env) _ _ _
    refine Sky.land Zc.steady hfr hf sky2 fun h3 fl3 up3 => ?_
    have J3 : Inv X pins σ' H' { s' with heap := h3 } := J.landed nb fl3.1 (up.trans up3) os ag
    obtain ⟨oe3, vs3, he3, hz3, hd3⟩ := fl3.there
    have nfr : a ∉ frs (X.env :: X.outer) := fun hm => by
      obtain ⟨_, o', e', hnf⟩ := fl3.2.2.1.mem hm
      rw [he3] at e'
      cases e'
      exact hnf _ hd3
    have nL : a ≠ X.env.locals := fun z => nfr (List.mem_filterMap.mpr ⟨X.env, List.mem_cons_self, by rw [hf, z]⟩)
    have nF : a ∉ X.fs := fun hm => by
      obtain ⟨e, he, q⟩ := List.mem_filterMap.mp hm
      exact nfr (List.mem_filterMap.mpr ⟨e, List.mem_cons_of_mem _ he, q⟩)
    have n0 : sI.heap.get? a = none := by
      cases z : sI.heap.get? a with
      | none => rfl
      | some o =>
        have := nb a o z (by rw [hs]; exact nfr)
        rw [fl3.2.1] at this
        cases this
    have S3 := J3.suite he3 hd3 na nL nF
    refine wpAny_handleBy_cons (codeAny_handlers_test ?_) (by intro q; cases q)
    have LT : PySem.W.Looks (model X.prog X.w) h3 (typeOf (.ref a)) cls := fun A Q E s k q => wpAny_typeOf_ref (k _ _ he3) (by rw [hz3.1]; exact q)
    refine wpAny_Tuple ?_
    refine wpAny_items_cons (ld_glob (X := X.suite a ((a, oe3) :: (X.pn ++ pins))) S3 hc.n1.1 hc.n1.2.2 ?_ hc.n1.2.1)
    refine wpAny_items_cons (ld_glob (X := X.suite a ((a, oe3) :: (X.pn ++ pins))) S3 hc.n2.1 hc.n2.2.2 ?_ hc.n2.2.1)
    refine wpAny_items_cons (ld_glob (X := X.suite a ((a, oe3) :: (X.pn ++ pins))) S3 hc.n3.1 hc.n3.2.2 ?_ hc.n3.2.1)
    refine wpAny_items_nil ⟨by size_fits, ?_⟩
    obtain ⟨G, hG⟩ : ∃ G, G = h3.push { cls := .type "tuple", data := .seq [.ref c1, .ref c2, .ref c3].toArray } := ⟨_, rfl⟩
    have kp : ∀ b o, h3.get? b = some o → G.get? b = some o := fun _ _ z => by
      rw [hG]
      exact Heap.get?_push_of_some _ z
    have gt : G.get? h3.objs.size = some { cls := .type "tuple", data := .seq [.ref c1, .ref c2, .ref c3].toArray } := by
      rw [hG]
      exact Heap.get?_push_size h3 rfl
    rw [← hG]
    refine (PySem.W.exm_tup3 (M := model X.prog X.w) (J3.kIn.keeps kp) (LT.keeps kp) gt hb1).here ?_
    have fl4 := flying_keep kp fl3
    have upG : h3.UpToSlots G := Heap.UpToSlots.of_keeps kp
    refine codeAny_handlers_suite_as ?_
    refine PySem.HandSPX.lands_againZ fl4 fun h4 fl5 up4 => ?_
    have J4 : Inv X pins σ' H' { s' with heap := h4 } := J.landed nb fl5.1 (((up.trans up3).trans upG).trans up4) os ag
    obtain ⟨oe4, vs4, he4, hz4, hd4⟩ := fl5.there
    have S4 := J4.suite he4 hd4 na nL nF
    refine store_ok (X := X.suite a ((a, oe4) :: (X.pn ++ pins))) (v := .ref a) S4 hN hi hloc rfl (fun s5 S5 => ?_) (.inr hln)
    have hp : PSs (X.suite a ((a, oe4) :: (X.pn ++ pins))) [.Assign [.Name m qm] (.Name n qn) pa] (tSeq (tAsg (tVar i) (gName j)) tNext) :=
      pss_cons (ps_set (X := X.suite a ((a, oe4) :: (X.pn ++ pins))) hN hj hlocm (pe_var (X := X.suite a ((a, oe4) :: (X.pn ++ pins))) hi (.inl hln) hdn hcn) hsw (.inr hlm)) pss_nil
    have hlen : i < σ'.length := by
      rw [J4.len]
      exact (List.getElem?_eq_some_iff.mp hi).1
    refine wpAny_mono (hp.run [] s5 _ H' { nx := fun σ6 H6 => H6 = H' ∧ σ6 = (σ'.set i (some (.ref a))).set j (some (.ref a)), rt := fun _ _ => False } S5 ⟨_, List.getElem?_set_self hlen, rfl, rfl⟩) (fun f s6 hsp => ?_) (fun _ _ z => False.elim z)
    cases f with
    | next =>
      obtain ⟨σ6, H6, S6, rfl, rfl⟩ := hsp
      have gA := (S6.pin (a, oe4) (List.mem_append_left _ List.mem_cons_self)).1
      have J6 := track (S6.unsuite ok) J n0 na (exV_ok (cls := cls) (d := d) gA hz4 hd4)
      refine gone_ok J6 hN hi hln fun s7 J7 => ⟨_, _, J7, ?_⟩
      have e1 : (((σ'.set i (some (V.ref a))).set j (some (V.ref a))).set i none) = ((σ'.set j (some (V.ref a))).set i none) := by
        rw [List.set_comm _ _ hij, List.set_set]
      rw [e1]
      exact hyes a na
    | brk =>
      obtain ⟨_, _, _, z⟩ := hsp
      exact False.elim z
    | cont =>
      obtain ⟨_, _, _, z⟩ := hsp
      exact False.elim z
    | ret u =>
      obtain ⟨_, _, _, _, _, z⟩ := hsp
      exact False.elim z
  · cases f with
    | next =>
      obtain ⟨σ', H', J', q⟩ := hsp
      exact wpAny_execs_nil ⟨σ', H', J'.ofTry ok, q⟩
    | brk =>
      obtain ⟨σ', H', J', q⟩ := hsp
      exact ⟨σ', H', J'.ofTry ok, q⟩
    | cont =>
      obtain ⟨σ', H', J', q⟩ := hsp
      exact ⟨σ', H', J'.ofTry ok, q⟩
    | ret u =>
      obtain ⟨v, σ', H', J', r, q⟩ := hsp
      exact ⟨v, σ', H', J'.ofTry ok, r, q⟩
end
end Wn
/-! a lambda handed to a def that calls it, without a parameter or with one that has a written default -/
namespace Wn
open PySem PySem.Spec PyProof.Rows L2 LamX
def clos (X : Cx) (scope : Scope) : List (Str × Addr) := cloFrom X.env.cells scope.names []
abbrev lamO (X : Cx) (params : Arguments) (body : Expr) (scope : Scope) (dV doc pm : Value) (c' : Addr) (ctv : Value) : Obj :=
  PySem.W.kdv_obj "<lambda>" (X.env.qual ++ "<lambda>") params (.expr body) scope (clos X scope) dV doc pm c' ctv
/-- the lambda's names: no cell of its own; its own parameter is no name of the def around -/
structure LamD (N : List Str) (sc scope : Scope) : Prop where
  kind : scope.kind = .function
  co : scope.isCoroutine = false
  gen : scope.isGenerator = false
  own : ∀ y ∈ scope.names, y.2 ≠ .cell ∧ (y.2 = .local → y.1 ∉ N)
  free : ∀ y ∈ scope.names, y.2 = .free → sc.names.lookup y.1 = some .cell ∨ sc.names.lookup y.1 = some .free
def lamDB (N : List Str) (sc scope : Scope) : Bool :=
  decide (scope.kind = .function) && !scope.isCoroutine && !scope.isGenerator && scope.names.all fun y => !decide (y.2 = .cell) && (!decide (y.2 = .local) || !decide (y.1 ∈ N)) && (!decide (y.2 = .free) || decide (sc.names.lookup y.1 = some .cell) || decide (sc.names.lookup y.1 = some .free))
theorem lamD_by {N : List Str} {sc scope : Scope} (h : lamDB N sc scope = true) : LamD N sc scope := by
  unfold lamDB at h
  simp only [Bool.and_eq_true, Bool.or_eq_true, Bool.not_eq_true', decide_eq_true_eq, decide_eq_false_iff_not, List.all_eq_true] at h
  obtain ⟨⟨⟨h1, h2⟩, h3⟩, h4⟩ := h
  refine ⟨h1, h2, h3, fun y hy => ⟨(h4 y hy).1.1, fun e => ?_⟩, fun y hy e => ?_⟩
  · rcases (h4 y hy).1.2 with z | z
    · exact absurd e z
    · exact z
  · rcases (h4 y hy).2 with (z | z) | z
    · exact absurd e z
    · exact .inl z
    · exact .inr z
theorem LamD.has {X : Cx} {scope : Scope} (L : LamD X.N X.env.scope scope) (ok : X.Ok) : ∀ y ∈ scope.names, y.2 = .free → ∃ c, X.env.cells.lookup y.1 = some c := fun y hy e =>
  (L.free y hy e).elim (fun k => ok.has _ (.inl k)) (fun k => ok.has _ (.inr k))
section
variable {X : Cx} {pins : List (Addr × Obj)} {σ : L2.St} {H : Hp} {s : Shared}
/-- the function is made: its code object is new, or found in the table -/
theorem mk_tail {M : Model} {A : Around} {T : List (Addr × Str)} {c P : Addr} {params : Arguments} {body : Expr} {scope : Scope} {pos : Pos} {dV : Value} {E : Value → Shared → Prop} {Q : Value → Shared → Prop} (I : Inv X pins σ H s) (TB : TabB X.base X.mg c P) (hcode : X.env.code = .ref c)
    (hm : (P, X.env.qual ++ "<lambda>") ∈ T) (hu : ∀ p ∈ T, p.1 = P → p.2 = X.env.qual ++ "<lambda>") (hT : Tabs T H) (hfree : ∀ y ∈ scope.names, y.2 = .free → ∃ c, X.env.cells.lookup y.1 = some c)
    (h : ∀ (f c' : Addr) (doc pm ctv : Value) (H1 : Hp) (s' : Shared), Inv X pins σ H1 s' → ExtN H H1 → Tabs T H1 → (∀ b o, b ≠ P → s.heap.get? b = some o → s'.heap.get? b = some o) → (∀ b, H b = none → b < s.heap.objs.size → H1 b = none) →
      s'.heap.get? f = some (lamO X params body scope dV doc pm c' ctv) → H1 f = none → f ∉ frs X.stack → H1 c' = some (CodeO c' (X.env.qual ++ "<lambda>")) → Q (.ref f) s') :
    wpAny M A (makeTail "<lambda>" (X.env.qual ++ "<lambda>") params (.expr body) scope X.env dV .none none pos pos.line) Q E s := by
  obtain ⟨ps, hP, ht, ha⟩ := hT _ hm
  have bP : s.heap.BuiltinsAt X.mg P := TB.bm.keeps I.bk
  have gP : s.heap.get? P = some { cls := .none, data := .fields ps } := I.hok P _ hP
  have off : ∀ f, s.heap.objs.size ≤ f → f ∉ frs X.stack := fun f hf z => by
    rcases List.mem_cons.mp (I.stkSub _ z) with e | e
    · have h1 := I.lt
      rw [← e] at h1
      exact Nat.lt_irrefl _ (Nat.lt_of_lt_of_le h1 hf)
    · exact I.nofs hf e
  cases hc : codeAmong pos ps.toList with
  | some cv =>
    obtain ⟨c', e, hco⟩ := ha pos cv hc
    subst e
    refine PySem.W.kdv_makeTailHit (mg := X.mg) (c := c) (P := P) (ps := ps) (closure_ok hfree) I.ok.glob (I.mod.glob.keeps I.bk) hcode (TB.code.keeps I.bk) gP ht hc bP fun ctv doc h' tk hx hsz => ?_
    have I1 : Inv X pins σ H { s with heap := h'.push (lamO X params body scope dV doc ((X.mg "__name__").getD .none) c' ctv), toks := tk } := I.kept fun b o e => Heap.get?_push_of_some _ (hx b o e)
    exact h h'.objs.size c' doc ((X.mg "__name__").getD .none) ctv H _ I1 (ExtN.refl H) hT (fun b o _ e => Heap.get?_push_of_some _ (hx b o e)) (fun b z _ => z) (Heap.get?_push_size _ rfl) (I.hok.fresh hsz) (off _ hsz) hco
  | none =>
    refine PySem.W.kdv_makeTail (mg := X.mg) (c := c) (P := P) (ps := ps) (closure_ok hfree) I.ok.glob (I.mod.glob.keeps I.bk) hcode (TB.code.keeps I.bk) gP ht hc TB.gP bP fun c' ctv doc h' tk hx hge hlt hrec htb => ?_
    obtain ⟨c2, oc, vs, t, e2, hoc, hd, hv⟩ := hrec
    cases e2
    have grow : s.heap.objs.size ≤ h'.objs.size := Nat.le_trans hge (Nat.le_of_lt hlt)
    have nC : H c' = none := I.hok.fresh hge
    obtain ⟨F0, hF0⟩ : ∃ F0, F0 = lamO X params body scope dV doc ((X.mg "__name__").getD .none) c' ctv := ⟨_, rfl⟩
    have I1 := inv_table (t' := tk) (more := #[rawInt pos.line, rawInt pos.col, .ref c']) (h' := h'.push F0) I hP
      (fun b o hb e => Heap.get?_push_of_some _ (hx b o hb e)) (Heap.get?_push_of_some _ htb) hge ⟨oc, vs, t, Heap.get?_push_of_some _ hoc, hd, hv⟩
    have far : ∀ {b : Addr} {o : HO}, H b = some o → (∀ ps, o ≠ .tbl ps) → b ≠ P := fun e n z => by
      rw [z, hP] at e
      exact n ps (Option.some.inj e).symm
    have ext : ExtN H (upd (upd H P (.tbl (ps ++ #[rawInt pos.line, rawInt pos.col, .ref c']))) c' (CodeO c' (X.env.qual ++ "<lambda>"))) := fun b o e n => by
      rw [upd_ne (ne_of_none e nC), upd_ne (far e n)]
      exact e
    have lst : (ps ++ #[rawInt pos.line, rawInt pos.col, .ref c']).toList = ps.toList ++ [rawInt pos.line, rawInt pos.col, .ref c'] := by simp
    subst hF0
    refine h h'.objs.size c' doc ((X.mg "__name__").getD .none) ctv _ _ I1 ext (fun p hp => ?_) (fun b o hb e => Heap.get?_push_of_some _ (hx b o hb e)) (fun b z lt => ?_) (Heap.get?_push_size _ rfl) ?_ (off _ grow) upd_same
    · by_cases hb : p.1 = P
      · rw [hu p hp hb, hb]
        refine ⟨_, by rw [upd_ne (ne_of_none hP nC), upd_same], by rw [lst]; exact PySem.TriplesOk_snoc _ _ _ _ ht, fun p' cv hcv => ?_⟩
        rw [lst] at hcv
        rcases among_app _ ht hcv with z | z
        · obtain ⟨c0, e1, e2⟩ := ha p' cv z
          exact ⟨c0, e1, ext _ _ e2 codeO_ne⟩
        · exact ⟨c', z, upd_same⟩
      · obtain ⟨ps', a1, a2, a3⟩ := hT p hp
        refine ⟨ps', by rw [upd_ne (ne_of_none a1 nC), upd_ne hb]; exact a1, a2, fun p' cv hcv => ?_⟩
        obtain ⟨c0, e1, e2⟩ := a3 p' cv hcv
        exact ⟨c0, e1, ext _ _ e2 codeO_ne⟩
    · have n1 : b ≠ c' := Nat.ne_of_lt (Nat.lt_of_lt_of_le lt hge)
      have n2 : b ≠ P := fun w => by
        rw [w, hP] at z
        cases z
      rw [upd_ne n1, upd_ne n2]
      exact z
    · have n1 : h'.objs.size ≠ c' := Nat.ne_of_gt hlt
      have n2 : h'.objs.size ≠ P := Nat.ne_of_gt (Nat.lt_of_lt_of_le (Heap.lt_size gP) grow)
      rw [upd_ne n1, upd_ne n2]
      exact I.hok.fresh grow
/-- what is made of the lambda: objects that stay, the function at f among them -/
structure Made (X : Cx) (H1 : Hp) (s' : Shared) (params : Arguments) (body : Expr) (scope : Scope) (f c' : Addr) (dV doc pm ctv : Value) (D : List (Addr × Obj)) : Prop where
  at_ : (f, lamO X params body scope dV doc pm c' ctv) ∈ D
  there : ∀ p ∈ D, s'.heap.get? p.1 = some p.2 ∧ H1 p.1 = none ∧ p.1 ∉ frs X.stack
  code : H1 c' = some (CodeO c' (X.env.qual ++ "<lambda>"))
  binds : ∃ bs : List (Str × Value), (∀ s2 : Shared, (∀ p ∈ D, s2.heap.get? p.1 = some p.2) → BindsTo s2 (PySem.W.kdv_fn "<lambda>" (X.env.qual ++ "<lambda>") params (.expr body) scope (clos X scope) dV doc pm (.ref c') ctv) ⟨[], []⟩ bs) ∧ ∀ y ∈ bs, scope.names.lookup y.1 = some .local
/-- lambda: e -/
theorem lam_plain {T : List (Addr × Str)} {c P : Addr} {params : Arguments} {body : Expr} {scope : Scope} {pos : Pos} {E : Value → Shared → Prop} {Q : Value → Shared → Prop} (I : Inv X pins σ H s) (TB : TabB X.base X.mg c P) (hcode : X.env.code = .ref c)
    (hm : (P, X.env.qual ++ "<lambda>") ∈ T) (hu : ∀ p ∈ T, p.1 = P → p.2 = X.env.qual ++ "<lambda>") (hT : Tabs T H) (hdef : defaultsOf params X.env = ([], [])) (hfree : ∀ y ∈ scope.names, y.2 = .free → ∃ c, X.env.cells.lookup y.1 = some c)
    (hbind : ∀ (q : Str) (cl : List (Str × Addr)) (doc pm cv ctv : Value), bindArgs (PySem.W.kdv_fn "<lambda>" q params (.expr body) scope cl .none doc pm cv ctv) ⟨[], []⟩ = pure [])
    (h : ∀ (f c' : Addr) (dV doc pm ctv : Value) (D : List (Addr × Obj)) (H1 : Hp) (s' : Shared), Inv X pins σ H1 s' → ExtN H H1 → Tabs T H1 → Made X H1 s' params body scope f c' dV doc pm ctv D → Q (.ref f) s') :
    wpAny (model X.prog X.w) X.A (eval (.Lambda params body scope pos) X.env) Q E s := by
  refine PySem.W.kla_eval hdef ?_
  rw [makeFunction_eq]
  simp only [List.zip_nil_right, List.filterMap_nil, List.isEmpty_nil, if_true, pure_bind]
  refine mk_tail I TB hcode hm hu hT hfree fun f c' doc pm ctv H1 s' I1 eN T1 _ _ hf hfn hfr hco => ?_
  refine h f c' .none doc pm ctv [(f, lamO X params body scope .none doc pm c' ctv)] H1 s' I1 eN T1 ⟨List.mem_cons_self, fun p hp => ?_, hco, [], fun s2 _ => .of_eq (hbind _ _ _ _ _ _), fun y hy => absurd hy (by simp)⟩
  rw [List.mem_singleton] at hp
  subst hp
  exact ⟨hf, hfn, hfr⟩
/-- lambda a=0: e -/
theorem lam_dflt {T : List (Addr × Str)} {c P : Addr} {params : Arguments} {body : Expr} {scope : Scope} {pos p0 : Pos} {j0 : Nat} {n : Int} {x : Str} {E : Value → Shared → Prop} {Q : Value → Shared → Prop} (I : Inv X pins σ H s) (TB : TabB X.base X.mg c P) (hcode : X.env.code = .ref c)
    (hm : (P, X.env.qual ++ "<lambda>") ∈ T) (hu : ∀ p ∈ T, p.1 = P → p.2 = X.env.qual ++ "<lambda>") (hT : Tabs T H) (hkw : params.kwonlyargs = []) (hdef : defaultsOf params X.env = ([eval (.Constant (.int n) j0 p0) X.env], [])) (hfree : ∀ y ∈ scope.names, y.2 = .free → ∃ c, X.env.cells.lookup y.1 = some c)
    (hbind : ∀ (q : Str) (cl : List (Str × Addr)) (T0 : Addr) (doc pm cv ctv v : Value), ∃ k, bindArgs (PySem.W.kdv_fn "<lambda>" q params (.expr body) scope cl (.ref T0) doc pm cv ctv) ⟨[], []⟩ = seqItems? (.ref T0) >>= k ∧ k (some #[v]) = pure [(x, v)]) (hloc : scope.names.lookup x = some .local)
    (hE : ∀ e s, X.xe e s → E e s)
    (h : ∀ (f c' : Addr) (dV doc pm ctv : Value) (D : List (Addr × Obj)) (H1 : Hp) (s' : Shared), Inv X pins σ H1 s' → ExtN H H1 → Tabs T H1 → Made X H1 s' params body scope f c' dV doc pm ctv D → Q (.ref f) s') :
    wpAny (model X.prog X.w) X.A (eval (.Lambda params body scope pos) X.env) Q E s := by
  rw [arm_eval_Lambda, hdef]
  show wpAny _ _ (do let dv ← evalAll [eval (.Constant (.int n) j0 p0) X.env]; let kdv ← holding dv (evalAllOpt []); makeFunction "<lambda>" (X.env.qual ++ "<lambda>") params (.expr body) scope X.env dv kdv [] pos pos.line) Q E s
  have hc : PE X (.Constant (.int n) j0 p0) (tC (.int n)) := pe_int
  refine wpAny_bind ?_
  unfold evalAll
  refine wpAny_bind (wpAny_mono (hc.run pins s σ H (fun v H' => v = .int n ∧ H' = H) I ⟨rfl, rfl⟩) (fun u s1 hh => ?_) hE)
  obtain ⟨v, H', I1, r1, rfl, rfl⟩ := hh
  unfold evalAll
  refine wpAny_bind (wpAny_holding (wpAny_pure (wpAny_pure (wpAny_bind (wpAny_holding (wpAny_pure ?_))))))
  rw [makeFunction_eq, hkw]
  simp only [List.zip_nil_right, List.zip_nil_left, List.filterMap_nil, List.isEmpty_nil, List.isEmpty_cons, if_true, Bool.false_eq_true, if_false, pure_bind]
  refine wpAny_bind (wpAny_newTextTuple ?_)
  obtain ⟨T0, hT0⟩ : ∃ T0, T0 = s1.heap.objs.size := ⟨_, rfl⟩
  have I2 : Inv X pins σ H' { s1 with heap := s1.heap.push (PySem.W.kdv_tup [u]) } := I1.kept fun b o e => Heap.get?_push_of_some _ e
  have g0 : (s1.heap.push (PySem.W.kdv_tup [u])).get? T0 = some (PySem.W.kdv_tup [u]) := by
    rw [hT0]
    exact Heap.get?_push_size _ rfl
  have z0 : H' T0 = none := I1.hok.fresh (Nat.le_of_eq hT0.symm)
  have nf : T0 ∉ frs X.stack := fun z => by
    rcases List.mem_cons.mp (I1.stkSub _ z) with e | e
    · have h1 := I1.lt
      rw [← e, hT0] at h1
      exact Nat.lt_irrefl _ h1
    · exact I1.nofs (Nat.le_of_eq hT0.symm) e
  rw [← hT0]
  obtain ⟨ps, hP, _, _⟩ := hT _ hm
  have nP : T0 ≠ P := fun w => by
    rw [w, hP] at z0
    cases z0
  refine mk_tail I2 TB hcode hm hu hT hfree fun f c' doc pm ctv H1 s' I3 eN T1 kp low hf hfn hfr hco => ?_
  have g1 := kp T0 _ nP g0
  have z1 : H1 T0 = none := low T0 z0 (by
    show T0 < (s1.heap.push _).objs.size
    rw [Heap.size_push, hT0]
    exact Nat.lt_succ_self _)
  refine h f c' (.ref T0) doc pm ctv [(f, lamO X params body scope (.ref T0) doc pm c' ctv), (T0, PySem.W.kdv_tup [u])] H1 s' I3 eN T1 ⟨List.mem_cons_self, fun p hp => ?_, hco, [(x, u)], fun s2 k2 => ?_, fun y hy => ?_⟩
  · rcases List.mem_cons.mp hp with e | e
    · subst e
      exact ⟨hf, hfn, hfr⟩
    · rw [List.mem_singleton] at e
      subst e
      exact ⟨g1, z1, nf⟩
  · obtain ⟨k, b1, b2⟩ := hbind (X.env.qual ++ "<lambda>") (clos X scope) T0 doc pm (.ref c') ctv u
    exact BindsTo.of_defaults (o := PySem.W.kdv_tup [u]) rfl (k2 (T0, _) (by simp)) rfl b1 b2
  · rw [List.mem_singleton] at hy
    subst hy
    exact hloc
end
end Wn
namespace Wn
open PySem PySem.Spec PyProof.Rows L2 LamX
section
variable {X : Cx} {pins : List (Addr × Obj)} {σ : L2.St} {H HZ : Hp} {s s1 : Shared}
/-- the lambda's body begins: bs its own names -/
theorem lamW_start {A : Around} {outer : List Env} {E : XK} {scope : Scope} {f c' : Addr} {h1 : Heap} {tk : Nat} {bs : List (Str × Value)} (I : Inv X pins σ H s) (L : LamD X.N X.env.scope scope) (e0 : Env0 X.prog X.w X.K X.mg X.base A outer s1 HZ) (hd : A.handled = none)
    (un : Un (frs X.stack) [] H HZ s.heap s1.heap) (hns : h1.Ns s1.heap.objs.size fun y => bs.reverse.lookup y) (kp : ∀ b o, s1.heap.get? b = some o → h1.get? b = some o) :
    Inv (lamCx X A outer s1 HZ E scope f c') [] σ HZ { s1 with heap := h1, toks := tk } := by
  have hfree := L.has I.ok
  have up : ∀ {y c}, (cloFrom X.env.cells scope.names []).lookup y = some c → X.env.cells.lookup y = some c := fun {y c} e => by
    rcases cloFrom_mem (PySem.mem_of_lookup e) with z | ⟨z1, z2⟩
    · cases z
    · obtain ⟨c1, hc⟩ := hfree _ z1 rfl
      have hc : X.env.cells.lookup y = some c1 := hc
      rw [show c = c1 by rw [z2, hc] <;> rfl]
      exact hc
  have down : ∀ {y}, scope.names.lookup y = some .free → ∃ c, (cloFrom X.env.cells scope.names []).lookup y = some c := fun {y} hl => by
    have hy : (y, NameKind.free) ∈ scope.names := PySem.mem_of_lookup hl
    exact mem_lookup (cloFrom_has (cells := X.env.cells) (acc := []) hy)
  have cellK : ∀ {c : Addr} {v : Option Value}, H c = none → s.heap.IsCell c v → h1.IsCell c v := fun {c v} n ⟨o, ho, hd⟩ => by
    obtain ⟨sl, q⟩ := un.any ho n (by simp)
    exact ⟨_, kp _ _ q, hd⟩
  have ex0 : ∀ b : Addr, b ∉ (lamCx X A outer s1 HZ E scope f c').ex := fun b z => absurd (show b ∈ ([] : List Addr) from z) (by simp)
  refine ⟨⟨e0.mod, L.kind, rfl, rfl, Nat.le_refl _, fun y z c e1 e2 => I.ok.inj y z c (up e1) (up e2), fun y hy => ?_, fun y c z _ => ?_, fun _ => hd, Around.frames_deeper e0.frames, .inr ⟨rfl, rfl⟩, fun b z => absurd z (ex0 b), e0.bs, e0.bsz, fun b _ _ => ex0 b,
      fun b z => absurd z (ex0 b), e0.funs, e0.frf⟩,
    rfl, e0.bare, Un.kept kp, ⟨_, hns, fun i y v e1 e2 e3 => ?_⟩, fun y c e => ?_, e0.hok.fresh (Nat.le_refl _), fun y c e => ?_, fun q hq => absurd (show q ∈ ([] : List (Addr × Obj)) ++ [] from hq) (by simp), e0.hok.kept kp, I.len⟩
  · have hy : scope.names.lookup y = some .cell ∨ scope.names.lookup y = some .free := hy
    rcases hy with hy | hy
    · exact absurd rfl (L.own _ (PySem.mem_of_lookup hy)).1
    · exact down hy
  · have z : false = true := z
    cases z
  · have e3 : Vis scope y := e3
    rcases e3 with k | k | k
    · exact absurd (List.mem_iff_getElem?.mpr ⟨i, e1⟩) ((L.own _ (PySem.mem_of_lookup k)).2 rfl)
    · exact absurd rfl (L.own _ (PySem.mem_of_lookup k)).1
    · obtain ⟨m, hn, hl⟩ := I.loc
      have hvis : Vis X.env.scope y := (L.free _ (PySem.mem_of_lookup k) rfl).elim (fun k => .inr (.inl k)) (fun k => .inr (.inr k))
      obtain ⟨w', r, q⟩ := hl i y v e1 e2 hvis
      obtain ⟨c2, h2⟩ := down k
      refine ⟨w', r, .inr ⟨.inr k, c2, h2, ?_⟩⟩
      have c1 := up h2
      rcases q with ⟨k', _⟩ | ⟨_, c3, e', z⟩
      · have k' : X.env.scope.names.lookup y = some .local := k'
        rcases L.free _ (PySem.mem_of_lookup k) rfl with k2 | k2 <;> rw [show X.env.scope.names.lookup y = _ from k2] at k' <;> cases k'
      · rw [c1] at e'
        cases e'
        exact cellK (I.freeC y _ c1) z
  · obtain ⟨w', z⟩ := I.cell y c (up e)
    exact ⟨w', cellK (I.freeC y c (up e)) z⟩
  · obtain ⟨v, o, ho, hd⟩ := I.cell y c (up e)
    exact un.free c o ho (I.freeC y c (up e)) (by simp)
/-- x(), in the def that got the lambda; what is raised is wished for at its slots -/
theorem pe_actW {CXg : CXT} {Eg : XK} {Ng : List Str} {qg : Str} {sg : Scope} {g f c' : Addr} {cdg dV doc pm ctv : Value} {params : Arguments} {body : Expr} {scope : Scope} {D : List (Addr × Obj)} {k i : Nat} {a : Str} {pn : List (Addr × Obj)} {xe : Value → Shared → Prop} {W : WX} {tb : XK → TE} {p1 p2 : Pos}
    (I : Inv X pins σ H s) (L : LamD X.N X.env.scope scope) (M : Made X H s params body scope f c' dV doc pm ctv D)
    (tk : Takes ((cxOf CXg X.prog X.w X.K X.mg X.base Ng qg sg g cdg X.A X.stack s H Eg).tr pn xe) W) (hr : Room (k + 1) (X.A.deeper (envOfC qg sg s.heap.objs.size g cdg)))
    (hbody : ∀ (A : Around) (outer : List Env) (s : Shared) (H : Hp) (E : XK), Room k (A.deeper (lamEnv X scope s.heap.objs.size f c')) → PE (lamCx X A outer s H E scope f c') body (tb E))
    (hN : Ng[i]? = some a) (hv : Vis sg a) (hd : (a == ("__debug__" : Str)) = false := by decide) (hcd : (a == ("__classdict__" : Str)) = false := by decide) :
    PE ((cxOf CXg X.prog X.w X.K X.mg X.base Ng qg sg g cdg X.A X.stack s H Eg).tr pn xe) (.Call (.Name a p1) [] [] p2)
      (fun σZ HZ Q => σZ[i]? = some (some (.ref f)) ∧ HZ c' = some (CodeO c' (X.env.qual ++ "<lambda>")) ∧ ∃ E : XK, (∀ cls d H', E cls d H' → W cls d σZ H') ∧ tb E σ HZ Q) := by
  refine ⟨fun pinsZ sZ σZ HZ Q IZ h => ?_⟩
  obtain ⟨hs, hc, E, hW, ht⟩ := h
  refine wpAny_Call_Name_kw (thn ((pe_var (pos := p1) (i := i) hN hv hd hcd).run pinsZ sZ σZ HZ (fun v H1 => v = .ref f ∧ H1 = HZ) IZ ⟨.ref f, hs, rfl, rfl⟩) fun u s1 hh => ?_)
  obtain ⟨v, H1, I1, r1, ev, eH⟩ := hh
  subst ev
  rw [eH] at I1
  obtain rfl : u = Value.ref f := r1
  have un : Un (frs X.stack) [] H HZ s.heap s1.heap := I1.base
  have stay : ∀ p ∈ D, s1.heap.get? p.1 = some p.2 := fun p hp => un.keep _ _ (M.there p hp).1 (M.there p hp).2.1 (M.there p hp).2.2 (by simp)
  have of1 := stay _ M.at_
  refine PySem.W.callWith_F0 ⟨_, _, _, _, of1⟩ ?_
  obtain ⟨⟨oc, vs, t, hoc, hdc, hvc⟩, _, _⟩ := I1.hok c' _ hc
  obtain ⟨bs, hbind, hloc⟩ := M.binds
  have rc : codeAny (model X.prog X.w) (X.A.deeper (envOfC qg sg s.heap.objs.size g cdg)) (.call (.ref f) ⟨[], []⟩) (CR (L2.CX X.prog X.w) (envOfC qg sg s.heap.objs.size g cdg :: X.stack) X.prog X.w HZ s1 Q E) s1 := by
    refine PySem.W.kla_callFunE hr.depth of1 rfl L.co L.gen rfl ⟨c', oc, vs, t, rfl, hoc, hdc, hvc⟩ (hbind s1 stay _ _ _ _ ?_)
    refine wpAny_newFunctionEnv (fun y hy => (L.own y hy).1) hloc (fun h1 hns hsb => ⟨I1.nolimit.fresh _ hsb, ?_⟩) L.kind
    show codeAny _ _ (.expr body (lamEnv X scope s1.heap.objs.size f c')) _ _
    have kp : ∀ b o, s1.heap.get? b = some o → h1.get? b = some o := fun b o e => hsb.extBut b o (Nat.ne_of_lt (Heap.lt_size e)) (Heap.get?_push_of_some _ e)
    have J : Inv (lamCx X (X.A.deeper (envOfC qg sg s.heap.objs.size g cdg)) (envOfC qg sg s.heap.objs.size g cdg :: X.stack) s1 HZ E scope f c') [] σ HZ { s1 with heap := h1, toks := s1.toks + bs.length } :=
      lamW_start I L I1.env0 hr.hd un hns kp
    refine PySem.W.kla_codeExpr (wpAny_mono ((hbody _ _ s1 HZ E (hr.deeper _)).run [] _ _ HZ Q J ht) (fun v s' hq => ?_) fun e s' hq => hq)
    obtain ⟨w', H', J', rv, q⟩ := hq
    exact ⟨w', H', J'.os, J'.bare, J'.base, J'.hok, rv, q⟩
  refine wpAny_call (codeAny_mono rc fun r s' hq => ?_)
  match r, hq with
  | .error e, hq => exact tk e s' (XE.of_call I1 hW hq)
  | .ok (.ret u), hq => exact I1.after hq
  | .ok .next, hq => exact hq.elim
  | .ok .brk, hq => exact hq.elim
  | .ok .cont, hq => exact hq.elim
end
/-- how a lambda is made here -/
def MkLam (X : Cx) (T : List (Addr × Str)) (params : Arguments) (body : Expr) (scope : Scope) (lpos : Pos) : Prop :=
  ∀ (pins : List (Addr × Obj)) (σ : L2.St) (H : Hp) (s : Shared) (Q : Value → Shared → Prop), Inv X pins σ H s → Tabs T H →
    (∀ (f c' : Addr) (dV doc pm ctv : Value) (D : List (Addr × Obj)) (H1 : Hp) (s' : Shared), Inv X pins σ H1 s' → ExtN H H1 → Tabs T H1 → Made X H1 s' params body scope f c' dV doc pm ctv D → Q (.ref f) s') →
    wpAny (model X.prog X.w) X.A (eval (.Lambda params body scope lpos) X.env) Q X.xe s
/-- the def that calls what it got: a calls it; TT: what it makes of the lambda's reading -/
def Gives (X : Cx) (Ng : List Str) (x : Str) (sg : Scope) (g : Addr) (cdg : Value) (bg : List Stmt) (a : Str) (q : Str) (TT : (XK → Hp → VK → Prop) → Hp → VK → Prop) : Prop :=
  ∀ (f c' : Addr) (s : Shared) (H : Hp) (Q : VK) (tl : XK → Hp → VK → Prop), Room 1 (X.A.deeper (envOfC x sg s.heap.objs.size g cdg)) →
    (∀ (W : WX) (pn : List (Addr × Obj)) (xe : Value → Shared → Prop) (p1 p2 : Pos), Takes ((cxOf CX0 X.prog X.w X.K X.mg X.base Ng x sg g cdg X.A X.stack s H E0).tr pn xe) W →
      PE ((cxOf CX0 X.prog X.w X.K X.mg X.base Ng x sg g cdg X.A X.stack s H E0).tr pn xe) (.Call (.Name a p1) [] [] p2) (fun σZ HZ Q => σZ[0]? = some (some (.ref f)) ∧ HZ c' = some (CodeO c' q) ∧ ∃ E : XK, (∀ cls d H', E cls d H' → W cls d σZ H') ∧ tl E HZ Q)) →
    H c' = some (CodeO c' q) → TT tl H Q →
    ∃ t, PSs (cxOf CX0 X.prog X.w X.K X.mg X.base Ng x sg g cdg X.A X.stack s H E0).nox bg t ∧ t { nx := fun _ H' => Q .non H', rt := Q } (L2.start Ng [.ref f]) H
section
variable {X : Cx}
/-- x(lambda: body) -/
theorem pe_outc {T : List (Addr × Str)} {TT : (XK → Hp → VK → Prop) → Hp → VK → Prop} {x a : Str} {g : Addr} {k : Nat} {st : Stmt} {fd : FuncData} {Ng : List Str} {cdg : Value}
    {params : Arguments} {body : Expr} {scope : Scope} {t : XK → TE} {p lpos pos : Pos} (hg : Gl X x) (hm : X.mg x = some (.ref g)) (hk : PySem.W.keepIn X.K (.ref g) = true) (F : Fun X.K x x st g fd) (hcd : fd.code = cdg) (hb : L2.Binds X.K fd [a] []) (Sg : FnScope Ng [a] (defScope st)) (hNg : Ng[0]? = some a) (hva : Vis (defScope st) a)
    (hG : Gives X Ng x (defScope st) g cdg (defBody st) a (X.env.qual ++ "<lambda>") TT) (ML : MkLam X T params body scope lpos) (hr : Room (k + 2) X.A) (L : LamD X.N X.env.scope scope)
    (hbody : ∀ (A : Around) (outer : List Env) (s : Shared) (H : Hp) (E : XK) (f c' : Addr), Room k (A.deeper (lamEnv X scope s.heap.objs.size f c')) → PE (lamCx X A outer s H E scope f c') body (t E))
    (hdb : (x == ("__debug__" : Str)) = false := by decide) (hd : (a == ("__debug__" : Str)) = false := by decide) (hcc : (a == ("__classdict__" : Str)) = false := by decide) :
    PE X (.Call (.Name x p) [.Lambda params body scope lpos] [] pos) (tLam T TT t) := by
  refine ⟨fun pins s σ H Q I h => ?_⟩
  obtain ⟨hT, h⟩ := h
  obtain ⟨oc, od, kV, doc0, pm0, an, cdv, ct, osl, rfl, lk, hcg⟩ := F.ex
  obtain rfl : cdv = cdg := hcd
  refine wpAny_Call_Name_kw (ld_glob I hg hm ?_ hdb)
  refine PySem.W.callWith_K (h₀ := X.base) I.ok.mod.kin hk ?_ (by rfl) (by rfl)
  show wpAny _ _ (spliced ((false, eval (.Lambda params body scope lpos) X.env) :: backTo pos (starEach [] X.env))) _ _ s
  refine Calls.spliced_cons (ML pins σ H s _ I hT fun f c' dV doc pm ctv D H1 s' I1 eN T1 M => ?_)
  refine Calls.spliced_nil ⟨I1.kIn, ?_⟩
  have rc : codeAny (model X.prog X.w) X.A (.call (.ref g) ⟨[.ref f], []⟩) (CR CX0 X.stack X.prog X.w H1 s' Q E0) s' := by
    refine run_ofS (N := Ng) (ps := [a]) (us := [.ref f]) (vs := [.ref f]) lk hcg Sg hr I1.env0 (hb s' [.ref f] I1.kIn rfl) (.cons rfl .nil) rfl fun hr' => ?_
    obtain ⟨t', ht', hq'⟩ := hG f c' s' H1 Q (fun E H' Q' => t E σ H' Q') (hr'.mono (by omega)) (fun W pn xe p1 p2 tk => pe_actW (i := 0) I1 L M tk hr' (fun A outer s H E hr2 => hbody A outer s H E f c' hr2) hNg hva hd hcc) M.code (h H1 eN T1)
    exact ⟨t', ht'.nox, hq'⟩
  refine wpAny_call (codeAny_mono rc fun r s2 hq => ?_)
  match r, hq with
  | .error e, hq => exact (show False from hq).elim
  | .ok (.ret u), hq => exact I1.after hq
  | .ok .next, hq => exact hq.elim
  | .ok .brk, hq => exact hq.elim
  | .ok .cont, hq => exact hq.elim
end
end Wn
/-! a law whose defs make lambdas: the end, by the tables of their code -/
namespace Wn
open PySem PySem.Spec PyProof.Rows L2 LamX
/-- a def by its body, its code told -/
theorem fnGc {P : Program} {w : World} {K : PySem.W.Frag} {mg : Str → Option Value} {base : Heap} {CX : CXT} {k : Nat} {f : Addr} {fd : FuncData} {ps : List Str} {sp : Sp} {x qual : Str} {st : Stmt} {N : List Str} (F : Fun K x qual st f fd) (S : FnScope N ps (defScope st)) (sz : ∀ vs H Q E, sp vs H Q E → vs.length = ps.length)
    (body : ∀ (cdv : Value) (A : Around) (outer : List Env) (s : Shared) (H : Hp) (vs : List V) (Q : VK) (E : XK), fd.code = cdv → (A.deeper (envOfC qual (defScope st) s.heap.objs.size f cdv)).guards = some [] →
      Room k (A.deeper (envOfC qual (defScope st) s.heap.objs.size f cdv)) → sp vs H Q E →
      ∃ t, PSs (cxOf CX P w K mg base N qual (defScope st) f cdv A outer s H E) (defBody st) t ∧ t { nx := fun _ H' => Q .non H', rt := Q } (L2.start N vs) H) : FnG P w K mg base CX (k + 1) f fd ps sp := by
  obtain ⟨oc, od, kV, doc, pm, an, cdv, ct, osl, rfl, lk, hcd⟩ := F.ex
  refine ⟨sz, fun A hgd hr outer s H args us vs Q E e0 hb r h => ?_⟩
  have KI : K.In s.heap := e0.mod.kin.keeps fun b o e => (e0.bs b o e).1
  have NL : s.heap.NoLimit := e0.mod.nolimit.keeps fun b o e => (e0.bs b o e).1
  refine codeAny_call_function hr.depth (KI _ _ lk) rfl S.co S.gen rfl (PySem.W.codeRec_of KI hcd) (hb _ _ _ _ ?_)
  refine wpAny_newFunctionEnv_cells S.kind (fun y hy => ?_) fun env he s1 x => ?_
  · obtain ⟨n, v⟩ := y
    rcases S.par n (List.of_mem_zip hy).1 with q | q
    · exact .inl q
    · exact .inr ⟨q, PySem.W.cellsFrom_some _ _ _ (.inl q)⟩
  · subst he
    refine ⟨NL.keeps x.toInCall.keep, codeAny_func ?_⟩
    obtain ⟨t, ht, hq⟩ := body cdv A outer s H vs Q E rfl hgd (hr.deeper _) h
    refine wpAny_mono (ht.run [] s1 _ H _ (inv_start S hr.hd e0 (sz _ _ _ _ h) r x) hq) (fun fl s' z => ?_) fun e s' z => z
    cases fl with
    | ret u =>
      obtain ⟨v, σ', H', J, rv, q⟩ := z
      exact ⟨v, H', J.os, J.bare, J.base, J.hok, rv, q⟩
    | next =>
      obtain ⟨σ', H', J, q⟩ := z
      exact ⟨.non, H', J.os, J.bare, J.base, J.hok, rfl, q⟩
    | brk =>
      obtain ⟨_, _, _, q⟩ := z
      exact q.elim
    | cont =>
      obtain ⟨_, _, _, q⟩ := z
      exact q.elim
theorem fnGc0 {P : Program} {w : World} {K : PySem.W.Frag} {mg : Str → Option Value} {base : Heap} {k : Nat} {f : Addr} {fd : FuncData} {ps : List Str} {sp : Sp} {x qual : Str} {st : Stmt} {N : List Str} (F : Fun K x qual st f fd) (S : FnScope N ps (defScope st)) (sz : ∀ vs H Q E, sp vs H Q E → vs.length = ps.length)
    (body : ∀ (cdv : Value) (A : Around) (outer : List Env) (s : Shared) (H : Hp) (vs : List V) (Q : VK) (E : XK), fd.code = cdv → (A.deeper (envOfC qual (defScope st) s.heap.objs.size f cdv)).guards = some [] →
      Room k (A.deeper (envOfC qual (defScope st) s.heap.objs.size f cdv)) → sp vs H Q E →
      ∃ t, PSs (cxOf CX0 P w K mg base N qual (defScope st) f cdv A outer s H E).nox (defBody st) t ∧ t { nx := fun _ H' => Q .non H', rt := Q } (L2.start N vs) H) : FnG P w K mg base CX0 (k + 1) f fd ps sp :=
  fnGc F S sz fun cdv A outer s H vs Q E hc g r h => let ⟨t, ht, q⟩ := body cdv A outer s H vs Q E hc g r h; ⟨t, ht.nox, q⟩
/-- the law's call; cs: the code objects and their tables -/
theorem law_callGT {P : Program} {w : World} {K : PySem.W.Frag} {mg mb : Str → Option Value} {CX : CXT} {k : Nat} {fa a : Addr} {cs : List (Addr × Addr)} {fd : FuncData} {x : Str} {sp : Sp} {s1 : Shared} {vs : List Value} {ns : List Int}
    (KX : K.In s1.heap) (hns : s1.heap.Ns mainGlobals mg) (hb : s1.heap.Ns builtinsNs mb) (hbb : ∀ x : Str, x ≠ "__name__" → mb x = bootBuiltins x) (hlim : s1.heap.NoLimit) (hg : s1.gens = #[])
    (hT : ∀ p ∈ cs, s1.heap.get? p.2 = some { cls := .none, data := .fields #[] }) (nT : ∀ p ∈ cs, K.lookup p.2 = none) (C : ∀ p ∈ cs, PySem.W.CodeHd s1.heap p.1 p.2)
    (hbm : ∃ (bm : Addr) (ob : Obj), mg "__builtins__" = some (.ref bm) ∧ bm ≠ builtinsNs ∧ s1.heap.get? bm = some ob ∧ ob.cls = .type "module" ∧ ob.dict = some builtinsNs ∧ ob.data = .plain)
    (ha : s1.heap.get? a = some { cls := .type "list", data := .seq vs.toArray }) (hi : IntsAre vs ns) (hl : ns.length ≤ sizeLine) (hr : Room k callerA)
    (F : ∀ base : Heap, K.In base → base.Ns mainGlobals mg → (∀ p ∈ cs, TabB base mg p.1 p.2) → FnG P w K mg base CX k fa fd [x] sp) (hbind : ∀ (s : Shared) (u : Value), BindsTo s fd ⟨[u], []⟩ [(x, u)])
    (hsp : ∀ H : Hp, (∀ p ∈ cs, H p.2 = some (.tbl #[])) → SqL K H a (ns.map V.int) → sp [.ref a] H (fun v _ => v = .bl true) fun _ _ _ => False)
    (hCX : ∀ H e s', CX [] H s1 (fun _ _ _ => False) e s' → False) :
    codeAny (model P w) callerA (.call (.ref fa) ⟨[.ref a], []⟩) (fun r s' => r = .ok (.ret (.bool true)) ∧ OldK s1.heap s'.heap ∧ s'.os = s1.os ∧ AllBare s'.gens) s1 := by
  obtain ⟨ts, hts⟩ : ∃ ts, ts = cs.map (·.2) := ⟨_, rfl⟩
  have inT : ∀ {p : Addr × Addr}, p ∈ cs → p.2 ∈ ts := fun hp => by
    rw [hts]
    exact List.mem_map.mpr ⟨_, hp, rfl⟩
  have outT : ∀ {b : Addr}, b ∈ ts → s1.heap.get? b = some { cls := .none, data := .fields #[] } ∧ K.lookup b = none := fun hb => by
    rw [hts] at hb
    obtain ⟨p, hp, e⟩ := List.mem_map.mp hb
    rw [← e]
    exact ⟨hT p hp, nT p hp⟩
  have na : a ∉ ts := fun z => by
    have q := (outT z).1
    rw [ha] at q
    cases q
  obtain ⟨H, hH⟩ : ∃ H : Hp, H = fun b => if b ∈ ts then some (.tbl #[]) else if b = a ∧ K.lookup a = none then some (.frz { cls := .type "list", data := .seq vs.toArray } (.lst (ns.map V.int))) else none := ⟨_, rfl⟩
  have at_ : ∀ b u, H b = some u → (b ∈ ts ∧ u = .tbl #[]) ∨ (b = a ∧ K.lookup a = none ∧ u = .frz { cls := .type "list", data := .seq vs.toArray } (.lst (ns.map V.int))) := fun b u z => by
    rw [hH] at z
    dsimp only at z
    split at z
    · rename_i c
      exact .inl ⟨c, (Option.some.inj z).symm⟩
    · split at z
      · rename_i c
        exact .inr ⟨c.1, c.2, (Option.some.inj z).symm⟩
      · cases z
  have off : ∀ b o, s1.heap.get? b = some o → (∀ n, o.data ≠ .seq vs.toArray n) → o.data ≠ .fields #[] → H b = none := fun b o e d d2 => by
    cases z : H b with
    | none => rfl
    | some u =>
      rcases at_ b u z with ⟨w1, _⟩ | ⟨rfl, _, _⟩
      · rw [(outT w1).1] at e
        cases e
        exact absurd rfl d2
      · rw [ha] at e
        cases e
        exact absurd rfl (d _)
  have kb : ∀ b o, K.lookup b = some o → H b = none := fun b o e => by
    cases z : H b with
    | none => rfl
    | some u =>
      rcases at_ b u z with ⟨w1, _⟩ | ⟨rfl, z2, _⟩
      · rw [(outT w1).2] at e
        cases e
      · rw [z2] at e
        cases e
  have ok : HOk P w H s1.heap := fun b u z => by
    rcases at_ b u z with ⟨w1, rfl⟩ | ⟨rfl, _, rfl⟩
    · exact (outT w1).1
    · exact ⟨ha, by rw [List.length_map]; exact hl, vs, _, vals_ints hi, ha⟩
  have sq : SqL K H a (ns.map V.int) := by
    cases z : K.lookup a with
    | none =>
      refine .inl (.inr ⟨{ cls := .type "list", data := .seq vs.toArray }, ?_⟩)
      rw [hH]
      dsimp only
      rw [if_neg na]
      exact if_pos ⟨rfl, z⟩
    | some o =>
      have e := KX a o z
      rw [ha] at e
      cases e
      exact .inr ⟨_, vs.toArray, _, z, rfl, rfl, rfl, by rw [List.size_toArray, hi.length]; exact hl, by simpa using vals_ints hi⟩
  have tabs : ∀ p ∈ cs, H p.2 = some (.tbl #[]) := fun p hp => by
    rw [hH]
    exact if_pos (inT hp)
  have nsB : ∀ {b : Addr} {m : Str → Option Value}, s1.heap.Ns b m → (hidT s1.heap H).Ns b m := fun {b m} ⟨o, es, ep, e, d, r⟩ => ⟨o, es, ep, hidT_get e (off b o e (fun n z => by rw [d] at z; cases z) fun z => by rw [d] at z; cases z), d, r⟩
  have KB : K.In (hidT s1.heap H) := fun b o e => hidT_get (KX b o e) (kb b o e)
  have M : Mod K mg (hidT s1.heap H) := ⟨KB, nsB hns, ⟨mb, nsB hb, hbb⟩, let ⟨mc, h1, h2⟩ := hlim; ⟨mc, nsB h1, h2⟩⟩
  have TB : ∀ p ∈ cs, TabB (hidT s1.heap H) mg p.1 p.2 := fun p hp => by
    have g0 := hT p hp
    refine ⟨?_, ?_, fun z => ?_⟩
    · obtain ⟨o, us, file, tf, flags, tg, inF, text, tt, e1, r1, r2, r3, r⟩ := C p hp
      refine ⟨o, us, file, tf, flags, tg, inF, text, tt, hidT_get e1 (off _ _ e1 (fun n z => ?_) fun z => ?_), r1, r2, r3, r⟩
      · rw [r2] at z
        cases z
      · rw [r2] at z
        cases z
        simp at r3
    · obtain ⟨bm, ob, b1, b2, b3, b4, b5, b6⟩ := hbm
      have nG : bm ≠ mainGlobals := fun q => by
        obtain ⟨o, es, ep, e, hd, _⟩ := hns
        rw [q, e] at b3
        cases b3
        rw [hd] at b6
        cases b6
      have nP : bm ≠ p.2 := fun q => by
        rw [q, g0] at b3
        cases b3
        cases b6
      exact ⟨bm, ob, b1, b2, nG, nP, hidT_get b3 (off _ _ b3 (fun n z => by rw [b6] at z; cases z) fun z => by rw [b6] at z; cases z), b4, b5, b6⟩
    · obtain ⟨o, es, ep, e, hd, _⟩ := hns
      rw [z, g0] at e
      cases e
      cases hd
  have env : Env0 P w K mg (hidT s1.heap H) callerA [] s1 H := ⟨rfl, M, fun b o e => of_hidT e, Nat.le_of_eq (hidT_size _ _), trivial, fun b z => absurd (show b ∈ ([] : List Addr) from z) (by simp), ok, .of_eq hg⟩
  refine codeAny_mono ((F _ KB (nsB hns) TB).go callerA rfl hr [] s1 H ⟨[.ref a], []⟩ [.ref a] [.ref a] _ _ env (hbind s1 (.ref a)) (.cons rfl .nil) (hsp H tabs sq)) fun r s' z => ?_
  match r, z with
  | .error e, z => exact (hCX H e s' z).elim
  | .ok .next, z => exact z.elim
  | .ok .brk, z => exact z.elim
  | .ok .cont, z => exact z.elim
  | .ok (.ret u), z =>
    obtain ⟨v, H', os, bare, un, ok', rv, q⟩ := z
    obtain rfl : v = .bl true := q
    obtain rfl : u = Value.bool true := rv
    have grown : ∀ p ∈ cs, ∃ more : Array Value, s'.heap.get? p.2 = some { cls := .none, data := .fields more } := fun p hp => by
      obtain ⟨more, z⟩ := un.tbls p.2 #[] (tabs p hp)
      exact ⟨_, ok' p.2 _ z⟩
    have same : ∀ b o, b ∉ ts → s1.heap.get? b = some o → s'.heap.get? b = some o := fun b o nb e => by
      cases y : H b with
      | none => exact un.keep b o e y (fun c => absurd (show b ∈ ([] : List Addr) from c) (by simp)) (by simp)
      | some u =>
        rcases at_ b u y with ⟨w1, _⟩ | ⟨rfl, _, rfl⟩
        · exact absurd w1 nb
        · rw [ha] at e
          cases e
          exact (ok' _ _ (un.frzs _ _ _ y)).1
    refine ⟨rfl, ⟨fun b o e => ?_, fun b o e => ?_⟩, os, bare⟩
    · by_cases w1 : b ∈ ts
      · have w2 := w1
        rw [hts] at w2
        obtain ⟨p, hp, ep⟩ := List.mem_map.mp w2
        obtain ⟨more, hm⟩ := grown p hp
        rw [← ep] at e ⊢
        rw [hT p hp] at e
        cases e
        exact .inr (.inl ⟨((C p hp).tab (hT p hp)).isCodeTable, rfl, #[], more, rfl, by rw [Array.empty_append]; exact hm⟩)
      · exact .inl (same b o w1 e)
    · by_cases w1 : b ∈ ts
      · rw [hts] at w1
        obtain ⟨p, hp, ep⟩ := List.mem_map.mp w1
        obtain ⟨more, hm⟩ := grown p hp
        rw [← ep]
        exact ⟨_, hm⟩
      · exact ⟨o, same b o w1 e⟩
theorem walkGT {l : PySem.W.OpenLaw} {n k : Nat} {q : Program} {loose : List Str} {XP : (Str → Option Value) → Heap → Prop} {YP : World → Heap → Prop} {d : DefRec} {K : Params → PySem.W.Frag} {x : Str} {xs : List Str}
    (hn : l.most = some n) (hn2 : n ≤ sizeLine) (hdf : d.params.defaults = []) (hr : Room k callerA) (hxs : xs.all (fun y => ((recsOf q).find? fun e => e.name == y).isSome) = true) (hY : ∀ (w : World) (h : Heap), YP w h → (K w.params).In h)
    (F : ∀ (w : World) (mg : Str → Option Value) (fa : Addr) (h : Heap), (K w.params).In h → h.Ns mainGlobals mg → mg d.name = some (.ref fa) →
      ∃ (fd : FuncData) (cs : List (Addr × Addr)) (sp : Sp), (∀ p ∈ cs, (∃ y ∈ xs, PySem.W.tabIn (K w.params) y = some p) ∧ (K w.params).lookup p.2 = none) ∧ (∀ (s : Shared) (u : Value), BindsTo s fd ⟨[u], []⟩ [(x, u)]) ∧
        (∀ (H : Hp) (a : Addr) (ns : List Int), ns.length ≤ n → (∀ p ∈ cs, H p.2 = some (.tbl #[])) → SqL (K w.params) H a (ns.map V.int) → sp [.ref a] H (fun v _ => v = .bl true) fun _ _ _ => False) ∧
        ∀ base : Heap, (K w.params).In base → base.Ns mainGlobals mg → (∀ p ∈ cs, TabB base mg p.1 p.2) → FnG l.prog w (K w.params) mg base CX0 k fa fd [x] sp) :
    PySem.W.WalkO q loose XP YP l.row.toRowW d [] (fun f vs => PySem.call f vs) :=
  Att.attach_call hn hdf fun w s0 s1 mg mb fa o pm cd doc a vs ns G Y ho hd hcd hmg hobj hints hlen hg => by
    have KX := hY w _ Y
    obtain ⟨fd, cs, sp, hc, hb, hsp, hF⟩ := F w mg fa _ KX G.T.g hmg
    have tab : ∀ p ∈ cs, PySem.W.CodeHd s1.heap p.1 p.2 ∧ s1.heap.get? p.2 = some { cls := .none, data := .fields #[] } := fun p hp => by
      obtain ⟨⟨y, hy, e⟩, _⟩ := hc p hp
      have z := List.all_eq_true.mp hxs y hy
      obtain ⟨d2, e2⟩ := Option.isSome_iff_exists.mp z
      exact PySem.W.tab_of G.T KX e2 e
    exact law_callGT KX G.T.g G.T.b G.T.builtins G.T.nolimit hg (fun p hp => (tab p hp).2) (fun p hp => (hc p hp).2) (fun p hp => (tab p hp).1) G.T.bmain hobj hints (Nat.le_trans hlen hn2) hr hF hb (fun H hT hS => hsp H a ns hlen hT hS) fun H e s' z => z
end Wn
/-! C(e) for an error whose __init__ keeps e in its one field; raise C(e) -/
namespace Wn
open PySem PySem.Spec PyProof.Rows L2
def spInit (C : Addr) (f : Str) : Sp := fun vs H Q _ => ∃ (a : Addr) (v : V), vs = [.ref a, v] ∧ H a = some (exo a C none) ∧ ∀ d, H d = none → d ≠ a → Q .non (upd (upd H d (exd d [(f, v)])) a (exo a C (some d)))
section
variable {X : Cx} {o e : Expr} {to te : TE} {f x : Str} {p p' p1 p2 pos : Pos} {C fI W : Addr} {B newId initId : String} {bmB : List Value} {mc : Value} {wn : Str}
theorem ps_ostE (T : ErrC X.K C fI f B newId initId bmB) (ho : PE X o to) (he : PE X e te) (hs : swapsWith e (some (.Attribute o f p')) pos.line X.env = pure false := by rfl) : PS X (.Assign [.Attribute o f p'] e pos) (tOstE X.K C f to te) := by
  refine ⟨fun pins s σ H D I h => plainObj_wpAny_Assign_Attribute (thn (he.run pins s σ H _ I h) fun v s1 z1 => ?_) hs⟩
  obtain ⟨y, H1, I1, r1, q1⟩ := z1
  refine thn (ho.run pins s1 σ H1 _ I1 q1) fun u s2 z2 => ?_
  obtain ⟨w, H2, I2, r2, a, ew, ea, q⟩ := z2
  subst ew
  obtain rfl : u = Value.ref a := r2
  exact ostE T I2 ea r1 fun dx s' n ne J => ⟨σ, _, J, q dx n ne⟩
/-- the built-in class's own name -/
theorem pe_initB {es : List Expr} {ta : TA} {pl : Sem Bool} (T : ErrC X.K C fI f B newId initId bmB) (hg : Gl X wn) (hm : X.mg wn = none) (hv : bootBuiltins wn = some (.type B)) (hnn : wn ≠ "__name__") (hdb : (wn == ("__debug__" : Str)) = false) (ty : typeOf (.type B) = pure (.type "type")) (stub : Manifest.isStub B = false)
    (at_ : PySem.W.findCls X.K (.type B) (.type "type") "__init__" = some (.val (.builtin initId))) (hh : PySem.W.handedIn (.builtin initId) = true) (ha : PA X (e :: es) ta)
    (hc : eval (.Call (.Attribute (.Name wn p1) "__init__" p2) (e :: es) [] pos) X.env = (do
      let ov ← eval (.Name wn p1) X.env
      standAt p2.atName
      let (f, first) ← holding [ov] (getMethod ov "__init__" pl)
      callWith pos f first (backTo pos (starEach (e :: es) X.env)) (backToKw pos (keywordEach [] X.env))) := by rfl)
    (he : starEach (e :: es) X.env = (false, eval e X.env) :: starEach es X.env := by rfl) (hpl : (backTo pos (starEach es X.env)).any (·.1) = false := by rfl) :
    PE X (.Call (.Attribute (.Name wn p1) "__init__" p2) (e :: es) [] pos) (tInitE X.K C ta) := by
  refine ⟨fun pins s σ H Q I h => ?_⟩
  refine PySem.W.methodCall_KW (ld_blt I hg hm hv ?_ hnn hdb) hc
  obtain ⟨m, fr⟩ := I.fr
  refine PySem.W.method_type fr I.ok.mod.kin ty stub at_ hh ?_
  show wpAny _ _ (callWith pos (Value.builtin initId) [] (backTo pos (starEach (e :: es) X.env)) []) _ _ _
  exact call_initE (pl := pl) T ha (I.tok _) h he hpl
end
/-- what such a making asks, once its one value is there -/
theorem mk1_go {C : Addr} {f : Str} {v : V} {H1 : Hp} {Q : XK} (h : ∀ d, H1 d = none → Q (.ref C) (some d) (upd H1 d (.xd [(f, v)]))) :
    [v].length ≤ 1000 ∧ ∀ a, H1 a = none → spInit C f (.ref a :: ([v] ++ [])) (upd H1 a (exo a C none))
      (fun u H2 => u = .non ∧ ∃ (d : Addr) (fs : List (Str × V)), H2 a = some (exo a C (some d)) ∧ H2 d = some (exd d fs) ∧ H1 d = none ∧ Q (.ref C) (some d) (upd (del H2 a) d (.xd fs))) (fun _ _ _ => False) := by
  refine ⟨by show 1 ≤ 1000; decide, fun a na => ⟨a, v, rfl, upd_same, fun d nd da => ?_⟩⟩
  have nd1 : H1 d = none := by
    rw [upd_ne da] at nd
    exact nd
  refine ⟨rfl, d, [(f, v)], upd_same, ?_, nd1, ?_⟩
  · rw [upd_ne da, upd_same]
  · have e1 : upd (del (upd (upd (upd H1 a (exo a C none)) d (exd d [(f, v)])) a (exo a C (some d))) a) d (.xd [(f, v)]) = upd H1 d (.xd [(f, v)]) := by
      funext b
      by_cases hb : b = d
      · rw [hb, upd_same, upd_same]
      · rw [upd_ne hb, upd_ne hb]
        by_cases ha : b = a
        · rw [ha, del_same, na]
        · rw [del_ne ha, upd_ne ha, upd_ne hb, upd_ne ha]
    rw [e1]
    exact h d nd1
end Wn
/-! what gives data, where lambdas are made on the way: all but the tables of code stays -/
namespace Wn
open PySem PySem.Spec PyProof.Rows L2 LamX
theorem extOf {H H' : Hp} (g : Gr [] H H') : ExtN H H' := fun b o h _ => g b o (by simp) h
theorem tabsGr {T : List (Addr × Str)} {H H' : Hp} (t : Tabs T H) (g : Gr [] H H') : Tabs T H' := fun p hp => (t p hp).ext fun b o e => g b o (by simp) e
theorem kpExt {H H' : Hp} (g : ExtN H H') : Kp H H' := ⟨fun a _ e => g a _ e (fun _ z => by cases z), fun a _ e => g a _ e (fun _ z => by cases z), fun a _ _ e => g a _ e (fun _ z => by cases z)⟩
theorem ExtN.lst {H H' : Hp} {a : Addr} {xs : List V} (g : ExtN H H') (h : H a = some (.lst xs)) : H' a = some (.lst xs) := g a _ h (fun _ z => by cases z)
theorem ExtN.tup {H H' : Hp} {a : Addr} {xs : List V} (g : ExtN H H') (h : H a = some (.tup xs)) : H' a = some (.tup xs) := g a _ h (fun _ z => by cases z)
theorem ExtN.dK {H H' : Hp} {a : Addr} {xs : List (Key × V)} (g : ExtN H H') (h : H a = some (.dK xs)) : H' a = some (.dK xs) := g a _ h (fun _ z => by cases z)
/-- what an error's outcome is: class, field, word -/
def TTg (es : List (Addr × Str × Str)) : (XK → Hp → VK → Prop) → Hp → VK → Prop := fun tl H Q =>
  ∀ (H2 : Hp) (Qn : VK) (E : XK), Gr [] H H2 → (∀ v H3, (∀ p, H3 p = none → Q (.ref p) (upd H3 p (.lst [v]))) → Qn v H3) →
    (∀ (C d : Addr) (f w : Str) (v : V) (H3 : Hp), (C, f, w) ∈ es → H3 d = some (.xd [(f, v)]) → (∀ t H4, Gr [] H3 H4 → H4 t = some (.tup [.str w, v]) → Q (.ref t) H4) → E (.ref C) (some d) H3) → tl E H2 Qn
section
variable {K : PySem.W.Frag} {T : List (Addr × Str)} {σ : L2.St} {H : Hp}
def EvT (K : PySem.W.Frag) (T : List (Addr × Str)) (te : TE) (σ : L2.St) (H : Hp) (d : PyData) : Prop := ∀ H1, ExtN H H1 → Tabs T H1 → ∀ Q : VK, (∀ v H2, ExtN H1 H2 → Tabs T H2 → Dp K H2 v d → Q v H2) → te σ H1 Q
def EvTS (K : PySem.W.Frag) (T : List (Addr × Str)) (ta : TA) (σ : L2.St) (H : Hp) (ds : List PyData) : Prop := ∀ H1, ExtN H H1 → Tabs T H1 → ∀ Q : List V → Hp → Prop, (∀ vs H2, ExtN H1 H2 → Tabs T H2 → DpAll K H2 vs ds → Q vs H2) → ta σ H1 Q
def EvTL (K : PySem.W.Frag) (T : List (Addr × Str)) (te : TE) (σ : L2.St) (H : Hp) (ds : List PyData) : Prop := ∀ H1, ExtN H H1 → Tabs T H1 → ∀ Q : VK, (∀ p xs H2, ExtN H1 H2 → Tabs T H2 → H2 p = some (.lst xs) → DpAll K H2 xs ds → Q (.ref p) H2) → te σ H1 Q
theorem EvTL.d {te : TE} {ds : List PyData} (h : EvTL K T te σ H ds) : EvT K T te σ H (.list ds) := fun H1 g t Q q => h H1 g t Q fun p xs H2 g2 t2 e a => q _ H2 g2 t2 (dp_lst e a)
/-- what makes no lambda, whatever stands -/
theorem et_of {te : TE} {d : PyData} (h : ∀ H, EvD K te σ H d) : EvT K T te σ H d := fun H1 _ t Q q => h H1 H1 (Gr.refl _ _) Q fun v H2 g2 a => q v H2 (extOf g2) (tabsGr t g2) a
theorem el_of {te : TE} {ds : List PyData} (h : ∀ H, EvL K te σ H ds) : EvTL K T te σ H ds := fun H1 _ t Q q => h H1 H1 (Gr.refl _ _) Q fun p xs H2 g2 e a => q p xs H2 (extOf g2) (tabsGr t g2) e a
theorem et_var {i : Nat} {v : V} {d : PyData} (e : σ[i]? = some (some v)) (h : Dp K H v d) : EvT K T (tVar i) σ H d := fun H1 g t Q q => ⟨v, e, q v H1 (ExtN.refl _) t (Dp.kp (kpExt g) h)⟩
theorem etl_var {i : Nat} {p : Addr} {xs : List V} {ds : List PyData} (e : σ[i]? = some (some (.ref p))) (h : H p = some (.lst xs)) (a : DpAll K H xs ds) : EvTL K T (tVar i) σ H ds :=
  fun H1 g t Q q => ⟨_, e, q p xs H1 (ExtN.refl _) t (ExtN.lst g h) (DpAll.kp (kpExt g) a)⟩
theorem ets_nil : EvTS K T tNil σ H [] := fun H1 _ t Q q => q _ H1 (ExtN.refl _) t .nil
theorem ets_cons {te : TE} {ta : TA} {d : PyData} {ds : List PyData} (h : EvT K T te σ H d) (r : EvTS K T ta σ H ds) : EvTS K T (tCons te ta) σ H (d :: ds) := fun H1 g t Q q =>
  h H1 g t _ fun v H2 g2 t2 dv => r H2 (g.trans g2) t2 _ fun vs H3 g3 t3 dvs => q _ H3 (g2.trans g3) t3 (.cons (Dp.kp (kpExt g3) dv) dvs)
theorem et_tup {ta : TA} {ds : List PyData} (h : EvTS K T ta σ H ds) (hz : ds.length ≤ 1000 := by exact Nat.le_of_ble_eq_true rfl) : EvT K T (tTup ta) σ H (.tuple ds) := fun H1 g t Q q =>
  h H1 g t _ fun vs H2 g2 t2 a => ⟨by rw [dpAll_len a]; exact Nat.le_of_lt (small1000 hz), fun p np => q _ _ (g2.trans (extOf (Gr.new np))) (tabsGr t2 (Gr.new np)) (dp_tup upd_same (DpAll.kp (Kp.of (Gr.new np)) a))⟩
theorem etl_lst {ta : TA} {ds : List PyData} (h : EvTS K T ta σ H ds) (hz : ds.length ≤ 1000 := by exact Nat.le_of_ble_eq_true rfl) : EvTL K T (tLst ta) σ H ds := fun H1 g t Q q =>
  h H1 g t _ fun vs H2 g2 t2 a => ⟨by rw [dpAll_len a]; exact Nat.le_of_lt (small1000 hz), fun p np => q _ _ _ (g2.trans (extOf (Gr.new np))) (tabsGr t2 (Gr.new np)) upd_same (DpAll.kp (Kp.of (Gr.new np)) a)⟩
theorem etl_cat {ta tb : TE} {ds es : List PyData} (h1 : EvTL K T ta σ H ds) (h2 : EvTL K T tb σ H es) (hz : ds.length + es.length ≤ 1000 := by exact Nat.le_of_ble_eq_true rfl) : EvTL K T (tOp rCat ta tb) σ H (ds ++ es) := fun H1 g t Q q =>
  h1 H1 g t _ fun p xs H2 g2 t2 e2 a2 => h2 H2 (g.trans g2) t2 _ fun p3 ys H3 g3 t3 e3 a3 => by
    have e2' := ExtN.lst g3 e2
    refine ⟨p, p3, xs, ys, rfl, rfl, e2', e3, by rw [dpAll_len a2, dpAll_len a3]; exact Nat.le_of_lt (small1000 hz), fun p4 np => ?_⟩
    exact q p4 _ _ ((g2.trans g3).trans (extOf (Gr.new np))) (tabsGr t3 (Gr.new np)) upd_same (dpAll_append (DpAll.kp (kpExt (g3.trans (extOf (Gr.new np)))) a2) (DpAll.kp (Kp.of (Gr.new np)) a3))
theorem et_eq {ta tb : TE} {d e : PyData} (h1 : EvT K T ta σ H d) (h2 : EvT K T tb σ H e) (s1 : SeqAt.shaped d = true) (s2 : SeqAt.shaped e = true) : EvT K T (tOp (rEqD K) ta tb) σ H (.bool (PyData.eqv d e)) := fun H1 g t Q q =>
  h1 H1 g t _ fun v H2 g2 t2 a => h2 H2 (g.trans g2) t2 _ fun w H3 g3 t3 b => ⟨d, e, Dp.kp (kpExt g3) a, b, s1, s2, q _ H3 (g2.trans g3) t3 (.bl _)⟩
theorem et_ne {ta tb : TE} {d e : PyData} (h1 : EvT K T ta σ H d) (h2 : EvT K T tb σ H e) (s1 : SeqAt.shaped d = true) (s2 : SeqAt.shaped e = true) : EvT K T (tOp (rNeD K) ta tb) σ H (.bool (!PyData.eqv d e)) := fun H1 g t Q q =>
  h1 H1 g t _ fun v H2 g2 t2 a => h2 H2 (g.trans g2) t2 _ fun w H3 g3 t3 b => ⟨d, e, Dp.kp (kpExt g3) a, b, s1, s2, q _ H3 (g2.trans g3) t3 (.bl _)⟩
/-- what comes of a lambda whose body gives d -/
theorem et_out {es : List (Addr × Str × Str)} {t : XK → TE} {d : PyData} (h : ∀ E H, EvD K (t E) σ H d) : EvT K T (tLam T (TTg es) t) σ H (.list [d]) := fun H1 _ t1 Q q =>
  ⟨t1, fun H2 g2 t2 H3 Qn E g3 kn _ => h E H3 H3 (Gr.refl _ _) Qn fun v H4 g4 a => kn v H4 fun p np =>
    q _ _ (g2.trans (extOf ((g3.trans g4).trans (Gr.new np)))) (tabsGr t2 ((g3.trans g4).trans (Gr.new np))) (dp_lst upd_same (.cons (Dp.kp (Kp.of (Gr.new np)) a) .nil))⟩
/-- .. whose body raises an error with the value d -/
theorem et_outE {es : List (Addr × Str × Str)} {t : XK → TE} {d : PyData} {C : Addr} {f w : Str} (hm : (C, f, w) ∈ es)
    (h : ∀ (E : XK) (H1 : Hp) (Q : VK), (∀ (dd : Addr) (v : V) H2, Gr [] H1 H2 → H2 dd = some (.xd [(f, v)]) → Dp K H2 v d → E (.ref C) (some dd) H2) → t E σ H1 Q) : EvT K T (tLam T (TTg es) t) σ H (.tuple [.str w, d]) := fun H1 _ t1 Q q =>
  ⟨t1, fun H2 g2 t2 H3 Qn E g3 _ ke => h E H3 Qn fun dd v H4 g4 hd a => ke C dd f w v H4 hm hd fun t' H5 g5 h5 =>
    q _ _ (g2.trans (extOf ((g3.trans g4).trans g5))) (tabsGr t2 ((g3.trans g4).trans g5)) (dp_tup h5 (.cons (.str _) (.cons (Dp.kp (Kp.of g5) a) .nil)))⟩
theorem stt_asgL {te : TE} {i : Nat} {ds : List PyData} {D : Ends} (t : Tabs T H) (h : EvTL K T te σ H ds) (k : ∀ p xs H2, ExtN H H2 → Tabs T H2 → H2 p = some (.lst xs) → DpAll K H2 xs ds → D.nx (σ.set i (some (.ref p))) H2) : tAsg te (gName i) D σ H := h H (ExtN.refl _) t _ k
theorem stt_retB {te : TE} {b : Bool} {D : Ends} (t : Tabs T H) (h : EvT K T te σ H (.bool b)) (k : ∀ H2, ExtN H H2 → Tabs T H2 → D.rt (.bl b) H2) : tRet te D σ H := h H (ExtN.refl _) t _ fun v H2 g t2 e => by rw [dp_bool e]; exact k H2 g t2
theorem ttt_of {te : TE} {b : Bool} {H1 : Hp} {Q : Bool → Hp → Prop} (t : Tabs T H1) (h : EvT K T te σ H (.bool b)) (g : ExtN H H1) (q : ∀ H2, ExtN H1 H2 → Tabs T H2 → Q b H2) : tTest te σ H1 Q := h H1 g t _ fun v H2 g2 t2 e => ⟨b, dp_bool e, q H2 g2 t2⟩
theorem ttb_of {te : TE} {b : Bool} {H1 : Hp} {Q : Bool → Hp → Prop} (t : Tabs T H1) (h : EvT K T te σ H (.bool b)) (g : ExtN H H1) (q : ∀ H2, ExtN H1 H2 → Tabs T H2 → Q b H2) : tB te σ H1 Q := h H1 g t _ fun v H2 g2 t2 e => ⟨b, dp_bool e, q H2 g2 t2⟩
theorem et_andV {ta tb : TE} {a b : Bool} (h1 : EvT K T ta σ H (.bool a)) (h2 : EvT K T tb σ H (.bool b)) : EvT K T (tAndV ta tb) σ H (.bool (a && b)) := fun H1 g t Q q =>
  h1 H1 g t _ fun v H2 g2 t2 e => ⟨a, dp_bool e, by
    cases a with
    | true => exact iteT (h2 H2 (g.trans g2) t2 _ fun w H3 g3 t3 e3 => q w H3 (g2.trans g3) t3 e3)
    | false => exact iteF (q _ H2 g2 t2 (.bl false))⟩
theorem et_orV {ta tb : TE} {a b : Bool} (h1 : EvT K T ta σ H (.bool a)) (h2 : EvT K T tb σ H (.bool b)) : EvT K T (tOrV ta tb) σ H (.bool (a || b)) := fun H1 g t Q q =>
  h1 H1 g t _ fun v H2 g2 t2 e => ⟨a, dp_bool e, by
    cases a with
    | true => exact iteT (q _ H2 g2 t2 (.bl true))
    | false => exact iteF (h2 H2 (g.trans g2) t2 _ fun w H3 g3 t3 e3 => q w H3 (g2.trans g3) t3 e3)⟩
end
end Wn
namespace Wn
open PySem PySem.Spec PyProof.Rows L2 LamX
theorem tabsGrM {T : List (Addr × Str)} {H H' : Hp} {d : Addr} (t : Tabs T H) (g : Gr [d] H H') (h : ∃ kvs, H d = some (.dK kvs)) : Tabs T H' := fun p hp => by
  obtain ⟨kvs, hd⟩ := h
  obtain ⟨ps, h1, h2, h3⟩ := t p hp
  refine ⟨ps, g _ _ (by simp; exact ne_of h1 hd (by intro z; cases z)) h1, h2, fun pos cv hc => ?_⟩
  obtain ⟨c, e1, e2⟩ := h3 pos cv hc
  exact ⟨c, e1, g _ _ (by simp; exact ne_of e2 hd (by intro z; cases z)) e2⟩
theorem tabs0 {T : List (Addr × Str)} {H : Hp} (h : ∀ p ∈ T, H p.1 = some (.tbl #[])) : Tabs T H := fun p hp =>
  ⟨#[], h p hp, by trivial, fun pos cv hc => by cases hc⟩
def tInts : List Int → TA
  | [] => tNil
  | i :: r => tCons (tC (.int i)) (tInts r)
theorem tInts_go {σ : L2.St} {H : Hp} : ∀ {is : List Int} {Q : List V → Hp → Prop}, Q (is.map V.int) H → tInts is σ H Q
  | [], _, q => q
  | i :: r, Q, q => tInts_go (is := r) (Q := fun vs H2 => Q (.int i :: vs) H2) q
section
variable {K : PySem.W.Frag} {T : List (Addr × Str)} {σ : L2.St} {H : Hp}
theorem ev_powN {a c : Nat} (h : CPow a c) : EvD K (tOp (rI CPow fun i j => .int (i ^ j.toNat)) (tC (.int (a : Nat))) (tC (.int (c : Nat)))) σ H (.int ((a ^ c : Nat) : Int)) := fun H1 _ Q q => ⟨a, c, rfl, rfl, h, by
  have e : ((a : Nat) : Int) ^ ((c : Nat) : Int).toNat = ((a ^ c : Nat) : Int) := by rw [Int.toNat_natCast, Int.natCast_pow]
  show Q (.int (((a : Nat) : Int) ^ ((c : Nat) : Int).toNat)) H1
  rw [e]
  exact q _ H1 (Gr.refl _ _) (.int _)⟩
theorem ev_pow {a c : Int} (h : CPow a c) : EvD K (tOp (rI CPow fun i j => .int (i ^ j.toNat)) (tC (.int a)) (tC (.int c))) σ H (.int (a ^ c.toNat)) := fun H1 _ Q q => ⟨a, c, rfl, rfl, h, q _ H1 (Gr.refl _ _) (.int _)⟩
end
end Wn
namespace Wn
open PySem PySem.Spec PyProof.Rows L2
theorem tab_mk {K : PySem.W.Frag} {x : Str} {f c P : Addr} {oc c1 : Value} {od d1 : Option Addr} {fd : FuncData} {sl s1 : Array (Option Value)} {vs : Array Value} (a : PySem.W.nsIn K mainGlobals x = some (some (.ref f))) (l : K.lookup f = some ⟨oc, od, .func fd, sl⟩) (e : fd.code = .ref c)
    (l2 : K.lookup c = some ⟨c1, d1, .fields vs, s1⟩) (h : vs[11]? = some (.ref P)) : PySem.W.tabIn K x = some (c, P) := by
  unfold PySem.W.tabIn
  rw [a]
  dsimp only
  rw [l]
  dsimp only
  rw [e]
  dsimp only
  rw [l2]
  dsimp only
  rw [h]
end Wn
namespace Wn
open PySem PySem.Spec PyProof.Rows L2 LamX
section
variable {K : PySem.W.Frag} {T : List (Addr × Str)} {σ : L2.St} {H : Hp} {es : List (Addr × Str × Str)} {t : XK → TE} {d : PyData}
/-- .. over what stands here -/
theorem et_outV (h : ∀ (E : XK) (H1 : Hp), ExtN H H1 → ∀ Q : VK, (∀ v H2, Gr [] H1 H2 → Dp K H2 v d → Q v H2) → t E σ H1 Q) : EvT K T (tLam T (TTg es) t) σ H (.list [d]) := fun H1 g0 t1 Q q =>
  ⟨t1, fun H2 g2 t2 H3 Qn E g3 kn _ => h E H3 ((g0.trans g2).trans (extOf g3)) Qn fun v H4 g4 a => kn v H4 fun p np =>
    q _ _ (g2.trans (extOf ((g3.trans g4).trans (Gr.new np)))) (tabsGr t2 ((g3.trans g4).trans (Gr.new np))) (dp_lst upd_same (.cons (Dp.kp (Kp.of (Gr.new np)) a) .nil))⟩
theorem et_outX {C : Addr} {f w : Str} (hm : (C, f, w) ∈ es)
    (h : ∀ (E : XK) (H1 : Hp), ExtN H H1 → ∀ (Q : VK), (∀ (dd : Addr) (v : V) H2, Gr [] H1 H2 → H2 dd = some (.xd [(f, v)]) → Dp K H2 v d → E (.ref C) (some dd) H2) → t E σ H1 Q) : EvT K T (tLam T (TTg es) t) σ H (.tuple [.str w, d]) := fun H1 g0 t1 Q q =>
  ⟨t1, fun H2 g2 t2 H3 Qn E g3 _ ke => h E H3 ((g0.trans g2).trans (extOf g3)) Qn fun dd v H4 g4 hd a => ke C dd f w v H4 hm hd fun t' H5 g5 h5 =>
    q _ _ (g2.trans (extOf ((g3.trans g4).trans g5))) (tabsGr t2 ((g3.trans g4).trans g5)) (dp_tup h5 (.cons (.str _) (.cons (Dp.kp (Kp.of g5) a) .nil)))⟩
theorem EvT.on {te : TE} {H' : Hp} (h : EvT K T te σ H d) (g : ExtN H H') : EvT K T te σ H' d := fun H1 g1 t1 Q q => h H1 (g.trans g1) t1 Q q
end
end Wn
namespace Wn
open PySem PySem.Spec PyProof.Rows L2 LamX
section
variable {K : PySem.W.Frag} {T : List (Addr × Str)} {σ : L2.St} {H : Hp}
/-- the first part of «or» in a test, false -/
theorem ttt_orL {te : TE} {u : TT} {b : Bool} {Q : Bool → Hp → Prop} (t : Tabs T H) (h : EvT K T te σ H (.bool b)) (hb : b = false) (q : ∀ H2, ExtN H H2 → Tabs T H2 → u σ H2 Q) : tOr (tTest te) u σ H Q := h H (ExtN.refl _) t _ fun v H2 g2 t2 e => ⟨b, dp_bool e, iteFb hb (q H2 g2 t2)⟩
end
end Wn
namespace Wn
open PySem PySem.Spec PyProof.Rows L2
/-! a list grown: data in which no list of its size stands, stay -/
mutual
def noLen (n : Nat) : PyData → Bool
  | .list xs => decide (xs.length ≠ n) && noLenAll n xs
  | .tuple xs => noLenAll n xs
  | _ => true
def noLenAll (n : Nat) : List PyData → Bool
  | [] => true
  | x :: xs => noLen n x && noLenAll n xs
end
mutual
theorem Dp.app {K : PySem.W.Frag} {H : Hp} {l : Addr} {xs : List V} {y : V} (h : H l = some (.lst xs)) : ∀ {v : V} {d : PyData}, Dp K H v d → noLen xs.length d = true → Dp K (upd H l (.lst (xs ++ [y]))) v d
  | _, _, .non, _ => .non
  | _, _, .bl b, _ => .bl b
  | _, _, .int i, _ => .int i
  | _, _, .str z, _ => .str z
  | _, _, .lst (a := a) (xs := zs) (ds := ds) s t, n => by
    rw [noLen, Bool.and_eq_true, decide_eq_true_eq] at n
    have hl := dpAll_len t
    refine .lst ?_ (DpAll.app h t n.2)
    rcases s with (s | ⟨o, s⟩) | s
    · by_cases e : a = l
      · subst e
        rw [h] at s
        cases s
        exact absurd hl.symm n.1
      · exact .inl (.inl (by rw [upd_ne e]; exact s))
    · exact .inl (.inr ⟨o, by rw [upd_ne (fun e => by rw [e, h] at s; cases s)]; exact s⟩)
    · exact .inr s
  | _, _, .tup (a := a) (xs := zs) (ds := ds) s t, n => by
    rw [noLen] at n
    refine .tup ?_ (DpAll.app h t n)
    rcases s with (s | ⟨o, s⟩) | s
    · exact .inl (.inl (by rw [upd_ne (fun e => by rw [e, h] at s; cases s)]; exact s))
    · exact .inl (.inr ⟨o, by rw [upd_ne (fun e => by rw [e, h] at s; cases s)]; exact s⟩)
    · exact .inr s
theorem DpAll.app {K : PySem.W.Frag} {H : Hp} {l : Addr} {xs : List V} {y : V} (h : H l = some (.lst xs)) : ∀ {vs : List V} {ds : List PyData}, DpAll K H vs ds → noLenAll xs.length ds = true → DpAll K (upd H l (.lst (xs ++ [y]))) vs ds
  | _, _, .nil, _ => .nil
  | _, _, .cons a b, n => by
    rw [noLenAll, Bool.and_eq_true] at n
    exact .cons (Dp.app h a n.1) (DpAll.app h b n.2)
end
/-- the tables stay where a list grows -/
theorem tabsApp {T : List (Addr × Str)} {H : Hp} {l : Addr} {xs ys : List V} (t : LamX.Tabs T H) (h : H l = some (.lst xs)) : LamX.Tabs T (upd H l (.lst ys)) := fun p hp => by
  obtain ⟨ps, h1, h2, h3⟩ := t p hp
  refine ⟨ps, by rw [upd_ne (ne_of h1 h (by intro z; cases z))]; exact h1, h2, fun pos cv hc => ?_⟩
  obtain ⟨c, e1, e2⟩ := h3 pos cv hc
  exact ⟨c, e1, by rw [upd_ne (ne_of e2 h (by intro z; cases z))]; exact e2⟩
end Wn
namespace Wn
open PySem PySem.Spec PyProof.Rows L2 LamX
section
variable {K : PySem.W.Frag} {T : List (Addr × Str)} {σ : L2.St} {H : Hp}
theorem noLenAll_app (n : Nat) : ∀ xs ys : List PyData, noLenAll n (xs ++ ys) = (noLenAll n xs && noLenAll n ys)
  | [], ys => by simp [noLenAll]
  | x :: xs, ys => by
    have ih := noLenAll_app n xs ys
    show noLenAll n (x :: (xs ++ ys)) = _
    rw [noLenAll, noLenAll, ih, Bool.and_assoc]
/-- l.append(e) -/
theorem stt_app {te : TE} {i : Nat} {l : Addr} {xs : List V} {ds : List PyData} {d : PyData} {D : Ends} (t : Tabs T H) (hi : σ[i]? = some (some (.ref l))) (e : H l = some (.lst xs)) (a : DpAll K H xs ds) (h : EvT K T te σ H d) (hn : noLenAll ds.length (ds ++ [d]) = true) (hz : ds.length < 1000)
    (k : ∀ ys H2, Tabs T H2 → H2 l = some (.lst ys) → DpAll K H2 ys (ds ++ [d]) → D.nx σ H2) : tDrop (tBM K "list" rAppend (tVar i) (tCons te tNil)) D σ H := by
  refine ⟨_, hi, .inl ⟨rfl, _, sq_lst e⟩, ?_⟩
  refine h H (ExtN.refl _) t _ fun v H2 g2 t2 dv => ?_
  have hl := dpAll_len a
  have e2 := ExtN.lst g2 e
  have a2 := DpAll.kp (kpExt g2) a
  rw [noLenAll_app, Bool.and_eq_true] at hn
  have n2 : noLen ds.length d = true := by
    have := hn.2
    rw [noLenAll, Bool.and_eq_true] at this
    exact this.1
  refine ⟨l, xs, v, rfl, rfl, e2, Nat.lt_of_lt_of_le (show xs.length < 6000 by omega) (by decide), ?_⟩
  refine k (xs ++ [v]) _ (tabsApp t2 e2) upd_same (dpAll_append (DpAll.app e2 a2 (by rw [hl]; exact hn.1)) (.cons (Dp.app e2 dv (by rw [hl]; exact n2)) .nil))
theorem stt_set {te : TE} {i : Nat} {d : PyData} {D : Ends} (t : Tabs T H) (h : EvT K T te σ H d) (k : ∀ v H2, ExtN H H2 → Tabs T H2 → Dp K H2 v d → D.nx (σ.set i (some v)) H2) : tAsg te (gName i) D σ H := h H (ExtN.refl _) t _ k
theorem et_repr {te : TE} {d : PyData} (h : EvT K T te σ H d) (f : Fits d) : EvT K T (tCB (rRepr K) (tCons te tNil)) σ H (.str d.shown) := fun H1 g t Q q =>
  h H1 g t _ fun v H2 g2 t2 a => ⟨v, d, rfl, a, f, q _ H2 g2 t2 (.str _)⟩
/-- two texts compared -/
theorem et_eqS {ta tb : TE} {x y : Str} (h1 : EvT K T ta σ H (.str x)) (h2 : EvT K T tb σ H (.str y)) : EvT K T (tOp rEq ta tb) σ H (.bool (decide (x = y))) := fun H1 g t Q q =>
  h1 H1 g t _ fun v H2 g2 t2 a => h2 H2 (g.trans g2) t2 _ fun w H3 g3 t3 b => by
    have e1 : v = .str x := by cases a; rfl
    have e2 : w = .str y := by cases b; rfl
    subst e1 e2
    refine ⟨rfl, ?_⟩
    have e3 : decide (V.str x = V.str y) = decide (x = y) := by
      rw [decide_eq_decide]
      exact ⟨fun z => V.str.inj z, fun z => by rw [z]⟩
    show Q (.bl (decide (V.str x = V.str y))) H3
    rw [e3]
    exact q _ H3 (g2.trans g3) t3 (.bl _)
end
end Wn
namespace Wn
open PySem PySem.Spec PyProof.Rows L2
open LamX (Tabs ExtN tLam)
local macro_rules | `(tactic| walk_at "vc") => `(tactic| simp only [cxK, cxK2, start1, start2, start3, tRet, tRetN, tSeq, tNext, tIfS, tAsg, gName, tDrop, tVar, tC, tOp, tUn, tTest, tB, tNot, tAnd, tOr, tAndV, tOrV, tNotV, tIf, tCons, tNil, tCB, tCall, tChain, tAug, ipI, rI, rI0, rU, rIs, rGcd, rEq, rNe, scal,
  List.getElem?_cons_zero, List.getElem?_cons_succ, List.set_cons_zero, List.set_cons_succ, Option.some.injEq, List.cons.injEq, V.int.injEq, V.bl.injEq, V.ref.injEq, V.str.injEq, and_true, true_and, exists_eq_left, exists_eq_left', exists_and_left, exists_and_right, List.append_nil, List.nil_append, List.cons_append, exists_eq_right, exists_eq_right', and_assoc, exists_const, V.ty.injEq, ↓reduceIte, Bool.false_eq_true, Bool.not_true, Bool.not_false, decide_eq_true_eq])
def topS (i : Nat) : Stmt := PySem.Challenge.pw_wheelnines_k18_whole_texts.main.body.getD i (.Pass ⟨0, 0, 0, 0⟩)
abbrev s_is_integer : Stmt := topS 15
theorem sc_is_integer : FnScope ["value"] ["value"] (defScope s_is_integer) := ⟨rfl, rfl, rfl, by decide +kernel, rfl, by decide +kernel, by decide +kernel⟩
abbrev s_is_within : Stmt := topS 16
theorem sc_is_within : FnScope ["value", "low", "high"] ["value", "low", "high"] (defScope s_is_within) := ⟨rfl, rfl, rfl, by decide +kernel, rfl, by decide +kernel, by decide +kernel⟩
abbrev s_need_base : Stmt := topS 17
theorem sc_need_base : FnScope ["value"] ["value"] (defScope s_need_base) := ⟨rfl, rfl, rfl, by decide +kernel, rfl, by decide +kernel, by decide +kernel⟩
abbrev s_need_denominator : Stmt := topS 18
theorem sc_need_denominator : FnScope ["value"] ["value"] (defScope s_need_denominator) := ⟨rfl, rfl, rfl, by decide +kernel, rfl, by decide +kernel, by decide +kernel⟩
abbrev s_need_fraction : Stmt := topS 19
theorem sc_need_fraction : FnScope ["value", "numerator", "denominator"] ["value"] (defScope s_need_fraction) := ⟨rfl, rfl, rfl, by decide +kernel, rfl, by decide +kernel, by decide +kernel⟩
abbrev s_pure_part : Stmt := topS 20
theorem sc_pure_part : FnScope ["base", "denominator", "pure", "common"] ["base", "denominator"] (defScope s_pure_part) := ⟨rfl, rfl, rfl, by decide +kernel, rfl, by decide +kernel, by decide +kernel⟩
abbrev s_period : Stmt := topS 21
theorem sc_period : FnScope ["base", "denominator", "pure", "one", "rest", "size"] ["base", "denominator"] (defScope s_period) := ⟨rfl, rfl, rfl, by decide +kernel, rfl, by decide +kernel, by decide +kernel⟩
abbrev s_head_size : Stmt := topS 22
theorem sc_head_size : FnScope ["base", "denominator", "impure", "rest", "size"] ["base", "denominator"] (defScope s_head_size) := ⟨rfl, rfl, rfl, by decide +kernel, rfl, by decide +kernel, by decide +kernel⟩
abbrev s_power : Stmt := topS 23
theorem sc_power : FnScope ["number", "exponent", "result", "_"] ["number", "exponent"] (defScope s_power) := ⟨rfl, rfl, rfl, by decide +kernel, rfl, by decide +kernel, by decide +kernel⟩
abbrev s_are_digits : Stmt := topS 26
theorem sc_are_digits : FnScope ["base", "value", "least", "digit"] ["base", "value", "least"] (defScope s_are_digits) := ⟨rfl, rfl, rfl, by decide +kernel, rfl, by decide +kernel, by decide +kernel⟩
abbrev s_need_digits : Stmt := topS 27
theorem sc_need_digits : FnScope ["base", "value"] ["base", "value"] (defScope s_need_digits) := ⟨rfl, rfl, rfl, by decide +kernel, rfl, by decide +kernel, by decide +kernel⟩
abbrev s_number_of : Stmt := topS 28
theorem sc_number_of : FnScope ["base", "row", "number", "digit"] ["base", "row"] (defScope s_number_of) := ⟨rfl, rfl, rfl, by decide +kernel, rfl, by decide +kernel, by decide +kernel⟩
abbrev s_divided : Stmt := topS 29
theorem sc_divided : FnScope ["base", "remainder", "denominator", "count", "row", "rest", "_"] ["base", "remainder", "denominator", "count"] (defScope s_divided) := ⟨rfl, rfl, rfl, by decide +kernel, rfl, by decide +kernel, by decide +kernel⟩
abbrev s_expansion : Stmt := topS 30
theorem sc_expansion : FnScope ["base", "fraction", "numerator", "denominator", "size", "row"] ["base", "fraction"] (defScope s_expansion) := ⟨rfl, rfl, rfl, by decide +kernel, rfl, by decide +kernel, by decide +kernel⟩
abbrev s_fraction_of : Stmt := topS 31
theorem sc_fraction_of : FnScope ["base", "head", "digits", "nines", "numerator", "denominator", "common"] ["base", "head", "digits"] (defScope s_fraction_of) := ⟨rfl, rfl, rfl, by decide +kernel, rfl, by decide +kernel, by decide +kernel⟩
abbrev s_need_string : Stmt := topS 34
theorem sc_need_string : FnScope ["value"] ["value"] (defScope s_need_string) := ⟨rfl, rfl, rfl, by decide +kernel, rfl, by decide +kernel, by decide +kernel⟩
abbrev s_run_size : Stmt := topS 35
theorem sc_run_size : FnScope ["text", "size"] ["text"] (defScope s_run_size) := ⟨rfl, rfl, rfl, by decide +kernel, rfl, by decide +kernel, by decide +kernel⟩
abbrev s_integer_in : Stmt := topS 36
theorem sc_integer_in : FnScope ["text"] ["text"] (defScope s_integer_in) := ⟨rfl, rfl, rfl, by decide +kernel, rfl, by decide +kernel, by decide +kernel⟩
abbrev s_fraction_text : Stmt := topS 37
theorem sc_fraction_text : FnScope ["fraction", "numerator", "denominator"] ["fraction"] (defScope s_fraction_text) := ⟨rfl, rfl, rfl, by decide +kernel, rfl, by decide +kernel, by decide +kernel⟩
abbrev s_read_fraction : Stmt := topS 38
theorem sc_read_fraction : FnScope ["string", "size", "numerator", "denominator"] ["string"] (defScope s_read_fraction) := ⟨rfl, rfl, rfl, by decide +kernel, rfl, by decide +kernel, by decide +kernel⟩
abbrev s_expansion_text : Stmt := topS 39
theorem sc_expansion_text : FnScope ["base", "fraction", "head", "repetend", "words", "digit"] ["base", "fraction"] (defScope s_expansion_text) := ⟨rfl, rfl, rfl, by decide +kernel, rfl, by decide +kernel, by decide +kernel⟩
abbrev s_digits_in : Stmt := topS 40
theorem sc_digits_in : FnScope ["base", "words", "row", "word", "digit"] ["base", "words"] (defScope s_digits_in) := ⟨rfl, rfl, rfl, by decide +kernel, rfl, by decide +kernel, by decide +kernel⟩
abbrev s_need_word : Stmt := topS 41
theorem sc_need_word : FnScope ["words", "at", "word"] ["words", "at", "word"] (defScope s_need_word) := ⟨rfl, rfl, rfl, by decide +kernel, rfl, by decide +kernel, by decide +kernel⟩
abbrev s_read_expansion : Stmt := topS 42
theorem sc_read_expansion : FnScope ["base", "string", "words", "head", "start", "repetend", "end"] ["base", "string"] (defScope s_read_expansion) := ⟨rfl, rfl, rfl, by decide +kernel, rfl, by decide +kernel, by decide +kernel⟩
abbrev s_law_begun : Stmt := topS 44
theorem sc_law_begun : FnScope ["script", "great", "cell"] ["script"] (defScope s_law_begun) := ⟨rfl, rfl, rfl, by decide +kernel, rfl, by decide +kernel, by decide +kernel⟩
abbrev s_law_draw : Stmt := topS 45
theorem sc_law_draw : FnScope ["m", "limit", "found", "spot", "cell", "mixed"] ["m", "limit"] (defScope s_law_draw) := ⟨rfl, rfl, rfl, by decide +kernel, rfl, by decide +kernel, by decide +kernel⟩
abbrev s_law_of : Stmt := topS 46
theorem sc_law_of : FnScope ["m", "some"] ["m", "some"] (defScope s_law_of) := ⟨rfl, rfl, rfl, by decide +kernel, rfl, by decide +kernel, by decide +kernel⟩
abbrev s_law_divisor : Stmt := topS 47
theorem sc_law_divisor : FnScope ["one", "other"] ["one", "other"] (defScope s_law_divisor) := ⟨rfl, rfl, rfl, by decide +kernel, rfl, by decide +kernel, by decide +kernel⟩
abbrev s_law_part : Stmt := topS 48
theorem sc_law_part : FnScope ["m", "most", "n", "x"] ["m", "most"] (defScope s_law_part) := ⟨rfl, rfl, rfl, by decide +kernel, rfl, by decide +kernel, by decide +kernel⟩
abbrev s_law_ring : Stmt := topS 49
theorem sc_law_ring : FnScope ["b", "part", "x", "n", "row", "spots"] ["b", "part"] (defScope s_law_ring) := ⟨rfl, rfl, rfl, by decide +kernel, rfl, by decide +kernel, by decide +kernel⟩
abbrev s_law_spread : Stmt := topS 50
theorem sc_law_spread : FnScope ["b", "part", "row", "begin", "figs", "x"] ["b", "part"] (defScope s_law_spread) := ⟨rfl, rfl, rfl, by decide +kernel, rfl, by decide +kernel, by decide +kernel⟩
abbrev s_law_base : Stmt := topS 51
theorem sc_law_base : FnScope ["m"] ["m"] (defScope s_law_base) := ⟨rfl, rfl, rfl, by decide +kernel, rfl, by decide +kernel, by decide +kernel⟩
abbrev s_law_word : Stmt := topS 52
theorem sc_law_word : FnScope ["error", "found"] ["error"] (defScope s_law_word) := ⟨rfl, rfl, rfl, by decide +kernel, rfl, by decide +kernel, by decide +kernel⟩
abbrev s_law_outcome : Stmt := topS 53
theorem sc_law_outcome : FnScope ["call", "found", "error", "e"] ["call"] (defScope s_law_outcome) := ⟨rfl, rfl, rfl, by decide +kernel, rfl, by decide +kernel, by decide +kernel⟩
abbrev s_law_text : Stmt := topS 54
theorem sc_law_text : FnScope ["head", "ring", "fig"] ["head", "ring"] (defScope s_law_text) := ⟨rfl, rfl, rfl, by decide +kernel, rfl, by decide +kernel, by decide +kernel⟩
abbrev s_law_right : Stmt := topS 55
theorem sc_law_right : FnScope ["m", "b", "part", "kept", "own", "head", "ring", "full", "heard", "some", "text", "low"] ["m", "b", "part"] (defScope s_law_right) := ⟨rfl, rfl, rfl, by decide +kernel, rfl, by decide +kernel, by decide +kernel⟩
abbrev s_law : Stmt := topS 56
theorem sc_law : FnScope ["script", "m", "lap", "heard"] ["script"] (defScope s_law) := ⟨rfl, rfl, rfl, by decide +kernel, rfl, by decide +kernel, by decide +kernel⟩
def clsB (st : Stmt) (j : Nat) : Stmt := match st with
  | .ClassDef (body := b) .. => b.getD j (.Pass ⟨0, 0, 0, 0⟩)
  | _ => .Pass ⟨0, 0, 0, 0⟩
abbrev s_TooGreat_init : Stmt := clsB (topS 10) 0
theorem sc_TooGreat_init : FnScope ["self", "most"] ["self", "most"] (defScope s_TooGreat_init) := ⟨rfl, rfl, rfl, by decide +kernel, rfl, by decide +kernel, by decide +kernel⟩
abbrev s_Nothing_init : Stmt := clsB (topS 11) 0
theorem sc_Nothing_init : FnScope ["self", "value"] ["self", "value"] (defScope s_Nothing_init) := ⟨rfl, rfl, rfl, by decide +kernel, rfl, by decide +kernel, by decide +kernel⟩
structure Txt (K : PySem.W.Frag) (mg : Str → Option Value) where
  d_is_integer : Dn K mg "is_integer" s_is_integer ["value"]
  d_is_within : Dn K mg "is_within" s_is_within ["value", "low", "high"]
  d_need_base : Dn K mg "need_base" s_need_base ["value"]
  d_need_denominator : Dn K mg "need_denominator" s_need_denominator ["value"]
  d_need_fraction : Dn K mg "need_fraction" s_need_fraction ["value"]
  d_pure_part : Dn K mg "pure_part" s_pure_part ["base", "denominator"]
  d_period : Dn K mg "period" s_period ["base", "denominator"]
  d_head_size : Dn K mg "head_size" s_head_size ["base", "denominator"]
  d_power : Dn K mg "power" s_power ["number", "exponent"]
  d_are_digits : Dn K mg "are_digits" s_are_digits ["base", "value", "least"]
  d_need_digits : Dn K mg "need_digits" s_need_digits ["base", "value"]
  d_number_of : Dn K mg "number_of" s_number_of ["base", "row"]
  d_divided : Dn K mg "divided" s_divided ["base", "remainder", "denominator", "count"]
  d_expansion : Dn K mg "expansion" s_expansion ["base", "fraction"]
  d_fraction_of : Dn K mg "fraction_of" s_fraction_of ["base", "head", "digits"]
  d_need_string : Dn K mg "need_string" s_need_string ["value"]
  d_run_size : Dn K mg "run_size" s_run_size ["text"]
  d_integer_in : Dn K mg "integer_in" s_integer_in ["text"]
  d_fraction_text : Dn K mg "fraction_text" s_fraction_text ["fraction"]
  d_read_fraction : Dn K mg "read_fraction" s_read_fraction ["string"]
  d_expansion_text : Dn K mg "expansion_text" s_expansion_text ["base", "fraction"]
  d_digits_in : Dn K mg "digits_in" s_digits_in ["base", "words"]
  d_need_word : Dn K mg "need_word" s_need_word ["words", "at", "word"]
  d_read_expansion : Dn K mg "read_expansion" s_read_expansion ["base", "string"]
  d_law_begun : Dn K mg "_law_begun" s_law_begun ["script"]
  d_law_draw : Dn K mg "_law_draw" s_law_draw ["m", "limit"]
  d_law_of : Dn K mg "_law_of" s_law_of ["m", "some"]
  d_law_divisor : Dn K mg "_law_divisor" s_law_divisor ["one", "other"]
  d_law_part : Dn K mg "_law_part" s_law_part ["m", "most"]
  d_law_ring : Dn K mg "_law_ring" s_law_ring ["b", "part"]
  d_law_spread : Dn K mg "_law_spread" s_law_spread ["b", "part"]
  d_law_base : Dn K mg "_law_base" s_law_base ["m"]
  d_law_word : Dn K mg "_law_word" s_law_word ["error"]
  d_law_outcome : Dn K mg "_law_outcome" s_law_outcome ["call"]
  d_law_text : Dn K mg "_law_text" s_law_text ["head", "ring"]
  d_law_right : Dn K mg "_law_right" s_law_right ["m", "b", "part"]
  d_law : Dn K mg "law" s_law ["script"]
  b_isinstance : mg "isinstance" = none
  b_int : mg "int" = none
  b_bool : mg "bool" = none
  b_str : mg "str" = none
  b_len : mg "len" = none
  b_range : mg "range" = none
  b_tuple : mg "tuple" = none
  b_list : mg "list" = none
  b_min : mg "min" = none
  b_repr : mg "repr" = none
  b_all : mg "all" = none
  b_OverflowError : mg "OverflowError" = none
  b_LookupError : mg "LookupError" = none
  b_gcd : mg "gcd" = some (.builtin "math.gcd")
  C_WheelError : Addr
  g_WheelError : mg "WheelError" = some (.ref C_WheelError)
  r_WheelError : ClX.CRead K C_WheelError (.type "type")
  i_WheelError : PySem.W.findCls K (.ref C_WheelError) (.type "type") "__init__" = some (.val (.builtin "ValueError.__init__"))
  C_BadBase : Addr
  g_BadBase : mg "BadBase" = some (.ref C_BadBase)
  C_BadDenominator : Addr
  g_BadDenominator : mg "BadDenominator" = some (.ref C_BadDenominator)
  C_BadFraction : Addr
  g_BadFraction : mg "BadFraction" = some (.ref C_BadFraction)
  C_BadDigits : Addr
  g_BadDigits : mg "BadDigits" = some (.ref C_BadDigits)
  C_BadNumber : Addr
  g_BadNumber : mg "BadNumber" = some (.ref C_BadNumber)
  C_BadPaper : Addr
  g_BadPaper : mg "BadPaper" = some (.ref C_BadPaper)
  C_BadText : Addr
  g_BadText : mg "BadText" = some (.ref C_BadText)
  C_TooGreat : Addr
  g_TooGreat : mg "TooGreat" = some (.ref C_TooGreat)
  I_TooGreat : Addr
  T_TooGreat : ErrC K C_TooGreat I_TooGreat "most" "OverflowError" "OverflowError.__new__" "OverflowError.__init__" [.type "OverflowError", .type "ArithmeticError", .type "Exception", .type "BaseException", .type "object"]
  fd_TooGreat : FuncData
  F_TooGreat : Fun K "__init__" "TooGreat.__init__" s_TooGreat_init I_TooGreat fd_TooGreat
  b_TooGreat : Binds K fd_TooGreat ["self", "most"] []
  is_TooGreat : IsC K C_TooGreat
  C_Nothing : Addr
  g_Nothing : mg "Nothing" = some (.ref C_Nothing)
  I_Nothing : Addr
  T_Nothing : ErrC K C_Nothing I_Nothing "value" "LookupError" "LookupError.__new__" "LookupError.__init__" [.type "LookupError", .type "Exception", .type "BaseException", .type "object"]
  fd_Nothing : FuncData
  F_Nothing : Fun K "__init__" "Nothing.__init__" s_Nothing_init I_Nothing fd_Nothing
  b_Nothing : Binds K fd_Nothing ["self", "value"] []
  is_Nothing : IsC K C_Nothing
  kit_TooGreat_BadBase : PySem.W.kitOne K (.ref C_TooGreat) (.ref C_BadBase) = some false
  kit_TooGreat_BadDenominator : PySem.W.kitOne K (.ref C_TooGreat) (.ref C_BadDenominator) = some false
  kit_TooGreat_BadFraction : PySem.W.kitOne K (.ref C_TooGreat) (.ref C_BadFraction) = some false
  kit_TooGreat_BadDigits : PySem.W.kitOne K (.ref C_TooGreat) (.ref C_BadDigits) = some false
  kit_TooGreat_BadNumber : PySem.W.kitOne K (.ref C_TooGreat) (.ref C_BadNumber) = some false
  kit_TooGreat_BadPaper : PySem.W.kitOne K (.ref C_TooGreat) (.ref C_BadPaper) = some false
  kit_TooGreat_BadText : PySem.W.kitOne K (.ref C_TooGreat) (.ref C_BadText) = some false
  kit_TooGreat_TooGreat : PySem.W.kitOne K (.ref C_TooGreat) (.ref C_TooGreat) = some true
  kit_TooGreat_Nothing : PySem.W.kitOne K (.ref C_TooGreat) (.ref C_Nothing) = some false
  exm_TooGreat : PySem.W.exmAny K (.ref C_TooGreat) [.ref C_WheelError, .ref C_Nothing, .ref C_TooGreat] = some true
  kit_Nothing_BadBase : PySem.W.kitOne K (.ref C_Nothing) (.ref C_BadBase) = some false
  kit_Nothing_BadDenominator : PySem.W.kitOne K (.ref C_Nothing) (.ref C_BadDenominator) = some false
  kit_Nothing_BadFraction : PySem.W.kitOne K (.ref C_Nothing) (.ref C_BadFraction) = some false
  kit_Nothing_BadDigits : PySem.W.kitOne K (.ref C_Nothing) (.ref C_BadDigits) = some false
  kit_Nothing_BadNumber : PySem.W.kitOne K (.ref C_Nothing) (.ref C_BadNumber) = some false
  kit_Nothing_BadPaper : PySem.W.kitOne K (.ref C_Nothing) (.ref C_BadPaper) = some false
  kit_Nothing_BadText : PySem.W.kitOne K (.ref C_Nothing) (.ref C_BadText) = some false
  kit_Nothing_TooGreat : PySem.W.kitOne K (.ref C_Nothing) (.ref C_TooGreat) = some false
  kit_Nothing_Nothing : PySem.W.kitOne K (.ref C_Nothing) (.ref C_Nothing) = some true
  exm_Nothing : PySem.W.exmAny K (.ref C_Nothing) [.ref C_WheelError, .ref C_Nothing, .ref C_TooGreat] = some true
  i_LookupError : PySem.W.findCls K (.type "LookupError") (.type "type") "__init__" = some (.val (.builtin "LookupError.__init__"))
  i_OverflowError : PySem.W.findCls K (.type "OverflowError") (.type "type") "__init__" = some (.val (.builtin "OverflowError.__init__"))
  k_law_right : Addr
  p_law_right : Addr
  e_law_right : d_law_right.fd.code = .ref k_law_right
  k_law : Addr
  p_law : Addr
  e_law : d_law.fd.code = .ref k_law
  ne_law_right_law : p_law_right ≠ p_law
  t_MOST_BASE : Tok
  c_MOST_BASE : mg "MOST_BASE" = some (.int 1000 t_MOST_BASE)
  t_MOST_DENOMINATOR : Tok
  c_MOST_DENOMINATOR : mg "MOST_DENOMINATOR" = some (.int 5000 t_MOST_DENOMINATOR)
  t_MOST_DIGITS : Tok
  c_MOST_DIGITS : mg "MOST_DIGITS" = some (.int 400 t_MOST_DIGITS)
  t_MOST_LENGTH : Tok
  c_MOST_LENGTH : mg "MOST_LENGTH" = some (.int 40 t_MOST_LENGTH)
section
variable {P : Program} {w : World} {K : PySem.W.Frag} {mg : Str → Option Value} {base : Heap}

def BN (b n : Nat) : Prop := 2 ≤ b ∧ b ≤ 1000 ∧ 1 ≤ n ∧ n ≤ 5000
def sp_is_integer : Sp := fun vs H Q _ => ∃ i : Int, vs = [.int i] ∧ Q (.bl true) H
def sp_is_within : Sp := fun vs H Q _ => ∃ i lo hi : Int, vs = [.int i, .int lo, .int hi] ∧ (lo ≤ i ∧ i ≤ hi) ∧ Q (.bl true) H
def sp_need_base : Sp := fun vs H Q _ => ∃ i : Int, vs = [.int i] ∧ (2 ≤ i ∧ i ≤ 1000) ∧ Q (.int i) H
def sp_need_denominator : Sp := fun vs H Q _ => ∃ i : Int, vs = [.int i] ∧ (1 ≤ i ∧ i ≤ 5000) ∧ Q (.int i) H
def sp_need_fraction : Sp := fun vs H Q _ => ∃ (a : Addr) (x n : Nat), vs = [.ref a] ∧ H a = some (.tup [.int x, .int n]) ∧ (x < n ∧ n ≤ 5000 ∧ Nat.gcd x n = 1) ∧ Q (.ref a) H
def sp_pure_part : Sp := fun vs H Q _ => ∃ b n : Nat, vs = [.int b, .int n] ∧ BN b n ∧ ∀ p : Nat, IsPure b n p → Q (.int p) H
def sp_period : Sp := fun vs H Q _ => ∃ b n : Nat, vs = [.int b, .int n] ∧ BN b n ∧ ∀ p d : Nat, IsPure b n p → IsPer b p d → Q (.int d) H
def sp_head_size : Sp := fun vs H Q _ => ∃ b n : Nat, vs = [.int b, .int n] ∧ BN b n ∧ ∀ p q h : Nat, IsPure b n p → n = p * q → IsHead b q h → Q (.int h) H
theorem ok_is_integer (T : Txt K mg) : FnOk P w K mg base CX0 1 T.d_is_integer.f T.d_is_integer.fd ["value"] sp_is_integer := by
  refine T.d_is_integer.F.ok sc_is_integer (fun vs H Q E h => ?_) (fun cdv A outer s H vs Q E hr h => ?_)
  · obtain ⟨i, rfl, _⟩ := h; rfl
  · have hu := hu_of hr
    refine ⟨_, (pss_one (ps_ret (pe_and (pe_callB (r := rIs K) call_is (by rfl) T.b_isinstance (by decide +kernel) (pa_cons (pv 0) (pa_cons (pe_bltn (v := .ty "int") (by rfl) T.b_int (by decide +kernel) rfl) pa_nil))) (pe_one (pe_not (pe_callB (r := rIs K) call_is (by rfl) T.b_isinstance (by decide +kernel) (pa_cons (pv 0) (pa_cons (pe_bltn (v := .ty "bool") (by rfl) T.b_bool (by decide +kernel) rfl) pa_nil)))))))), ?_⟩
    obtain ⟨i, rfl, q⟩ := h
    walk_at "vc"
    refine ⟨"int", ty_int, by decide, by decide, iteT ⟨"int", ty_int, by decide, by decide, q⟩⟩
theorem ok_is_within (T : Txt K mg) : FnOk P w K mg base CX0 2 T.d_is_within.f T.d_is_within.fd ["value", "low", "high"] sp_is_within := by
  refine T.d_is_within.F.ok sc_is_within (fun vs H Q E h => ?_) (fun cdv A outer s H vs Q E hr h => ?_)
  · obtain ⟨i, lo, hi, rfl, _⟩ := h; rfl
  · have hu := hu_of hr
    refine ⟨_, (pss_one (ps_ret (pe_and (pe_call (ok_is_integer T) (hr.mono (by decide)) (by rfl) T.d_is_integer.m T.d_is_integer.F.kp T.d_is_integer.b .nil pass0 (pa_cons (pv 0) pa_nil)) (pe_one (pe_chain op_le op_le (pv 1) (pv 0) (pv 2)))))), ?_⟩
    obtain ⟨i, lo, hi, rfl, ⟨h1, h2⟩, q⟩ := h
    refine ⟨_, rfl, i, rfl, true, rfl, iteT ?_⟩
    walk_at "vc"
    rw [if_pos h1, decide_eq_true h2]
    exact q
theorem ok_need_base (T : Txt K mg) : FnOk P w K mg base CX0 3 T.d_need_base.f T.d_need_base.fd ["value"] sp_need_base := by
  refine T.d_need_base.F.ok sc_need_base (fun vs H Q E h => ?_) (fun cdv A outer s H vs Q E hr h => ?_)
  · obtain ⟨i, rfl, _⟩ := h; rfl
  · have hu := hu_of hr
    refine ⟨_, (pss_cons (ps_if (pt_not (pt_val (pe_call (ok_is_within T) (hr.mono (by decide)) (by rfl) T.d_is_within.m T.d_is_within.F.kp T.d_is_within.b .nil pass0 (pa_cons (pv 0) (pa_cons pe_int (pa_cons (pe_glob (v := .int 1000) (by rfl) T.c_MOST_BASE ⟨_, rfl⟩) pa_nil)))))) (pss_one ps_never) pss_nil)
      (pss_one (ps_ret (pv 0)))), ?_⟩
    obtain ⟨i, rfl, ⟨h1, h2⟩, q⟩ := h
    refine ⟨_, rfl, i, _, _, rfl, ⟨h1, h2⟩, true, rfl, iteF ?_⟩
    exact ⟨_, rfl, q⟩
theorem ok_need_denominator (T : Txt K mg) : FnOk P w K mg base CX0 3 T.d_need_denominator.f T.d_need_denominator.fd ["value"] sp_need_denominator := by
  refine T.d_need_denominator.F.ok sc_need_denominator (fun vs H Q E h => ?_) (fun cdv A outer s H vs Q E hr h => ?_)
  · obtain ⟨i, rfl, _⟩ := h; rfl
  · have hu := hu_of hr
    refine ⟨_, (pss_cons (ps_if (pt_not (pt_val (pe_call (ok_is_within T) (hr.mono (by decide)) (by rfl) T.d_is_within.m T.d_is_within.F.kp T.d_is_within.b .nil pass0 (pa_cons (pv 0) (pa_cons pe_int (pa_cons (pe_glob (v := .int 5000) (by rfl) T.c_MOST_DENOMINATOR ⟨_, rfl⟩) pa_nil)))))) (pss_one ps_never) pss_nil)
      (pss_one (ps_ret (pv 0)))), ?_⟩
    obtain ⟨i, rfl, ⟨h1, h2⟩, q⟩ := h
    refine ⟨_, rfl, i, _, _, rfl, ⟨h1, h2⟩, true, rfl, iteF ?_⟩
    exact ⟨_, rfl, q⟩
theorem ok_need_fraction (T : Txt K mg) : FnOk P w K mg base CX0 3 T.d_need_fraction.f T.d_need_fraction.fd ["value"] sp_need_fraction := by
  refine T.d_need_fraction.F.ok sc_need_fraction (fun vs H Q E h => ?_) (fun cdv A outer s H vs Q E hr h => ?_)
  · obtain ⟨a, x, n, rfl, _⟩ := h; rfl
  · have hu := hu_of hr
    refine ⟨_, (pss_cons (ps_if (PW.pt (pw_or (pt_not (pt_val (pe_callB (r := rIs K) call_is (by rfl) T.b_isinstance (by decide +kernel) (pa_cons (pv 0) (pa_cons (pe_bltn (v := .ty "tuple") (by rfl) T.b_tuple (by decide +kernel) rfl) pa_nil))))) (pw_or1 (pt_cmpR op_ne (pe_callB (r := rLn K) call_ln (by rfl) T.b_len PySem.boot_len (pa_cons (pv 0) pa_nil)) pe_int (nomark _))))) (pss_one ps_never) pss_nil)
      (pss_cons (ps_asg (pv 0) (pg_tup (by rfl) (pgs_cons (pg_name (i := 1) sc_need_fraction.nd rfl (by first | exact .inl rfl | exact .inr rfl)) (pgs_cons (pg_name (i := 2) sc_need_fraction.nd rfl (by first | exact .inl rfl | exact .inr rfl)) pgs_nil))))
      (pss_cons (ps_if (PW.pt (pw_or (pt_not (pt_val (pe_call (ok_is_within T) (hr.mono (by decide)) (by rfl) T.d_is_within.m T.d_is_within.F.kp T.d_is_within.b .nil pass0 (pa_cons (pv 2) (pa_cons pe_int (pa_cons (pe_glob (v := .int 5000) (by rfl) T.c_MOST_DENOMINATOR ⟨_, rfl⟩) pa_nil)))))) (pw_or1 (pt_not (pt_val (pe_call (ok_is_within T) (hr.mono (by decide)) (by rfl) T.d_is_within.m T.d_is_within.F.kp T.d_is_within.b .nil pass0 (pa_cons (pv 1) (pa_cons pe_int (pa_cons (pe_op op_sub (pv 2) pe_int) pa_nil))))))))) (pss_one ps_never) pss_nil)
      (pss_cons (ps_if (pt_cmpR op_ne (pe_callBfun cr_gcd (by rfl) T.b_gcd (pa_cons (pv 1) (pa_cons (pv 2) pa_nil))) pe_int (nomark _)) (pss_one ps_never) pss_nil)
      (pss_one (ps_ret (pv 0))))))), ?_⟩
    obtain ⟨a, x, n, rfl, ha, ⟨h1, h2, h3⟩, q⟩ := h
    refine ⟨_, rfl, _, "tuple", rfl, "tuple", ⟨ty_tup ha, by decide, by decide⟩, true, rfl, ?_⟩
    refine iteF ⟨_, rfl, a, _, rfl, .inr (sq_tup ha), rfl, _, rfl, ?_⟩
    refine iteF ?_
    refine ⟨_, rfl, a, _, rfl, sq_tup ha, rfl, _, _, rfl, _, _, rfl, rfl, ?_⟩
    refine ⟨_, rfl, n, _, _, rfl, ⟨by omega, by omega⟩, true, rfl, iteF ?_⟩
    refine ⟨_, rfl, _, rfl, n, 1, rfl, rfl, x, _, _, rfl, ⟨by omega, by omega⟩, true, rfl, iteF ?_⟩
    refine ⟨_, rfl, _, rfl, x, n, rfl, rfl, _, rfl, ?_⟩
    have e : (!decide (V.int ((Nat.gcd (x : Int).natAbs (n : Int).natAbs : Nat) : Int) = V.int 1)) = false := by
      rw [Int.natAbs_natCast, Int.natAbs_natCast, h3]
      rfl
    rw [e]
    exact iteF ⟨_, rfl, q⟩
theorem ok_pure_part (T : Txt K mg) : FnOk P w K mg base CX0 4 T.d_pure_part.f T.d_pure_part.fd ["base", "denominator"] sp_pure_part := by
  refine T.d_pure_part.F.ok sc_pure_part (fun vs H Q E h => ?_) (fun cdv A outer s H vs Q E hr h => ?_)
  · obtain ⟨b, n, rfl, _⟩ := h; rfl
  · have hu := hu_of hr
    refine ⟨_, (pss_cons (ps_expr (pe_call (ok_need_base T) (hr.mono (by decide)) (by rfl) T.d_need_base.m T.d_need_base.F.kp T.d_need_base.b .nil pass0 (pa_cons (pv 0) pa_nil)))
      (pss_cons (ps_expr (pe_call (ok_need_denominator T) (hr.mono (by decide)) (by rfl) T.d_need_denominator.m T.d_need_denominator.F.kp T.d_need_denominator.b .nil pass0 (pa_cons (pv 1) pa_nil)))
      (pss_cons (ps_set (i := 2) sc_pure_part.nd rfl (by first | exact .inl rfl | exact .inr rfl) (pv 1))
      (pss_cons (ps_set (i := 3) sc_pure_part.nd rfl (by first | exact .inl rfl | exact .inr rfl) (pe_callBfun cr_gcd (by rfl) T.b_gcd (pa_cons (pv 0) (pa_cons (pv 2) pa_nil))))
      (pss_cons (ps_while PassesOwn.never (pt_cmpR op_gt (pv 3) pe_int (nomark _)) (pss_cons (ps_set (i := 2) sc_pure_part.nd rfl (by first | exact .inl rfl | exact .inr rfl) (pe_op op_fdiv (pv 2) (pv 3)))
      (pss_one (ps_set (i := 3) sc_pure_part.nd rfl (by first | exact .inl rfl | exact .inr rfl) (pe_callBfun cr_gcd (by rfl) T.b_gcd (pa_cons (pv 0) (pa_cons (pv 2) pa_nil)))))))
      (pss_one (ps_ret (pv 2)))))))), ?_⟩
    obtain ⟨b, n, rfl, ⟨hb1, hb2, hn1, hn2⟩, q⟩ := h
    refine ⟨_, rfl, b, rfl, ⟨by omega, by omega⟩, ?_⟩
    refine ⟨_, rfl, n, rfl, ⟨by omega, by omega⟩, ?_⟩
    refine ⟨_, rfl, _, rfl, _, rfl, b, n, rfl, ?_⟩
    refine ⟨fun m σ H' => H' = H ∧ ∃ p r k : Nat, m = p ∧ σ = [some (.int b), some (.int n), some (.int p), some (.int (Nat.gcd b p : Nat))] ∧ 1 ≤ p ∧ n = p * r ∧ r ∣ b ^ k, ⟨n, rfl, n, 1, 0, rfl, rfl, hn1, by simp, by simp⟩, ?_⟩
    rintro m σ H' ⟨rfl, p, r, k, rfl, rfl, hp, hn, hr'⟩
    have hpn : m ≤ 5000 := by
      have : m ∣ n := ⟨r, hn⟩
      have := Nat.le_of_dvd hn1 this
      omega
    have hgm : Nat.gcd b m ≤ m := Nat.gcd_le_right b hp
    have hg1 : 1 ≤ Nat.gcd b m := Nat.gcd_pos_of_pos_right b hp
    refine ⟨_, rfl, _, 1, rfl, rfl, _, rfl, ?_⟩
    by_cases hc : (1 : Int) < ((Nat.gcd b m : Nat) : Int)
    · rw [decide_eq_true hc]
      refine iteT ⟨fun σ' H2 => H2 = H' ∧ ∃ p r k : Nat, p < m ∧ σ' = [some (.int b), some (.int n), some (.int p), some (.int (Nat.gcd b p : Nat))] ∧ 1 ≤ p ∧ n = p * r ∧ r ∣ b ^ k, ?_, ?_⟩
      · rintro σ' H2 ⟨rfl, p, r, k, h1, h2, h3, h4, h5⟩
        exact ⟨p, h1, rfl, p, r, k, rfl, h2, h3, h4, h5⟩
      · refine ⟨_, rfl, _, rfl, m, Nat.gcd b m, rfl, rfl, ⟨by omega, by omega⟩, ?_⟩
        dsimp only
        rw [← Int.natCast_ediv]
        refine ⟨_, rfl, _, rfl, b, ((m / Nat.gcd b m : Nat) : Int), rfl, ?_⟩
        obtain ⟨c, hc'⟩ := Nat.gcd_dvd_right b m
        have hq : m / Nat.gcd b m = c := by
          rw [Nat.div_eq_iff_eq_mul_right hg1 (Nat.gcd_dvd_right b m)]
          exact hc'
        have hc1 : 1 ≤ c := by
          rcases Nat.eq_zero_or_pos c with z | z
          · rw [z] at hc'
            omega
          · exact z
        have hcl : c < m := by
          have hg2 : 2 ≤ Nat.gcd b m := by omega
          have : 2 * c ≤ Nat.gcd b m * c := Nat.mul_le_mul_right c hg2
          omega
        refine ⟨rfl, c, Nat.gcd b m * r, k + 1, hcl, ?_, hc1, ?_, ?_⟩
        · rw [hq]
          rfl
        · rw [hn]
          conv => lhs; rw [hc']
          rw [Nat.mul_comm (Nat.gcd b m) c, Nat.mul_assoc]
        · rw [Nat.pow_succ, Nat.mul_comm (b ^ k) b]
          exact Nat.mul_dvd_mul (Nat.gcd_dvd_left b m) hr'
    · rw [decide_eq_false hc]
      refine iteF ⟨_, rfl, ?_⟩
      exact q m ⟨by omega, r, k, hn, hr'⟩
theorem ok_period (T : Txt K mg) : FnOk P w K mg base CX0 5 T.d_period.f T.d_period.fd ["base", "denominator"] sp_period := by
  refine T.d_period.F.ok sc_period (fun vs H Q E h => ?_) (fun cdv A outer s H vs Q E hr h => ?_)
  · obtain ⟨b, n, rfl, _⟩ := h; rfl
  · have hu := hu_of hr
    refine ⟨_, (pss_cons (ps_set (i := 2) sc_period.nd rfl (by first | exact .inl rfl | exact .inr rfl) (pe_call (ok_pure_part T) (hr.mono (by decide)) (by rfl) T.d_pure_part.m T.d_pure_part.F.kp T.d_pure_part.b .nil pass0 (pa_cons (pv 0) (pa_cons (pv 1) pa_nil))))
      (pss_cons (ps_set (i := 3) sc_period.nd rfl (by first | exact .inl rfl | exact .inr rfl) (pe_op op_mod pe_int (pv 2)))
      (pss_cons (ps_set (i := 4) sc_period.nd rfl (by first | exact .inl rfl | exact .inr rfl) (pe_op op_mod (pv 0) (pv 2)))
      (pss_cons (ps_set (i := 5) sc_period.nd rfl (by first | exact .inl rfl | exact .inr rfl) pe_int)
      (pss_cons (ps_while PassesOwn.never (pt_cmpR op_ne (pv 4) (pv 3) (nomark _)) (pss_cons (ps_set (i := 4) sc_period.nd rfl (by first | exact .inl rfl | exact .inr rfl) (pe_op op_mod (pe_op op_mul (pv 4) (pv 0)) (pv 2)))
      (pss_one (ps_aug (i := 5) sc_period.nd rfl (by first | exact .inl rfl | exact .inr rfl) pe_int ip_add))))
      (pss_one (ps_ret (pv 5)))))))), ?_⟩
    obtain ⟨b, n, rfl, hbn, q⟩ := h
    have hbn' := id hbn
    obtain ⟨hb1, hb2, hn1, hn2⟩ := hbn
    refine ⟨_, rfl, _, rfl, b, n, rfl, hbn', fun p hp => ?_⟩
    obtain ⟨g0, r0, k0, e0, d0⟩ := id hp
    have hp1 : 1 ≤ p := by
      rcases Nat.eq_zero_or_pos p with z | z
      · rw [z] at e0
        omega
      · exact z
    have hpn : p ≤ 5000 := by
      have : p ∣ n := ⟨r0, e0⟩
      have := Nat.le_of_dvd hn1 this
      omega
    obtain ⟨d, hdp, hd⟩ := per_exists hp1 g0
    refine ⟨_, rfl, 1, p, rfl, rfl, (show (0 : Int) < (p : Int) by omega), ?_⟩
    refine ⟨_, rfl, _, rfl, b, p, rfl, rfl, (show (0 : Int) < (p : Int) by omega), ?_⟩
    have e1 : (1 : Int) % (p : Int) = ((1 % p : Nat) : Int) := by rw [Int.natCast_emod]; rfl
    have e2 : (b : Int) % (p : Int) = ((b ^ 1 % p : Nat) : Int) := by rw [Int.natCast_emod, Nat.pow_one]
    refine ⟨fun m σ H' => H' = H ∧ ∃ k : Nat, m = d - k ∧ σ = [some (.int b), some (.int n), some (.int p), some (.int (1 % p : Nat)), some (.int (b ^ k % p : Nat)), some (.int k)] ∧ 1 ≤ k ∧ k ≤ d, ⟨d - 1, rfl, 1, rfl, ?_, Nat.le_refl _, hd.1⟩, ?_⟩
    · rw [← e1, ← e2]
      rfl
    rintro m σ H' ⟨rfl, k, rfl, rfl, hk1, hk2⟩
    refine ⟨_, rfl, _, rfl, rfl, _, rfl, ?_⟩
    by_cases hc : b ^ k % p = 1 % p
    · have hkd : k = d := by
        apply Nat.le_antisymm hk2
        apply Nat.le_of_not_lt
        intro l
        exact hd.2.2 k hk1 l hc
      rw [decide_eq_true (show V.int ((b ^ k % p : Nat) : Int) = V.int ((1 % p : Nat) : Int) by rw [hc])]
      refine iteF ⟨_, rfl, ?_⟩
      rw [hkd]
      exact q p d hp hd
    · rw [decide_eq_false (show ¬ V.int ((b ^ k % p : Nat) : Int) = V.int ((1 % p : Nat) : Int) from fun z => hc (by have := V.int.inj z; omega))]
      have hkd : k < d := by
        rcases Nat.lt_or_eq_of_le hk2 with l | l
        · exact l
        · subst l
          exact absurd hd.2.1 hc
      refine iteT ⟨fun σ' H2 => H2 = H' ∧ σ' = [some (.int b), some (.int n), some (.int p), some (.int (1 % p : Nat)), some (.int (b ^ (k + 1) % p : Nat)), some (.int (k + 1 : Nat))], ?_, ?_⟩
      · rintro σ' H2 ⟨rfl, rfl⟩
        exact ⟨d - (k + 1), by omega, rfl, k + 1, rfl, rfl, by omega, hkd⟩
      · have hlt : b ^ k % p < p := Nat.mod_lt _ hp1
        refine ⟨_, rfl, _, rfl, _, b, rfl, rfl, .inl ⟨by omega, by omega⟩, _, rfl, _, p, rfl, rfl, (show (0 : Int) < (p : Int) by omega), ?_⟩
        dsimp only
        rw [icm, pow_mod_step]
        exact ⟨_, rfl, _, _, rfl, rfl, rfl, rfl⟩
theorem ok_head_size (T : Txt K mg) : FnOk P w K mg base CX0 5 T.d_head_size.f T.d_head_size.fd ["base", "denominator"] sp_head_size := by
  refine T.d_head_size.F.ok sc_head_size (fun vs H Q E h => ?_) (fun cdv A outer s H vs Q E hr h => ?_)
  · obtain ⟨b, n, rfl, _⟩ := h; rfl
  · have hu := hu_of hr
    refine ⟨_, (pss_cons (ps_set (i := 2) sc_head_size.nd rfl (by first | exact .inl rfl | exact .inr rfl) (pe_op op_fdiv (pv 1) (pe_call (ok_pure_part T) (hr.mono (by decide)) (by rfl) T.d_pure_part.m T.d_pure_part.F.kp T.d_pure_part.b .nil pass0 (pa_cons (pv 0) (pa_cons (pv 1) pa_nil)))))
      (pss_cons (ps_set (i := 3) sc_head_size.nd rfl (by first | exact .inl rfl | exact .inr rfl) (pe_op op_mod pe_int (pv 2)))
      (pss_cons (ps_set (i := 4) sc_head_size.nd rfl (by first | exact .inl rfl | exact .inr rfl) pe_int)
      (pss_cons (ps_while PassesOwn.never (pt_cmpR op_ne (pv 3) pe_int (nomark _)) (pss_cons (ps_set (i := 3) sc_head_size.nd rfl (by first | exact .inl rfl | exact .inr rfl) (pe_op op_mod (pe_op op_mul (pv 3) (pv 0)) (pv 2)))
      (pss_one (ps_aug (i := 4) sc_head_size.nd rfl (by first | exact .inl rfl | exact .inr rfl) pe_int ip_add))))
      (pss_one (ps_ret (pv 4))))))), ?_⟩
    obtain ⟨b, n, rfl, hbn, q⟩ := h
    have hbn' := id hbn
    obtain ⟨hb1, hb2, hn1, hn2⟩ := hbn
    refine ⟨_, rfl, _, rfl, _, rfl, b, n, rfl, hbn', fun p hp => ?_⟩
    obtain ⟨g0, r, k0, e0, d0⟩ := id hp
    have hp1 : 1 ≤ p := by
      rcases Nat.eq_zero_or_pos p with z | z
      · rw [z] at e0
        omega
      · exact z
    have hr1 : 1 ≤ r := by
      rcases Nat.eq_zero_or_pos r with z | z
      · rw [z] at e0
        omega
      · exact z
    have hpn : p ≤ 5000 := by
      have : p ∣ n := ⟨r, e0⟩
      have := Nat.le_of_dvd hn1 this
      omega
    have hrn : r ≤ 5000 := by
      have : r ∣ n := ⟨p, by rw [e0, Nat.mul_comm]⟩
      have := Nat.le_of_dvd hn1 this
      omega
    obtain ⟨d, hdk, hd⟩ := head_exists d0
    have hdr : d ≤ r := head_le hr1 hd
    refine ⟨n, p, rfl, rfl, ⟨by omega, by omega⟩, ?_⟩
    have e3 : (n : Int) / (p : Int) = ((r : Nat) : Int) := by
      rw [← Int.natCast_ediv, e0, Nat.mul_div_cancel_left r hp1]
    dsimp only
    rw [e3]
    refine ⟨_, rfl, 1, r, rfl, rfl, (show (0 : Int) < (r : Int) by omega), ?_⟩
    have e1 : (1 : Int) % (r : Int) = ((b ^ 0 % r : Nat) : Int) := by rw [Int.natCast_emod, Nat.pow_zero]; rfl
    refine ⟨fun m σ H' => H' = H ∧ ∃ k : Nat, m = d - k ∧ σ = [some (.int b), some (.int n), some (.int r), some (.int (b ^ k % r : Nat)), some (.int k)] ∧ k ≤ d, ⟨d, rfl, 0, rfl, ?_, Nat.zero_le _⟩, ?_⟩
    · rw [← e1]
      rfl
    rintro m σ H' ⟨rfl, k, rfl, rfl, hk2⟩
    refine ⟨_, rfl, rfl, _, rfl, ?_⟩
    by_cases hc : b ^ k % r = 0
    · have hkd : k = d := by
        apply Nat.le_antisymm hk2
        apply Nat.le_of_not_lt
        intro l
        exact hd.2 k l hc
      rw [decide_eq_true (show V.int ((b ^ k % r : Nat) : Int) = V.int 0 by rw [hc]; rfl)]
      refine iteF ⟨_, rfl, ?_⟩
      rw [hkd]
      exact q p r d hp e0 hd
    · rw [decide_eq_false (show ¬ V.int ((b ^ k % r : Nat) : Int) = V.int 0 from fun z => hc (by have := V.int.inj z; omega))]
      have hkd : k < d := by
        rcases Nat.lt_or_eq_of_le hk2 with l | l
        · exact l
        · subst l
          exact absurd hd.1 hc
      refine iteT ⟨fun σ' H2 => H2 = H' ∧ σ' = [some (.int b), some (.int n), some (.int r), some (.int (b ^ (k + 1) % r : Nat)), some (.int (k + 1 : Nat))], ?_, ?_⟩
      · rintro σ' H2 ⟨rfl, rfl⟩
        exact ⟨d - (k + 1), by omega, rfl, k + 1, rfl, rfl, hkd⟩
      · have hlt : b ^ k % r < r := Nat.mod_lt _ hr1
        refine ⟨_, rfl, _, rfl, _, b, rfl, rfl, .inl ⟨by omega, by omega⟩, _, rfl, _, r, rfl, rfl, (show (0 : Int) < (r : Int) by omega), ?_⟩
        dsimp only
        rw [icm, pow_mod_step]
        exact ⟨_, rfl, _, _, rfl, rfl, rfl, rfl⟩

/-- the digits of a division that has come to x: so many of them -/
def dgs (b n x c : Nat) : List V := (List.range c).map fun i => V.int ((rem b n x i * b / n : Nat) : Int)
def sp_divided : Sp := fun vs H Q _ => ∃ b x n c : Nat, vs = [.int b, .int x, .int n, .int c] ∧ (BN b n ∧ x < n ∧ c ≤ 10000) ∧ ∀ t H', Gr [] H H' → H' t = some (.tup (dgs b n x c)) → Q (.ref t) H'
theorem ok_divided (T : Txt K mg) : FnOk P w K mg base CX0 1 T.d_divided.f T.d_divided.fd ["base", "remainder", "denominator", "count"] sp_divided := by
  refine T.d_divided.F.ok sc_divided (fun vs H Q E h => ?_) (fun cdv A outer s H vs Q E hr h => ?_)
  · obtain ⟨b, x, n, c, rfl, _⟩ := h; rfl
  · have hu := hu_of hr
    refine ⟨_, (pss_cons (ps_set (i := 4) sc_divided.nd rfl (by first | exact .inl rfl | exact .inr rfl) (pe_lst pa_nil))
      (pss_cons (ps_set (i := 5) sc_divided.nd rfl (by first | exact .inl rfl | exact .inr rfl) (pv 1))
      (pss_cons (ps_for PassesOwn.never rfl (pi_range1 (by rfl) T.b_range (pa_cons (pv 3) pa_nil)) (pg_name (i := 6) sc_divided.nd rfl (by first | exact .inl rfl | exact .inr rfl)) (pss_cons (ps_expr (pe_bm PySem.F.plainAttrs_list PySem.F.slot_list_append PySem.F.type_list_append mt_append (pv 4) (pa_cons (pe_op op_fdiv (pe_op op_mul (pv 5) (pv 0)) (pv 2)) pa_nil)))
      (pss_one (ps_set (i := 5) sc_divided.nd rfl (by first | exact .inl rfl | exact .inr rfl) (pe_op op_mod (pe_op op_mul (pv 5) (pv 0)) (pv 2))))))
      (pss_one (ps_ret (pe_callTy (r := rTpO K) call_tpO (by rfl) T.b_tuple (by decide +kernel) (pa_cons (pv 4) pa_nil))))))), ?_⟩
    obtain ⟨b, x, n, c, rfl, ⟨⟨hb1, hb2, hn1, hn2⟩, hx, hc⟩, q⟩ := h
    refine ⟨Nat.zero_le _, fun l hl => ?_⟩
    refine ⟨_, rfl, _, rfl, (c : Int), rfl, by omega, by omega, ?_⟩
    refine for_range (lo := 0) (n := (c : Int).toNat) (fun i σ H' => Gr [] H H' ∧ H' l = some (.lst (dgs b n x i)) ∧ ∃ v, σ = [some (.int b), some (.int x), some (.int n), some (.int c), some (.ref l), some (.int (rem b n x i : Nat)), v]) ⟨Gr.new hl, upd_same, none, ?_⟩ ?_ ?_
    · rw [rem_zero hx]
      rfl
    · rintro i σ H' hi ⟨hg, hL, v, rfl⟩
      have hlt : rem b n x i < n := rem_lt hn1
      refine ⟨_, rfl, .inl ⟨rfl, _, sq_lst hL⟩, _, rfl, _, rfl, _, b, rfl, rfl, .inl ⟨by omega, by omega⟩, _, rfl, _, n, rfl, rfl, ⟨by omega, by omega⟩, ?_⟩
      refine ⟨l, _, _, rfl, rfl, hL, ?_, ?_⟩
      · unfold dgs
        rw [List.length_map, List.length_range]
        exact Nat.lt_of_lt_of_le (show i < 20000 by omega) (by decide)
      · refine ⟨_, rfl, _, rfl, _, b, rfl, rfl, .inl ⟨by omega, by omega⟩, _, rfl, _, n, rfl, rfl, (show (0 : Int) < (n : Int) by omega), ?_⟩
        dsimp only
        rw [icm, rem_succ, icd]
        refine ⟨fun a o _ e => ?_, ?_, _, rfl⟩
        · rw [upd_ne (ne_of_none e hl)]
          exact hg a o (by simp) e
        · rw [upd_same]
          unfold dgs
          rw [List.range_succ, List.map_append]
          rfl
    · rintro σ H' ⟨hg, hL, v, rfl⟩
      rw [Int.toNat_natCast] at hL
      refine ⟨_, rfl, l, _, rfl, .inl ⟨sq_lst hL, fun t ht => ?_⟩⟩
      exact q t _ (hg.trans (Gr.new ht)) upd_same

def dgf (b n x lo c : Nat) : List V := (List.range c).map fun i => V.int ((rem b n x (lo + i) * b / n : Nat) : Int)
structure Exp (H : Hp) (r : Addr) (b x n h L : Nat) : Prop where
  at_ : ∃ a c, H r = some (.tup [.ref a, .ref c]) ∧ H a = some (.tup (dgf b n x 0 h)) ∧ H c = some (.tup (dgf b n x h L))
def sp_expansion : Sp := fun vs H Q _ => ∃ (b x n : Nat) (a : Addr), vs = [.int b, .ref a] ∧ H a = some (.tup [.int x, .int n]) ∧ (BN b n ∧ x < n ∧ Nat.gcd x n = 1) ∧
  ∀ p q h L t H', IsPure b n p → n = p * q → IsHead b q h → IsPer b p L → Gr [] H H' → Exp H' t b x n h L → Q (.ref t) H'
theorem ok_expansion (T : Txt K mg) : FnOk P w K mg base CX0 6 T.d_expansion.f T.d_expansion.fd ["base", "fraction"] sp_expansion := by
  refine T.d_expansion.F.ok sc_expansion (fun vs H Q E h => ?_) (fun cdv A outer s H vs Q E hr h => ?_)
  · obtain ⟨b, x, n, a, rfl, _⟩ := h; rfl
  · have hu := hu_of hr
    refine ⟨_, (pss_cons (ps_expr (pe_call (ok_need_base T) (hr.mono (by decide)) (by rfl) T.d_need_base.m T.d_need_base.F.kp T.d_need_base.b .nil pass0 (pa_cons (pv 0) pa_nil)))
      (pss_cons (ps_asg (pe_call (ok_need_fraction T) (hr.mono (by decide)) (by rfl) T.d_need_fraction.m T.d_need_fraction.F.kp T.d_need_fraction.b .nil pass0 (pa_cons (pv 1) pa_nil)) (pg_tup (by rfl) (pgs_cons (pg_name (i := 2) sc_expansion.nd rfl (by first | exact .inl rfl | exact .inr rfl)) (pgs_cons (pg_name (i := 3) sc_expansion.nd rfl (by first | exact .inl rfl | exact .inr rfl)) pgs_nil))))
      (pss_cons (ps_set (i := 4) sc_expansion.nd rfl (by first | exact .inl rfl | exact .inr rfl) (pe_call (ok_head_size T) (hr.mono (by decide)) (by rfl) T.d_head_size.m T.d_head_size.F.kp T.d_head_size.b .nil pass0 (pa_cons (pv 0) (pa_cons (pv 3) pa_nil))))
      (pss_cons (ps_set (i := 5) sc_expansion.nd rfl (by first | exact .inl rfl | exact .inr rfl) (pe_call (ok_divided T) (hr.mono (by decide)) (by rfl) T.d_divided.m T.d_divided.F.kp T.d_divided.b .nil pass0 (pa_cons (pv 0) (pa_cons (pv 2) (pa_cons (pv 3) (pa_cons (pe_op op_add (pv 4) (pe_call (ok_period T) (hr.mono (by decide)) (by rfl) T.d_period.m T.d_period.F.kp T.d_period.b .nil pass0 (pa_cons (pv 0) (pa_cons (pv 3) pa_nil)))) pa_nil))))))
      (pss_one (ps_ret (pe_tup (pa_cons (pe_slice (r := rSlA K) sl_tupA (pv 5) po_none (po_some (pv 4))) (pa_cons (pe_slice (r := rSlA K) sl_tupA (pv 5) (po_some (pv 4)) po_none) pa_nil))))))))), ?_⟩
    obtain ⟨b, x, n, a, rfl, ha, ⟨hbn, hx, hg⟩, q⟩ := h
    have hbn' := id hbn
    obtain ⟨hb1, hb2, hn1, hn2⟩ := hbn
    refine ⟨_, rfl, b, rfl, ⟨by omega, by omega⟩, ?_⟩
    refine ⟨_, rfl, a, x, n, rfl, ha, ⟨hx, hn2, hg⟩, ?_⟩
    refine ⟨a, _, rfl, sq_tup ha, rfl, _, _, rfl, _, _, rfl, rfl, ?_⟩
    refine ⟨_, rfl, _, rfl, b, n, rfl, hbn', fun p r h hp e0 hh => ?_⟩
    refine ⟨_, rfl, _, rfl, _, rfl, _, rfl, _, rfl, _, rfl, b, n, rfl, hbn', fun p' L hp' hL => ?_⟩
    have ep : p' = p := hp'.uniq hp
    subst ep
    obtain ⟨g0, r0, k0, e00, d0⟩ := id hp
    have hp1 : 1 ≤ p' := by
      rcases Nat.eq_zero_or_pos p' with z | z
      · rw [z] at e0
        omega
      · exact z
    have hr1 : 1 ≤ r := by
      rcases Nat.eq_zero_or_pos r with z | z
      · rw [z] at e0
        omega
      · exact z
    have hLn : L ≤ 5000 := by
      obtain ⟨d, hd, hd'⟩ := per_exists hp1 g0
      have := hd'.uniq hL
      have : p' ∣ n := ⟨r, e0⟩
      have := Nat.le_of_dvd hn1 this
      omega
    have hhn : h ≤ 5000 := by
      have := head_le hr1 hh
      have : r ∣ n := ⟨p', by rw [e0, Nat.mul_comm]⟩
      have := Nat.le_of_dvd hn1 this
      omega
    refine ⟨h, L, rfl, rfl, b, x, n, h + L, rfl, ⟨hbn', hx, by omega⟩, fun t H1 g1 h1 => ?_⟩
    refine ⟨_, rfl, _, rfl, (h : Int), rfl, slA_of h1 fun a2 H2 g2 h2 => ?_⟩
    have h1' := g2 t _ (by simp) h1
    refine ⟨_, rfl, _, rfl, (h : Int), rfl, ?_⟩
    dsimp only [tNoPart]
    refine slA_of h1' fun a3 H3 g3 h3 => ?_
    refine ⟨by show 2 ≤ sizeLine; decide, fun t4 n4 => ?_⟩
    refine q p' r h L t4 _ hp e0 hh hL ((g1.trans g2).trans (g3.trans (Gr.new n4))) ⟨a2, a3, upd_same, ?_, ?_⟩
    · have h2' := g3 a2 _ (by simp) h2
      rw [upd_ne (ne_of_none h2' n4), h2', cut_lo (by unfold dgs; rw [List.length_map, List.length_range]; omega)]
      unfold dgs dgf
      rw [← List.map_take, List.take_range, Nat.min_eq_left (by omega)]
      simp
    · rw [upd_ne (ne_of_none h3 n4), h3, cut_hi (by unfold dgs; rw [List.length_map, List.length_range]; omega)]
      unfold dgs dgf
      rw [← List.map_drop]
      congr 2
      apply List.ext_getElem
      · simp
      · intro i i1 i2
        simp

/-! the state of the draws -/
def mkv (c : Addr) (l s : Int) : List (Key × V) := [(Sum.inr "cells", .ref c), (Sum.inr "left", .int l), (Sum.inr "spot", .int s)]
theorem k_cl : ¬ (("cells" : Str) = "left") := by decide +kernel
theorem k_cs : ¬ (("cells" : Str) = "spot") := by decide +kernel
theorem k_ls : ¬ (("left" : Str) = "spot") := by decide +kernel
theorem k_sl : ¬ (("spot" : Str) = "left") := by decide +kernel
theorem k_lc : ¬ (("left" : Str) = "cells") := by decide +kernel
theorem k_sc : ¬ (("spot" : Str) = "cells") := by decide +kernel
theorem mv_c (c : Addr) (l s : Int) : valV (mkv c l s) (Sum.inr "cells" : Key) = some (.ref c) := by
  unfold mkv
  rw [valV_pos rfl]
theorem mv_l (c : Addr) (l s : Int) : valV (mkv c l s) (Sum.inr "left" : Key) = some (.int l) := by
  unfold mkv
  rw [valV_neg (by intro z; exact k_cl (Sum.inr.inj z)), valV_pos rfl]
theorem mv_s (c : Addr) (l s : Int) : valV (mkv c l s) (Sum.inr "spot" : Key) = some (.int s) := by
  unfold mkv
  rw [valV_neg (by intro z; exact k_cs (Sum.inr.inj z)), valV_neg (by intro z; exact k_ls (Sum.inr.inj z)), valV_pos rfl]
theorem mp_l (c : Addr) (l s l' : Int) : putK (mkv c l s) (Sum.inr "left" : Key) (.int l') = mkv c l' s := by
  unfold mkv putK
  simp [k_cl, k_sl]
theorem mp_s (c : Addr) (l s s' : Int) : putK (mkv c l s) (Sum.inr "spot" : Key) (.int s') = mkv c l s' := by
  unfold mkv putK
  simp [k_cs, k_ls]
theorem mm (c : Addr) (l s : Int) : mergeK [] (mkv c l s) = mkv c l s := by
  unfold mkv mergeK putK
  simp [k_cs, k_ls, k_cl]
theorem dg_c {H : Hp} {d c : Addr} {l s : Int} (h : H d = some (.dK (mkv c l s))) : DGet H d (.str "cells") (some (.ref c)) := by
  rw [← mv_c c l s]
  exact DGet.k (k := Sum.inr "cells") h
theorem dg_l {H : Hp} {d c : Addr} {l s : Int} (h : H d = some (.dK (mkv c l s))) : DGet H d (.str "left") (some (.int l)) := by
  rw [← mv_l c l s]
  exact DGet.k (k := Sum.inr "left") h
theorem dg_s {H : Hp} {d c : Addr} {l s : Int} (h : H d = some (.dK (mkv c l s))) : DGet H d (.str "spot") (some (.int s)) := by
  rw [← mv_s c l s]
  exact DGet.k (k := Sum.inr "spot") h
theorem dp_l {H : Hp} {d c : Addr} {l s l' : Int} (h : H d = some (.dK (mkv c l s))) : DPut H d (.str "left") (.int l') (upd H d (.dK (mkv c l' s))) := by
  rw [← mp_l c l s l']
  exact DPut.k (k := Sum.inr "left") h (by show 3 < sizeLine; decide)
theorem dp_s {H : Hp} {d c : Addr} {l s s' : Int} (h : H d = some (.dK (mkv c l s))) : DPut H d (.str "spot") (.int s') (upd H d (.dK (mkv c l s'))) := by
  rw [← mp_s c l s s']
  exact DPut.k (k := Sum.inr "spot") h (by show 3 < sizeLine; decide)
def MOk (H : Hp) (d : Addr) (n : Nat) : Prop := ∃ (c : Addr) (xs : List Int) (l s : Int), H d = some (.dK (mkv c l s)) ∧ H c = some (.lst (xs.map V.int)) ∧ xs ≠ [] ∧ 0 ≤ s ∧ s ≤ (n : Int)
theorem MOk.gr {H H' : Hp} {d : Addr} {n : Nat} (h : MOk H d n) (g : Gr [] H H') : MOk H' d n := by
  obtain ⟨c, xs, l, s, h1, h2, h3⟩ := h
  exact ⟨c, xs, l, s, g d _ (by simp) h1, g c _ (by simp) h2, h3⟩
theorem MOk.mono {H : Hp} {d : Addr} {n n' : Nat} (h : MOk H d n) (g : n ≤ n') : MOk H d n' := by
  obtain ⟨c, xs, l, s, h1, h2, h3, h4, h5⟩ := h
  exact ⟨c, xs, l, s, h1, h2, h3, h4, by omega⟩
theorem MOk.ne {H : Hp} {d a : Addr} {n : Nat} {o : HO} (h : MOk H d n) (e : H a = some o) (k : ∀ kvs, o ≠ .dK kvs) : a ∉ [d] := by
  obtain ⟨c, xs, l, s, h1, _⟩ := h
  intro z
  rw [List.mem_singleton] at z
  subst z
  rw [h1] at e
  exact k _ (Option.some.inj e).symm
/-! what draws leave as it was: lists, tuples -/
theorem MOk.lst {H H' : Hp} {d a : Addr} {n : Nat} {xs : List V} (h : MOk H d n) (g : Gr [d] H H') (e : H a = some (.lst xs)) : H' a = some (.lst xs) := g a _ (h.ne e (fun _ z => by cases z)) e
theorem MOk.tup {H H' : Hp} {d a : Addr} {n : Nat} {xs : List V} (h : MOk H d n) (g : Gr [d] H H') (e : H a = some (.tup xs)) : H' a = some (.tup xs) := g a _ (h.ne e (fun _ z => by cases z)) e
def sp_law_draw : Sp := fun vs H Q _ => ∃ (d : Addr) (lim n : Nat), vs = [.ref d, .int lim] ∧ MOk H d n ∧ (1 ≤ lim ∧ lim ≤ 1000000000 ∧ n ≤ 1000000000000) ∧
  ∀ (r : Nat) H', r < lim → Gr [d] H H' → MOk H' d (n + 1) → Q (.int r) H'
theorem imod_nat (x : Int) (lim : Nat) (h : 1 ≤ lim) : ∃ r : Nat, x % (lim : Int) = (r : Int) ∧ r < lim := by
  have h1 := Int.emod_nonneg x (show (lim : Int) ≠ 0 by omega)
  have h2 := Int.emod_lt_of_pos x (show (0 : Int) < (lim : Int) by omega)
  exact ⟨(x % (lim : Int)).toNat, by omega, by omega⟩
theorem ok_law_draw (T : Txt K mg) : FnOk P w K mg base CX0 1 T.d_law_draw.f T.d_law_draw.fd ["m", "limit"] sp_law_draw := by
  refine T.d_law_draw.F.ok sc_law_draw (fun vs H Q E h => ?_) (fun cdv A outer s H vs Q E hr h => ?_)
  · obtain ⟨d, lim, n, rfl, _⟩ := h; rfl
  · have hu := hu_of hr
    refine ⟨_, (pss_cons (ps_if (pt_cmpR op_gt (pe_dget hu (pv 0) pe_str (fun _ _ => rfl)) pe_int (nomark _)) (pss_cons (ps_set (i := 2) sc_law_draw.nd rfl (by first | exact .inl rfl | exact .inr rfl) (pe_op op_mod (pe_callTy call_int1 (by rfl) T.b_int (by decide +kernel) (pa_cons (pe_dget hu (pv 0) pe_str (fun _ _ => rfl)) pa_nil)) (pv 1)))
      (pss_cons (ps_dput hu (pv 0) pe_str (pe_op op_fdiv (pe_dget hu (pv 0) pe_str (fun _ _ => rfl)) (pv 1)) rfl)
      (pss_one (ps_ret (pv 2))))) pss_nil)
      (pss_cons (ps_set (i := 3) sc_law_draw.nd rfl (by first | exact .inl rfl | exact .inr rfl) (pe_op op_add (pe_dget hu (pv 0) pe_str (fun _ _ => rfl)) pe_int))
      (pss_cons (ps_dput hu (pv 0) pe_str (pv 3) rfl)
      (pss_cons (ps_set (i := 4) sc_law_draw.nd rfl (by first | exact .inl rfl | exact .inr rfl) (pe_ix (r := rIxL K) ix_list (pe_dget hu (pv 0) pe_str (fun _ _ => rfl)) (pe_op op_mod (pe_callTy call_int1 (by rfl) T.b_int (by decide +kernel) (pa_cons (pv 3) pa_nil)) (pe_callB (r := rLn K) call_ln (by rfl) T.b_len PySem.boot_len (pa_cons (pe_dget hu (pv 0) pe_str (fun _ _ => rfl)) pa_nil))) (fun _ _ => rfl)))
      (pss_cons (ps_set (i := 5) sc_law_draw.nd rfl (by first | exact .inl rfl | exact .inr rfl) (pe_op op_mul (pe_callTy call_int1 (by rfl) T.b_int (by decide +kernel) (pa_cons (pe_op op_add (pe_op op_add (pe_op op_mod (pe_callTy call_int1 (by rfl) T.b_int (by decide +kernel) (pa_cons (pv 4) pa_nil)) pe_int) (pe_op op_mul pe_int (pv 3))) (pe_op op_mul (pe_op op_mul pe_int (pv 3)) (pv 3))) pa_nil)) pe_int))
      (pss_cons (ps_set (i := 5) sc_law_draw.nd rfl (by first | exact .inl rfl | exact .inr rfl) (pe_op op_mul (pe_callTy call_int1 (by rfl) T.b_int (by decide +kernel) (pa_cons (pe_op op_add (pe_op op_mod (pe_callTy call_int1 (by rfl) T.b_int (by decide +kernel) (pa_cons (pv 5) pa_nil)) pe_int) (pe_op op_mul pe_int (pv 3))) pa_nil)) pe_int))
      (pss_one (ps_ret (pe_op op_mod (pe_callTy call_int1 (by rfl) T.b_int (by decide +kernel) (pa_cons (pe_op op_fdiv (pe_op op_mod (pe_callTy call_int1 (by rfl) T.b_int (by decide +kernel) (pa_cons (pv 5) pa_nil)) pe_int) pe_int) pa_nil)) (pv 1)))))))))), ?_⟩
    obtain ⟨d, lim, n, rfl, ⟨c, xs, l, z, hd, hc, hx, hz0, hzn⟩, ⟨h1, h2, h3⟩, q⟩ := h
    have hdc : d ≠ c := ne_of hd hc (by intro q; cases q)
    refine ⟨_, rfl, d, _, rfl, dg_l hd, l, 0, rfl, rfl, _, rfl, ?_⟩
    have hl0 : (0 : Int) < (lim : Int) := by omega
    by_cases hl : (0 : Int) < l
    · rw [decide_eq_true hl]
      refine iteT ⟨_, rfl, d, _, rfl, dg_l hd, .inl ⟨l, rfl, _, rfl, l, lim, rfl, rfl, hl0, ?_⟩⟩
      obtain ⟨r, er, hr1⟩ := imod_nat l lim h1
      dsimp only
      rw [er]
      refine ⟨_, rfl, d, _, rfl, dg_l hd, _, rfl, l, lim, rfl, rfl, ⟨hl0, by omega⟩, _, rfl, d, _, rfl, dp_l hd, _, rfl, ?_⟩
      refine q r _ hr1 (Gr.wr (by simp)) ⟨c, xs, l / lim, z, upd_same, ?_, hx, hz0, by omega⟩
      rw [upd_ne hdc.symm]
      exact hc
    · rw [decide_eq_false hl]
      refine iteF ?_
      refine ⟨_, rfl, d, _, rfl, dg_s hd, z, 1, rfl, rfl, ?_⟩
      refine ⟨_, rfl, _, rfl, d, _, rfl, dp_s hd, ?_⟩
      have hd' : (upd H d (.dK (mkv c l (z + 1)))) d = some (.dK (mkv c l (z + 1))) := upd_same
      have hc' : (upd H d (.dK (mkv c l (z + 1)))) c = some (.lst (xs.map V.int)) := by
        rw [upd_ne hdc.symm]
        exact hc
      have hxl : 1 ≤ xs.length := by
        cases xs with
        | nil => exact absurd rfl hx
        | cons x r => simp
      refine ⟨_, rfl, d, _, rfl, dg_c hd', _, rfl, .inl ⟨z + 1, rfl, _, rfl, d, _, rfl, dg_c hd', c, _, rfl, .inl (sq_lst hc'), _, _, rfl, rfl, ?_, ?_⟩⟩
      · rw [List.length_map]
        omega
      rw [List.length_map]
      obtain ⟨j, ej, hj⟩ := imod_nat (z + 1) xs.length hxl
      dsimp only
      refine ⟨c, _, _, .int xs[j], rfl, rfl, sq_lst hc', ?_, ?_⟩
      · rw [ej]
        refine atI_nat ?_
        rw [List.getElem?_map, List.getElem?_eq_getElem hj]
        rfl
      refine ⟨_, rfl, .inl ⟨_, rfl, _, _, rfl, rfl, (by show (0 : Int) < 2147483629; decide), _, rfl, _, _, rfl, rfl, .inl ⟨by decide, by decide⟩, _, _, rfl, rfl, _, rfl, _, _, rfl, rfl, .inl ⟨by decide, by decide⟩, _, rfl, _, _, rfl, rfl, .inr ⟨by omega, by omega⟩, _, _, rfl, rfl, ?_⟩⟩
      refine .inl ⟨_, rfl, _, _, rfl, rfl, .inr ⟨by decide, by decide⟩, ?_⟩
      refine ⟨_, rfl, .inl ⟨_, rfl, _, _, rfl, rfl, (by show (0 : Int) < 2147483647; decide), _, rfl, _, _, rfl, rfl, .inl ⟨by decide, by decide⟩, _, _, rfl, rfl, ?_⟩⟩
      refine .inl ⟨_, rfl, _, _, rfl, rfl, .inr ⟨by decide, by decide⟩, ?_⟩
      refine ⟨_, rfl, .inl ⟨_, rfl, _, _, rfl, rfl, (by show (0 : Int) < 2147483587; decide), _, _, rfl, rfl, ⟨by decide, by decide⟩, ?_⟩⟩
      refine .inl ⟨_, rfl, _, rfl, _, _, rfl, rfl, hl0, ?_⟩
      dsimp only
      obtain ⟨r, er, hr1⟩ := imod_nat _ lim h1
      rw [er]
      exact q r _ hr1 (Gr.wr (by simp)) ⟨c, xs, l, z + 1, hd', hc', hx, by omega, by omega⟩

def sp_law_of (K : PySem.W.Frag) : Sp := fun vs H Q _ => ∃ (d a : Addr) (n : Nat) (xs : List V), vs = [.ref d, .ref a] ∧ MOk H d n ∧ H a = some (.lst xs) ∧ (xs ≠ [] ∧ xs.length ≤ 100000 ∧ n ≤ 1000000000000) ∧
  ∀ v H', v ∈ xs → Gr [d] H H' → MOk H' d (n + 1) → Q v H'
theorem ok_law_of (T : Txt K mg) : FnOk P w K mg base CX0 2 T.d_law_of.f T.d_law_of.fd ["m", "some"] (sp_law_of K) := by
  refine T.d_law_of.F.ok sc_law_of (fun vs H Q E h => ?_) (fun cdv A outer s H vs Q E hr h => ?_)
  · obtain ⟨d, a, n, xs, rfl, _⟩ := h; rfl
  · have hu := hu_of hr
    refine ⟨_, (pss_one (ps_ret (pe_ix (r := rIxL K) ix_list (pv 1) (pe_call (ok_law_draw T) (hr.mono (by decide)) (by rfl) T.d_law_draw.m T.d_law_draw.F.kp T.d_law_draw.b .nil pass0 (pa_cons (pv 0) (pa_cons (pe_callB (r := rLn K) call_ln (by rfl) T.b_len PySem.boot_len (pa_cons (pv 1) pa_nil)) pa_nil))) (fun _ _ => rfl)))), ?_⟩
    obtain ⟨d, a, n, xs, rfl, M, ha, ⟨h1, h2, h3⟩, q⟩ := h
    have hl : 1 ≤ xs.length := by
      cases xs with
      | nil => exact absurd rfl h1
      | cons x r => simp
    refine ⟨_, rfl, _, rfl, _, rfl, a, _, rfl, .inl (sq_lst ha), ?_⟩
    refine ⟨d, xs.length, n, rfl, M, ⟨hl, by omega, h3⟩, fun r H' hr g M' => ?_⟩
    have ha' := M.lst g ha
    exact ⟨a, xs, r, xs[r], rfl, rfl, sq_lst ha', atI_nat (by rw [List.getElem?_eq_getElem hr]), q _ _ (List.getElem_mem _) g M'⟩

def sp_law_divisor : Sp := fun vs H Q _ => ∃ a c : Nat, vs = [.int a, .int c] ∧ Q (.int (Nat.gcd a c : Nat)) H
theorem ok_law_divisor (T : Txt K mg) : FnOk P w K mg base CX0 1 T.d_law_divisor.f T.d_law_divisor.fd ["one", "other"] sp_law_divisor := by
  refine T.d_law_divisor.F.ok sc_law_divisor (fun vs H Q E h => ?_) (fun cdv A outer s H vs Q E hr h => ?_)
  · obtain ⟨a, c, rfl, _⟩ := h; rfl
  · have hu := hu_of hr
    refine ⟨_, (pss_cons (ps_while PassesOwn.never (pt_cmpR op_gt (pv 1) pe_int (nomark _)) (pss_one (ps_par (i := 0) (j := 1) (by rfl) sc_law_divisor.nd rfl rfl (by decide) rfl rfl (pa_cons (pv 1) (pa_cons (pe_op op_mod (pv 0) (pv 1)) pa_nil)) (by rfl))))
      (pss_one (ps_ret (pv 0)))), ?_⟩
    obtain ⟨a, c, rfl, q⟩ := h
    refine ⟨fun m σ H' => H' = H ∧ ∃ u : Nat, σ = [some (.int u), some (.int m)] ∧ Nat.gcd u m = Nat.gcd a c, ⟨c, rfl, a, rfl, rfl⟩, ?_⟩
    rintro m σ H' ⟨rfl, u, rfl, e⟩
    refine ⟨_, rfl, _, _, rfl, rfl, _, rfl, ?_⟩
    by_cases hc : (0 : Int) < (m : Int)
    · rw [decide_eq_true hc]
      refine iteT ⟨fun σ' H2 => H2 = H' ∧ σ' = [some (.int m), some (.int (u % m : Nat))], ?_, ?_⟩
      · rintro σ' H2 ⟨rfl, rfl⟩
        refine ⟨u % m, Nat.mod_lt _ (by omega), rfl, m, rfl, ?_⟩
        rw [← e, Nat.gcd_comm m, ← Nat.gcd_rec, Nat.gcd_comm]
      · refine ⟨_, rfl, _, rfl, _, rfl, _, _, rfl, rfl, hc, ?_⟩
        exact ⟨_, _, rfl, rfl, by dsimp only; rw [← Int.natCast_emod]; rfl⟩
    · rw [decide_eq_false hc]
      refine iteF ⟨_, rfl, ?_⟩
      have z : m = 0 := by omega
      subst z
      rw [← e, Nat.gcd_zero_right]  at q
      exact q

def sp_law_base (lo hi : Nat) : Sp := fun vs H Q _ => ∃ (d : Addr) (n : Nat), vs = [.ref d] ∧ MOk H d n ∧ n ≤ 1000000000 ∧ ∀ (b : Nat) H', 2 ≤ b → b ≤ 1000 → Gr [d] H H' → MOk H' d (n + 3) → Q (.int b) H'
theorem ok_law_base (T : Txt K mg) : FnOk P w K mg base CX0 3 T.d_law_base.f T.d_law_base.fd ["m"] (sp_law_base 2 1000) := by
  refine T.d_law_base.F.ok sc_law_base (fun vs H Q E h => ?_) (fun cdv A outer s H vs Q E hr h => ?_)
  · obtain ⟨d, n, rfl, _⟩ := h; rfl
  · have hu := hu_of hr
    refine ⟨_, (pss_one (ps_ret (pe_call (ok_law_of T) (hr.mono (by decide)) (by rfl) T.d_law_of.m T.d_law_of.F.kp T.d_law_of.b .nil pass0 (pa_cons (pv 0) (pa_cons (pe_lst (pa_cons pe_int (pa_cons pe_int (pa_cons pe_int (pa_cons pe_int (pa_cons pe_int (pa_cons (pe_op op_add pe_int (pe_call (ok_law_draw T) (hr.mono (by decide)) (by rfl) T.d_law_draw.m T.d_law_draw.F.kp T.d_law_draw.b .nil pass0 (pa_cons (pv 0) (pa_cons pe_int pa_nil)))) (pa_cons (pe_op op_add pe_int (pe_call (ok_law_draw T) (hr.mono (by decide)) (by rfl) T.d_law_draw.m T.d_law_draw.F.kp T.d_law_draw.b .nil pass0 (pa_cons (pv 0) (pa_cons pe_int pa_nil)))) pa_nil)))))))) pa_nil))))), ?_⟩
    obtain ⟨d, n, rfl, M, h1, q⟩ := h
    refine ⟨_, rfl, _, rfl, d, 30, n, rfl, M, ⟨by omega, by omega, by omega⟩, fun r1 H1 hr1 g1 M1 => ?_⟩
    refine ⟨_, _, rfl, rfl, _, rfl, d, 999, n + 1, rfl, M1, ⟨by omega, by omega, by omega⟩, fun r2 H2 hr2 g2 M2 => ?_⟩
    refine ⟨_, _, rfl, rfl, by show 7 ≤ sizeLine; decide, fun p np => ?_⟩
    refine ⟨d, p, n + 2, _, rfl, M2.gr (Gr.new np), upd_same, ⟨by simp, by show 7 ≤ 100000; decide, by omega⟩, fun v H' hv g M' => ?_⟩
    have hg : Gr [d] H H' := (g1.trans g2).trans ((Gr.new np).trans g)
    have fin : ∀ b : Nat, v = .int b → 2 ≤ b → b ≤ 1000 → Q v H' := fun b e h2 h3 => by
      rw [e]
      exact q b H' h2 h3 hg M'
    simp only [List.mem_cons, List.not_mem_nil, or_false] at hv
    rcases hv with e | e | e | e | e | e | e
    · exact fin 2 e (by omega) (by omega)
    · exact fin 3 e (by omega) (by omega)
    · exact fin 10 e (by omega) (by omega)
    · exact fin 10 e (by omega) (by omega)
    · exact fin 12 e (by omega) (by omega)
    · exact fin (2 + r1) (by rw [e]; rfl) (by omega) (by omega)
    · exact fin (2 + r2) (by rw [e]; rfl) (by omega) (by omega)

def sp_law_part : Sp := fun vs H Q _ => ∃ (d : Addr) (most n : Nat), vs = [.ref d, .int most] ∧ MOk H d n ∧ (1 ≤ most ∧ most ≤ 5000 ∧ n ≤ 1000000000) ∧
  ∀ (a : Addr) (x k : Nat) H', H' a = some (.tup [.int x, .int k]) → x < k → k ≤ most → Nat.gcd x k = 1 → Gr [d] H H' → MOk H' d (n + 2) → Q (.ref a) H'
theorem ok_law_part (T : Txt K mg) : FnOk P w K mg base CX0 2 T.d_law_part.f T.d_law_part.fd ["m", "most"] sp_law_part := by
  refine T.d_law_part.F.ok sc_law_part (fun vs H Q E h => ?_) (fun cdv A outer s H vs Q E hr h => ?_)
  · obtain ⟨d, most, n, rfl, _⟩ := h; rfl
  · have hu := hu_of hr
    refine ⟨_, (pss_cons (ps_set (i := 2) sc_law_part.nd rfl (by first | exact .inl rfl | exact .inr rfl) (pe_op op_add pe_int (pe_call (ok_law_draw T) (hr.mono (by decide)) (by rfl) T.d_law_draw.m T.d_law_draw.F.kp T.d_law_draw.b .nil pass0 (pa_cons (pv 0) (pa_cons (pv 1) pa_nil)))))
      (pss_cons (ps_set (i := 3) sc_law_part.nd rfl (by first | exact .inl rfl | exact .inr rfl) (pe_call (ok_law_draw T) (hr.mono (by decide)) (by rfl) T.d_law_draw.m T.d_law_draw.F.kp T.d_law_draw.b .nil pass0 (pa_cons (pv 0) (pa_cons (pv 2) pa_nil))))
      (pss_cons (ps_while PassesOwn.never (pt_cmpR op_ne (pe_call (ok_law_divisor T) (hr.mono (by decide)) (by rfl) T.d_law_divisor.m T.d_law_divisor.F.kp T.d_law_divisor.b .nil pass0 (pa_cons (pv 3) (pa_cons (pv 2) pa_nil))) pe_int (nomark _)) (pss_one (ps_set (i := 3) sc_law_part.nd rfl (by first | exact .inl rfl | exact .inr rfl) (pe_op op_mod (pe_callTy call_int1 (by rfl) T.b_int (by decide +kernel) (pa_cons (pe_op op_add (pv 3) pe_int) pa_nil)) (pv 2)))))
      (pss_one (ps_ret (pe_tup (pa_cons (pv 3) (pa_cons (pv 2) pa_nil)))))))), ?_⟩
    obtain ⟨d, most, n, rfl, M, ⟨h1, h2, h3⟩, q⟩ := h
    refine ⟨_, rfl, _, rfl, d, most, n, rfl, M, ⟨h1, by omega, by omega⟩, fun r1 H1 hr1 g1 M1 => ?_⟩
    refine ⟨1, r1, rfl, rfl, ?_⟩
    have e1 : (1 : Int) + (r1 : Int) = ((1 + r1 : Nat) : Int) := by omega
    dsimp only
    rw [e1]
    generalize hk : 1 + r1 = k
    refine ⟨_, rfl, _, rfl, d, k, n + 1, rfl, M1, ⟨by omega, by omega, by omega⟩, fun x H2 hx g2 M2 => ?_⟩
    refine ⟨fun m σ H' => H' = H2 ∧ ∃ y : Nat, m = k - y ∧ y < k ∧ σ = [some (.ref d), some (.int most), some (.int k), some (.int y)], ⟨k - x, rfl, x, rfl, hx, rfl⟩, ?_⟩
    rintro m σ H' ⟨rfl, y, rfl, hy, rfl⟩
    refine ⟨_, rfl, _, rfl, y, k, rfl, rfl, _, rfl, ?_⟩
    by_cases hc : Nat.gcd y k = 1
    · rw [show (!decide (V.int ((Nat.gcd y k : Nat) : Int) = V.int 1)) = false by rw [hc]; rfl]
      refine iteF ⟨_, rfl, _, rfl, by show 2 ≤ sizeLine; decide, fun t nt => ?_⟩
      exact q t y k _ upd_same hy (by omega) hc ((g1.trans g2).trans (Gr.new nt)) (M2.gr (Gr.new nt))
    · rw [show (!decide (V.int ((Nat.gcd y k : Nat) : Int) = V.int 1)) = true by rw [decide_eq_false (fun z => hc (by have := V.int.inj z; omega))]; rfl]
      have hyk : y + 1 < k := by
        rcases Nat.lt_or_eq_of_le (show y + 1 ≤ k from hy) with l | l
        · exact l
        · subst l
          exact absurd (by rw [Nat.gcd_comm, show Nat.gcd (y + 1) y = 1 by simp] ) hc
      refine iteT ⟨fun σ' H3 => H3 = H' ∧ σ' = [some (.ref d), some (.int most), some (.int k), some (.int (y + 1 : Nat))], ?_, ?_⟩
      · rintro σ' H3 ⟨rfl, rfl⟩
        exact ⟨k - (y + 1), by omega, rfl, y + 1, rfl, hyk, rfl⟩
      · refine ⟨_, rfl, _, _, rfl, rfl, .inl ⟨_, rfl, _, rfl, _, _, rfl, rfl, (show (0 : Int) < (k : Int) by omega), ?_⟩⟩
        dsimp only
        have e2 : ((y : Int) + 1) % (k : Int) = ((y + 1 : Nat) : Int) := by
          rw [show (y : Int) + 1 = ((y + 1 : Nat) : Int) by omega, ← Int.natCast_emod, Nat.mod_eq_of_lt hyk]
        rw [e2]
        exact ⟨rfl, rfl⟩

theorem val_none : ∀ {kvs : List (Key × V)} {k : Key}, (∀ kv ∈ kvs, kv.1 ≠ k) → valV kvs k = none
  | [], _, _ => rfl
  | p :: r, k, h => by
    rw [valV_neg (h p (List.mem_cons_self ..))]
    exact val_none fun kv hk => h kv (List.mem_cons_of_mem _ hk)
theorem val_some : ∀ {kvs : List (Key × V)} {k : Key} {v : V} (i : Nat), kvs[i]? = some (k, v) → (∀ j, j < i → ∀ kv, kvs[j]? = some kv → kv.1 ≠ k) → valV kvs k = some v
  | [], _, _, i, h, _ => by simp at h
  | p :: r, k, v, 0, h, _ => by
    have e : p = (k, v) := Option.some.inj h
    subst e
    exact valV_pos rfl
  | p :: r, k, v, i + 1, h, d => by
    rw [valV_neg (d 0 (Nat.succ_pos _) p rfl)]
    exact val_some i h fun j hj kv hk => d (j + 1) (Nat.succ_lt_succ hj) kv hk
def rms (b n x c : Nat) : List V := (List.range c).map fun i => V.int (rem b n x i : Nat)
def rkv (b n x c : Nat) : List (Key × V) := (List.range c).map fun i => ((Sum.inl ((rem b n x i : Nat) : Int) : Key), V.int (i : Nat))
theorem rms_succ (b n x c : Nat) : rms b n x (c + 1) = rms b n x c ++ [V.int (rem b n x c : Nat)] := by
  unfold rms
  rw [List.range_succ, List.map_append]
  rfl
theorem rkv_succ (b n x c : Nat) : rkv b n x (c + 1) = rkv b n x c ++ [(Sum.inl ((rem b n x c : Nat) : Int), V.int (c : Nat))] := by
  unfold rkv
  rw [List.range_succ, List.map_append]
  rfl
theorem rms_len (b n x c : Nat) : (rms b n x c).length = c := by simp [rms]
theorem rkv_len (b n x c : Nat) : (rkv b n x c).length = c := by simp [rkv]
theorem rkv_none {b n x c y : Nat} (h : ∀ j, j < c → rem b n x j ≠ y) : valV (rkv b n x c) (Sum.inl (y : Int) : Key) = none := by
  refine val_none fun kv hk e => ?_
  obtain ⟨j, hj, rfl⟩ := List.mem_map.mp hk
  have := Sum.inl.inj e
  exact h j (List.mem_range.mp hj) (by omega)
theorem rkv_some {b n x c j : Nat} (hj : j < c) (h : ∀ i, i < j → rem b n x i ≠ rem b n x j) : valV (rkv b n x c) (Sum.inl ((rem b n x j : Nat) : Int) : Key) = some (.int (j : Nat)) := by
  refine val_some j ?_ fun i hi kv hk e => ?_
  · unfold rkv
    rw [List.getElem?_map, List.getElem?_range hj]
    rfl
  · unfold rkv at hk
    rw [List.getElem?_map, List.getElem?_range (by omega)] at hk
    have e2 := Option.some.inj hk
    subst e2
    have := Sum.inl.inj e
    exact h i hi (by omega)
def sp_law_ring : Sp := fun vs H Q _ => ∃ (b x n : Nat) (a : Addr), vs = [.int b, .ref a] ∧ H a = some (.tup [.int x, .int n]) ∧ (b ≤ 1000 ∧ n ≤ 5000 ∧ x < n ∧ Nat.gcd x n = 1) ∧
  ∀ (t l : Addr) H' (p q h L : Nat), Par b n p q h L → Gr [] H H' → H' t = some (.tup [.ref l, .int (h : Nat)]) → H' l = some (.lst (rms b n x (h + L))) → Q (.ref t) H'
theorem ok_law_ring (T : Txt K mg) : FnOk P w K mg base CX0 1 T.d_law_ring.f T.d_law_ring.fd ["b", "part"] sp_law_ring := by
  refine T.d_law_ring.F.ok sc_law_ring (fun vs H Q E h => ?_) (fun cdv A outer s H vs Q E hr h => ?_)
  · obtain ⟨b, x, n, a, rfl, _⟩ := h; rfl
  · have hu := hu_of hr
    refine ⟨_, (pss_cons (ps_asg (pv 1) (pg_tup (by rfl) (pgs_cons (pg_name (i := 2) sc_law_ring.nd rfl (by first | exact .inl rfl | exact .inr rfl)) (pgs_cons (pg_name (i := 3) sc_law_ring.nd rfl (by first | exact .inl rfl | exact .inr rfl)) pgs_nil))))
      (pss_cons (ps_par (i := 4) (j := 5) (by rfl) sc_law_ring.nd rfl rfl (by decide) rfl rfl (pa_cons (pe_lst pa_nil) (pa_cons pe_dnewK pa_nil)) (by rfl))
      (pss_cons (ps_while PassesOwn.never (pt_cmp (pc_dnotin hu (pv 2) (pv 5))) (pss_cons (ps_dput hu (pv 5) (pv 2) (pe_callB (r := rLn K) call_ln (by rfl) T.b_len PySem.boot_len (pa_cons (pv 4) pa_nil)) rfl)
      (pss_cons (ps_expr (pe_bm PySem.F.plainAttrs_list PySem.F.slot_list_append PySem.F.type_list_append mt_append (pv 4) (pa_cons (pv 2) pa_nil)))
      (pss_one (ps_set (i := 2) sc_law_ring.nd rfl (by first | exact .inl rfl | exact .inr rfl) (pe_op op_mod (pe_op op_mul (pv 2) (pv 0)) (pv 3)))))))
      (pss_one (ps_ret (pe_tup (pa_cons (pv 4) (pa_cons (pe_dget hu (pv 5) (pv 2) (fun _ _ => rfl)) pa_nil)))))))), ?_⟩
    obtain ⟨b, x, n, a, rfl, ha, ⟨hb, hn, hx, hg⟩, q⟩ := h
    have hn1 : 1 ≤ n := by omega
    refine ⟨_, rfl, a, _, rfl, sq_tup ha, rfl, _, _, rfl, _, _, rfl, rfl, ?_⟩
    refine ⟨Nat.zero_le _, fun l nl => ?_⟩
    intro e ne
    have nle : l ≠ e := ne_of_none (o := .lst []) upd_same ne
    refine ⟨_, _, rfl, ?_⟩
    have hE : ∀ {o}, H e = o → H e = o := fun h => h
    have ne0 : H e = none := by
      rw [upd_ne nle.symm] at ne
      exact ne
    refine ⟨fun m σ H' => ∃ i : Nat, m = n - i ∧ i ≤ n ∧ Gr [] H H' ∧ H' l = some (.lst (rms b n x i)) ∧ H' e = some (.dK (rkv b n x i)) ∧ σ = [some (.int b), some (.ref a), some (.int (rem b n x i : Nat)), some (.int n), some (.ref l), some (.ref e)] ∧ (∀ u v, u < v → v < i → rem b n x u ≠ rem b n x v),
      ⟨n, 0, rfl, Nat.zero_le _, (Gr.new nl).trans (Gr.new ne), ?_, upd_same, ?_, fun u v _ z => absurd z (Nat.not_lt_zero _)⟩, ?_⟩
    · rw [upd_ne nle, upd_same]
      rfl
    · rw [rem_zero hx]
      rfl
    rintro m σ H' ⟨i, rfl, hi, G, hL, hD, rfl, hd⟩
    refine ⟨_, rfl, _, rfl, e, _, rfl, DGet.k (k := Sum.inl ((rem b n x i : Nat) : Int)) hD, _, rfl, ?_⟩
    by_cases hc : ∃ j, j < i ∧ rem b n x j = rem b n x i
    · obtain ⟨j, hj, ej⟩ := hc
      have hv : valV (rkv b n x i) (Sum.inl ((rem b n x i : Nat) : Int) : Key) = some (.int (j : Nat)) := by
        rw [← ej]
        exact rkv_some hj fun u hu => hd u j hu hj
      rw [hv]
      refine iteF ?_
      obtain ⟨p, q0, h, L, P⟩ := par_exists (b := b) hn1
      obtain ⟨ei, eh⟩ := ring_end P hn1 hg hd hj ej
      refine ⟨_, rfl, _, rfl, _, rfl, e, .int (j : Nat), rfl, ?_, by show 2 ≤ sizeLine; decide, fun t nt => ?_⟩
      · rw [← hv]
        exact DGet.k (k := Sum.inl ((rem b n x i : Nat) : Int)) hD
      · refine q t l _ p q0 h L P (G.trans (Gr.new nt)) ?_ ?_
        · rw [upd_same, eh]
        · rw [upd_ne (ne_of_none hL nt), hL, ei]
    · have hno : ∀ j, j < i → rem b n x j ≠ rem b n x i := fun j hj ej => hc ⟨j, hj, ej⟩
      rw [rkv_none hno]
      refine iteT ?_
      have hlt : rem b n x i < n := rem_lt hn1
      have hin : i + 1 ≤ n := by
        have := nodup_le n ((List.range (i + 1)).map fun u => rem b n x u) (by
          rw [List.nodup_iff_pairwise_ne, List.pairwise_map, List.pairwise_iff_getElem]
          intro u v hu hv huv
          rw [List.getElem_range, List.getElem_range]
          rw [List.length_range] at hv
          rcases Nat.lt_or_eq_of_le (show v ≤ i by omega) with z | z
          · exact hd u v huv z
          · rw [z]
            exact hno u (by omega)) (fun y hy => by
          obtain ⟨u, _, rfl⟩ := List.mem_map.mp hy
          exact rem_lt hn1)
        rw [List.length_map, List.length_range] at this
        exact this
      refine ⟨fun σ' H2 => Gr [] H H2 ∧ H2 l = some (.lst (rms b n x (i + 1))) ∧ H2 e = some (.dK (rkv b n x (i + 1))) ∧ σ' = [some (.int b), some (.ref a), some (.int (rem b n x (i + 1) : Nat)), some (.int n), some (.ref l), some (.ref e)], ?_, ?_⟩
      · rintro σ' H2 ⟨G2, L2, D2, rfl⟩
        refine ⟨n - (i + 1), by omega, i + 1, rfl, hin, G2, L2, D2, rfl, fun u v huv hv => ?_⟩
        rcases Nat.lt_or_eq_of_le (show v ≤ i by omega) with z | z
        · exact hd u v huv z
        · rw [z]
          exact hno u (by omega)
      · have small : ∀ {k : Nat}, k ≤ 5000 → k < sizeLine := fun h => Nat.lt_of_lt_of_le (show _ < 6000 by omega) (by decide)
        refine ⟨_, rfl, l, _, rfl, .inl (sq_lst hL), _, rfl, _, rfl, e, _, rfl, DPut.k (k := Sum.inl ((rem b n x i : Nat) : Int)) hD (by rw [rkv_len]; exact small (by omega)), ?_⟩
        rw [putK_new _ (rkv_none hno), rms_len, ← rkv_succ]
        have hL2 : (upd H' e (.dK (rkv b n x (i + 1)))) l = some (.lst (rms b n x i)) := by
          rw [upd_ne nle]
          exact hL
        refine ⟨_, rfl, .inl ⟨rfl, _, sq_lst hL2⟩, _, rfl, l, _, _, rfl, rfl, hL2, by rw [rms_len]; exact small (by omega), ?_⟩
        refine ⟨_, rfl, _, rfl, _, b, rfl, rfl, .inl ⟨by omega, by omega⟩, _, rfl, _, n, rfl, rfl, (show (0 : Int) < (n : Int) by omega), ?_⟩
        dsimp only
        rw [icm, rem_succ, ← rms_succ]
        refine ⟨fun c o _ ec => ?_, upd_same, ?_, rfl⟩
        · rw [upd_ne (ne_of_none ec nl), upd_ne (ne_of_none ec ne0)]
          exact G c o (by simp) ec
        · rw [upd_ne nle.symm, upd_same]

theorem dgs_take (b n x h L : Nat) : (dgs b n x (h + L)).take h = dgf b n x 0 h := by
  unfold dgs dgf
  rw [← List.map_take, List.take_range, Nat.min_eq_left (by omega)]
  simp
theorem dgs_drop (b n x h L : Nat) : (dgs b n x (h + L)).drop h = dgf b n x h L := by
  unfold dgs dgf
  rw [← List.map_drop]
  apply List.ext_getElem
  · simp
  · intro i i1 i2
    simp
def sp_law_spread : Sp := fun vs H Q _ => ∃ (b x n : Nat) (a : Addr), vs = [.int b, .ref a] ∧ H a = some (.tup [.int x, .int n]) ∧ (b ≤ 1000 ∧ n ≤ 5000 ∧ x < n ∧ Nat.gcd x n = 1) ∧
  ∀ (t : Addr) H' (p q h L : Nat), Par b n p q h L → Gr [] H H' → Exp H' t b x n h L → Q (.ref t) H'
theorem ok_law_spread (T : Txt K mg) : FnOk P w K mg base CX0 2 T.d_law_spread.f T.d_law_spread.fd ["b", "part"] sp_law_spread := by
  refine T.d_law_spread.F.ok sc_law_spread (fun vs H Q E h => ?_) (fun cdv A outer s H vs Q E hr h => ?_)
  · obtain ⟨b, x, n, a, rfl, _⟩ := h; rfl
  · have hu := hu_of hr
    refine ⟨_, (pss_cons (ps_asg (pe_call (ok_law_ring T) (hr.mono (by decide)) (by rfl) T.d_law_ring.m T.d_law_ring.F.kp T.d_law_ring.b .nil pass0 (pa_cons (pv 0) (pa_cons (pv 1) pa_nil))) (pg_tup (by rfl) (pgs_cons (pg_name (i := 2) sc_law_spread.nd rfl (by first | exact .inl rfl | exact .inr rfl)) (pgs_cons (pg_name (i := 3) sc_law_spread.nd rfl (by first | exact .inl rfl | exact .inr rfl)) pgs_nil))))
      (pss_cons (ps_setLc (i := 4) (own := [("x", 5)]) (g := gName 5) (tt := tYes) rfl sc_law_spread.nd rfl rfl (sw_true rfl rfl rfl (by decide +kernel)) (pi_list (pv 2)) (blkOk_by (own := [("x", 5)]) (N := ["b", "part", "row", "begin", "figs", "x"]) (sc := defScope s_law_spread) (by decide +kernel)) (fun _ _ _ _ _ => (pg_name (i := 5) sc_law_spread.nd rfl (by first | exact .inl rfl | exact .inr rfl))) (fun _ _ _ _ _ => pts_nil) (fun _ _ _ _ _ => (pe_op op_fdiv (pe_op op_mul (pv 5) (pv 0)) (pe_ix (r := rIxT K) ix_tup (pv 1) pe_int (fun _ _ => rfl)))))
      (pss_one (ps_ret (pe_tup (pa_cons (pe_callTy (r := rTpO K) call_tpO (by rfl) T.b_tuple (by decide +kernel) (pa_cons (pe_slice (r := rSlL K) sl_list (pv 4) po_none (po_some (pv 3))) pa_nil)) (pa_cons (pe_callTy (r := rTpO K) call_tpO (by rfl) T.b_tuple (by decide +kernel) (pa_cons (pe_slice (r := rSlL K) sl_list (pv 4) (po_some (pv 3)) po_none) pa_nil)) pa_nil))))))), ?_⟩
    obtain ⟨b, x, n, a, rfl, ha, ⟨hb, hn, hx, hg⟩, q⟩ := h
    have hn1 : 1 ≤ n := by omega
    refine ⟨_, rfl, _, rfl, b, x, n, a, rfl, ha, ⟨hb, hn, hx, hg⟩, fun t l H1 p q0 h L P g1 ht hl => ?_⟩
    refine ⟨t, _, rfl, sq_tup ht, rfl, _, _, rfl, _, _, rfl, rfl, ?_⟩
    refine ⟨_, rfl, l, rfl, ⟨_, sq_lst hl⟩, fun D nD => ?_⟩
    refine lc_list (K := K) (a := l) (xs := rms b n x (h + L)) (fun i H' => Gr [] H1 H' ∧ H' D = some (.lst (dgs b n x i))) ⟨Gr.new nD, upd_same⟩ (fun i H' _ z => sq_lst (z.1 l _ (by simp) hl)) ?_ ?_
    · rintro i y H' hy ⟨G, hD⟩
      have ey : y = V.int ((rem b n x i : Nat) : Int) := by
        unfold rms at hy
        rw [List.getElem?_map] at hy
        cases e : (List.range (h + L))[i]? with
        | none =>
          rw [e] at hy
          cases hy
        | some u =>
          rw [e] at hy
          obtain ⟨hi, e2⟩ := List.getElem?_eq_some_iff.mp e
          rw [List.getElem_range] at e2
          subst e2
          exact (Option.some.inj hy).symm
      have hi : i < h + L := by
        have := (List.getElem?_eq_some_iff.mp hy).1
        rw [rms_len] at this
        exact this
      subst ey
      have hlt : rem b n x i < n := rem_lt hn1
      have ha' := G a _ (by simp) (g1 a _ (by simp) ha)
      have hLn := P.Ln hn1
      have hhn := P.hn hn1
      refine ⟨rfl, ?_⟩
      dsimp only [tYes]
      refine iteT ?_
      refine ⟨_, rfl, _, rfl, _, b, rfl, rfl, .inl ⟨by omega, by omega⟩, _, rfl, a, _, _, .int n, rfl, rfl, sq_tup ha', atI_nat (j := 1) rfl, _, n, rfl, rfl, ⟨by omega, by omega⟩, ?_⟩
      refine ⟨_, hD, ?_, ?_, ?_⟩
      · unfold dgs
        rw [List.length_map, List.length_range]
        exact Nat.lt_of_lt_of_le (show i < 20000 by omega) (by decide)
      · intro c o _ e
        rw [upd_ne (ne_of_none e nD)]
        exact G c o (by simp) e
      · dsimp only
        rw [icd, upd_same]
        unfold dgs
        rw [List.range_succ, List.map_append]
        rfl
    rintro H2 ⟨G, hD⟩
    rw [rms_len] at hD
    have lenD : (dgs b n x (h + L)).length = h + L := by
      unfold dgs
      rw [List.length_map, List.length_range]
    refine ⟨_, rfl, _, rfl, (h : Int), rfl, D, _, rfl, sq_lst hD, fun p1 n1 => ?_⟩
    refine ⟨p1, _, rfl, .inl ⟨sq_lst upd_same, fun t1 m1 => ?_⟩⟩
    have np1 : D ≠ p1 := ne_of_none hD n1
    have k1 : (upd H2 p1 (.lst (cutV (dgs b n x (h + L)) none (some (h : Int))))) D = some (.lst (dgs b n x (h + L))) := by
      rw [upd_ne np1]
      exact hD
    generalize hH3 : upd H2 p1 (.lst (cutV (dgs b n x (h + L)) none (some (h : Int)))) = H3 at m1 k1 ⊢
    have g3 : Gr [] H2 H3 := by
      rw [← hH3]
      exact Gr.new n1
    have k2 : (upd H3 t1 (.tup (cutV (dgs b n x (h + L)) none (some (h : Int))))) D = some (.lst (dgs b n x (h + L))) := by
      rw [upd_ne (ne_of_none k1 m1)]
      exact k1
    have k3 : (upd H3 t1 (.tup (cutV (dgs b n x (h + L)) none (some (h : Int))))) t1 = some (.tup (cutV (dgs b n x (h + L)) none (some (h : Int)))) := upd_same
    have g4 : Gr [] H3 (upd H3 t1 (.tup (cutV (dgs b n x (h + L)) none (some (h : Int))))) := Gr.new m1
    generalize upd H3 t1 (.tup (cutV (dgs b n x (h + L)) none (some (h : Int)))) = H4 at k2 k3 g4 ⊢
    refine ⟨_, rfl, _, rfl, (h : Int), rfl, ?_⟩
    dsimp only [tNoPart]
    refine ⟨D, _, rfl, sq_lst k2, fun p2 n2 => ?_⟩
    refine ⟨p2, _, rfl, .inl ⟨sq_lst upd_same, fun t2 m2 => ?_⟩⟩
    have k4 : (upd H4 p2 (.lst (cutV (dgs b n x (h + L)) (some (h : Int)) none))) t1 = some (.tup (cutV (dgs b n x (h + L)) none (some (h : Int)))) := by
      rw [upd_ne (ne_of_none k3 n2)]
      exact k3
    have g5 : Gr [] H4 (upd H4 p2 (.lst (cutV (dgs b n x (h + L)) (some (h : Int)) none))) := Gr.new n2
    generalize upd H4 p2 (.lst (cutV (dgs b n x (h + L)) (some (h : Int)) none)) = H5 at m2 k4 g5 ⊢
    have g6 : Gr [] H5 (upd H5 t2 (.tup (cutV (dgs b n x (h + L)) (some (h : Int)) none))) := Gr.new m2
    have k5 : (upd H5 t2 (.tup (cutV (dgs b n x (h + L)) (some (h : Int)) none))) t2 = some (.tup (cutV (dgs b n x (h + L)) (some (h : Int)) none)) := upd_same
    have k6 := g6 t1 _ (by simp) k4
    generalize upd H5 t2 (.tup (cutV (dgs b n x (h + L)) (some (h : Int)) none)) = H6 at k5 k6 g6 ⊢
    refine ⟨by show 2 ≤ sizeLine; decide, fun t7 n7 => ?_⟩
    refine q t7 _ p q0 h L P (((((g1.trans G).trans g3).trans g4).trans g5).trans (g6.trans (Gr.new n7))) ⟨t1, t2, upd_same, ?_, ?_⟩
    · rw [upd_ne (ne_of_none k6 n7), k6, cut_lo (by rw [lenD]; omega), dgs_take]
    · rw [upd_ne (ne_of_none k5 n7), k5, cut_hi (by rw [lenD]; omega), dgs_drop]

def sp_law_begun (K : PySem.W.Frag) : Sp := fun vs H Q _ => ∃ (a : Addr) (ns : List Int), vs = [.ref a] ∧ SqL K H a (ns.map V.int) ∧ ns.length ≤ 63 ∧ ∀ d H', Gr [] H H' → MOk H' d 0 → Q (.ref d) H'
theorem eqv_nil (ys : List Int) : PyData.eqv (.list (ys.map PyData.int)) (.list []) = ys.isEmpty := by
  cases ys with
  | nil => rfl
  | cons y r => rfl
theorem lay_ints : ∀ ys : List Int, PyData.canLayAll0 (ys.map PyData.int) = true ∧ PyData.depthAll (ys.map PyData.int) = 0
  | [] => ⟨rfl, rfl⟩
  | y :: r => by
    obtain ⟨h1, h2⟩ := lay_ints r
    refine ⟨?_, ?_⟩
    · show (true && PyData.canLayAll0 (r.map PyData.int)) = true
      rw [h1]
      rfl
    · show max 0 (PyData.depthAll (r.map PyData.int)) = 0
      rw [h2]
      rfl
theorem shaped_ints (ys : List Int) : SeqAt.shaped (.list (ys.map PyData.int)) = true := by
  obtain ⟨h1, h2⟩ := lay_ints ys
  exact Fits.shaped h1 (by show PyData.depthAll _ + 1 ≤ 64; rw [h2]; decide)
theorem get_ints {ns : List Int} {i : Nat} {x : V} (h : (ns.map V.int)[i]? = some x) : ∃ n, x = .int n ∧ ns[i]? = some n ∧ i < ns.length := by
  rw [List.getElem?_map] at h
  cases e : ns[i]? with
  | none =>
    rw [e] at h
    cases h
  | some n =>
    rw [e] at h
    exact ⟨n, (Option.some.inj h).symm, rfl, (List.getElem?_eq_some_iff.mp e).1⟩
theorem ok_law_begun (T : Txt K mg) : FnOk P w K mg base CX0 1 T.d_law_begun.f T.d_law_begun.fd ["script"] (sp_law_begun K) := by
  refine T.d_law_begun.F.ok sc_law_begun (fun vs H Q E h => ?_) (fun cdv A outer s H vs Q E hr h => ?_)
  · obtain ⟨a, ns, rfl, _⟩ := h; rfl
  · have hu := hu_of hr
    refine ⟨_, (pss_cons (ps_setLc (i := 1) (own := [("cell", 2)]) (g := gName 2) (tt := _) rfl sc_law_begun.nd rfl rfl (sw_true rfl rfl rfl (by decide +kernel)) (pi_list (pv 0)) (blkOk_by (own := [("cell", 2)]) (N := ["script", "great", "cell"]) (sc := defScope s_law_begun) (by decide +kernel)) (fun _ _ _ _ _ => (pg_name (i := 2) sc_law_begun.nd rfl (by first | exact .inl rfl | exact .inr rfl))) (fun _ _ _ _ _ => (pts_one (pt_cmpR op_ge (pv 2) (pe_op op_pow pe_int pe_int) (nomark _)))) (fun _ _ _ _ _ => (pv 2)))
      (pss_one (ps_ret (pe_disp (pps_cons pe_str (pe_op op_cat (pe_callTy (r := rLsO K) call_lsO (by rfl) T.b_list (by decide +kernel) (pa_cons (pv 0) pa_nil)) (pe_lst (pa_cons (pe_callB (r := rLn K) call_ln (by rfl) T.b_len PySem.boot_len (pa_cons (pv 0) pa_nil)) pa_nil))) (pps_cons pe_str (pe_ifExp (pt_cmpR (r := rNeD K) (op_neD hr.units) (pv 1) (pe_lst pa_nil) (nomark _)) (pe_ix (r := rIxL K) ix_list (pv 1) pe_int (fun _ _ => rfl)) pe_int) (pps_cons pe_str pe_int pps_nil))) (by rfl) (by rfl) (fun z => by cases z) (by decide))))), ?_⟩
    obtain ⟨a, ns, rfl, hS, hn, q⟩ := h
    have sz : ∀ {k : Nat}, k ≤ 1000 → k < sizeLine := fun h => small1000 h
    refine ⟨_, rfl, a, rfl, ⟨_, hS⟩, fun D nD => ?_⟩
    refine lc_list (K := K) (a := a) (xs := ns.map V.int) (fun i H' => Gr [] H H' ∧ ∃ ys : List Int, ys.length ≤ i ∧ H' D = some (.lst (ys.map V.int))) ⟨Gr.new nD, [], Nat.le_refl _, upd_same⟩ (fun i H' _ z => (Kp.of z.1).sqL hS) ?_ ?_
    · rintro i y H' hy ⟨G, ys, hl, hD⟩
      obtain ⟨n, rfl, hn', hi⟩ := get_ints hy
      refine ⟨rfl, ?_⟩
      refine ⟨_, rfl, _, _, rfl, rfl, ⟨by decide, by decide, by decide⟩, _, _, rfl, rfl, _, rfl, ?_⟩
      have ex : ∀ {o : HO}, Gr [] H (upd H' D o) := fun {o} c u _ e => by
        rw [upd_ne (ne_of_none e nD)]
        exact G c u (by simp) e
      refine ite2 (fun _ => ?_) (fun _ => ?_)
      · refine ⟨_, rfl, _, hD, by rw [List.length_map]; exact sz (by omega), ex, ys ++ [n], by rw [List.length_append]; simp; omega, ?_⟩
        rw [upd_same, List.map_append]
        rfl
      · exact ⟨G, ys, by omega, hD⟩
    rintro H1 ⟨g1, ys, hl, hD⟩
    rw [List.length_map] at hl
    intro p np
    have hS1 : SqL K (upd H1 p (.dK [])) a (ns.map V.int) := (Kp.of (g1.trans (Gr.new np))).sqL hS
    have hD1 := (Gr.new (W := []) (o := .dK []) np) D _ (by simp) hD
    refine ⟨_, rfl, a, _, rfl, .inl hS1, fun l nl => ?_⟩
    have hS2 := (Kp.of (Gr.new (o := .lst (ns.map V.int)) nl)).sqL hS1
    refine ⟨_, rfl, a, _, rfl, .inl hS2, by show 1 ≤ sizeLine; decide, fun l2 nl2 => ?_⟩
    have k1 := (Gr.new (W := []) (o := .lst [V.int ((ns.map V.int).length : Nat)]) nl2) l _ (by simp) (upd_same (o := .lst (ns.map V.int)))
    refine ⟨l, l2, _, _, rfl, rfl, k1, upd_same, ?_, fun p3 np3 => ?_⟩
    · rw [List.length_map]
      exact Nat.le_of_lt (sz (by show ns.length + 1 ≤ 1000; omega))
    have gA : Gr [] (upd H1 p (.dK [])) (upd (upd (upd (upd H1 p (.dK [])) l (.lst (ns.map V.int))) l2 (.lst [V.int ((ns.map V.int).length : Nat)])) p3 (.lst (ns.map V.int ++ [V.int ((ns.map V.int).length : Nat)]))) :=
      ((Gr.new nl).trans (Gr.new nl2)).trans (Gr.new np3)
    have hp3 : (upd (upd (upd (upd H1 p (.dK [])) l (.lst (ns.map V.int))) l2 (.lst [V.int ((ns.map V.int).length : Nat)])) p3 (.lst (ns.map V.int ++ [V.int ((ns.map V.int).length : Nat)]))) p3 = some (.lst ((ns ++ [(ns.length : Int)]).map V.int)) := by
      rw [upd_same, List.map_append, List.length_map]
      rfl
    generalize (upd (upd (upd (upd H1 p (.dK [])) l (.lst (ns.map V.int))) l2 (.lst [V.int ((ns.map V.int).length : Nat)])) p3 (.lst (ns.map V.int ++ [V.int ((ns.map V.int).length : Nat)]))) = H4 at gA hp3 ⊢
    have hD4 := gA D _ (by simp) hD1
    have hp4 := gA p _ (by simp) (upd_same (o := .dK []))
    have G4 : ∀ (H5 : Hp) (l0 : Int), Gr [] H4 H5 → Q (.ref p) (upd H5 p (.dK (mergeK [] (mkv p3 l0 0)))) := fun H5 l0 g5 => by
      rw [mm]
      have h3 := g5 p3 _ (by simp) hp3
      have hne : p3 ≠ p := by
        intro e
        rw [e, hp4] at hp3
        cases hp3
      refine q p _ (fun c u _ e => ?_) ⟨p3, ns ++ [(ns.length : Int)], l0, 0, upd_same, ?_, by simp, Int.le_refl _, Int.le_refl _⟩
      · have hcp : c ≠ p := ne_of_none (g1 c u (by simp) e) np
        rw [upd_ne hcp]
        refine g5 c u (by simp) (gA c u (by simp) ?_)
        rw [upd_ne hcp]
        exact g1 c u (by simp) e
      · rw [upd_ne hne]
        exact h3
    refine ⟨_, rfl, Nat.zero_le _, fun q0 nq => ?_⟩
    have hq := (Gr.new (W := []) (o := .lst []) nq)
    refine ⟨.list (ys.map PyData.int), .list [], dp_lst (hq D _ (by simp) hD4) (dpAll_ints ys), dp_lst upd_same .nil, shaped_ints ys, rfl, _, rfl, ?_⟩
    rw [eqv_nil]
    cases ys with
    | nil =>
      refine iteF ?_
      refine ⟨hq p _ (by simp) hp4, mkv p3 0 0, rfl, by show 3 ≤ 15; decide, G4 _ 0 hq⟩
    | cons y r =>
      refine iteT ⟨_, rfl, D, _, 0, .int y, rfl, rfl, sq_lst (hq D _ (by simp) hD4), atI_nat (j := 0) rfl, ?_⟩
      refine ⟨hq p _ (by simp) hp4, mkv p3 y 0, rfl, by show 3 ≤ 15; decide, G4 _ y hq⟩

end
end Wn
namespace Wn
open PySem PySem.Spec PyProof.Rows L2
open LamX (Tabs ExtN tLam)
local macro_rules | `(tactic| walk_at "vc") => `(tactic| simp only [cxK, cxK2, start1, start2, start3, tRet, tRetN, tSeq, tNext, tIfS, tAsg, gName, tDrop, tVar, tC, tOp, tUn, tTest, tB, tNot, tAnd, tOr, tAndV, tOrV, tNotV, tIf, tCons, tNil, tCB, tCall, tChain, tAug, ipI, rI, rI0, rU, rIs, rGcd, rEq, rNe, scal,
  List.getElem?_cons_zero, List.getElem?_cons_succ, List.set_cons_zero, List.set_cons_succ, Option.some.injEq, List.cons.injEq, V.int.injEq, V.bl.injEq, V.ref.injEq, V.str.injEq, and_true, true_and, exists_eq_left, exists_eq_left', exists_and_left, exists_and_right, List.append_nil, List.nil_append, List.cons_append, exists_eq_right, exists_eq_right', and_assoc, exists_const, V.ty.injEq, ↓reduceIte, Bool.false_eq_true, Bool.not_true, Bool.not_false, decide_eq_true_eq])

section
variable {P : Program} {w : World} {K : PySem.W.Frag} {mg : Str → Option Value} {base : Heap}
theorem ok_init_TooGreat (T : Txt K mg) : FnOk P w K mg base CX0 1 T.I_TooGreat T.fd_TooGreat ["self", "most"] (spInit T.C_TooGreat "most") := by
  refine T.F_TooGreat.ok sc_TooGreat_init (fun vs H Q E h => ?_) (fun cdv A outer s H vs Q E hr h => ?_)
  · obtain ⟨a, v, rfl, _⟩ := h
    rfl
  · obtain ⟨a, v, rfl, ha, q⟩ := h
    refine ⟨_, pss_cons (ps_expr (pe_initB T.T_TooGreat (by rfl) T.b_OverflowError (by rfl) (by decide) (by decide) (by kernel_rfl) (by decide +kernel) T.i_OverflowError (by rfl) (pa_cons (pv 0) (pa_cons pe_str pa_nil)))) (pss_one (ps_ostE T.T_TooGreat (pv 0) (pv 1))), ?_⟩
    exact ⟨_, rfl, a, _, rfl, by show 1 ≤ 1000; decide, ha, _, rfl, _, rfl, a, rfl, ha, fun d nd da => q d nd da⟩
theorem ok_init_Nothing (T : Txt K mg) : FnOk P w K mg base CX0 1 T.I_Nothing T.fd_Nothing ["self", "value"] (spInit T.C_Nothing "value") := by
  refine T.F_Nothing.ok sc_Nothing_init (fun vs H Q E h => ?_) (fun cdv A outer s H vs Q E hr h => ?_)
  · obtain ⟨a, v, rfl, _⟩ := h
    rfl
  · obtain ⟨a, v, rfl, ha, q⟩ := h
    refine ⟨_, pss_cons (ps_expr (pe_initB T.T_Nothing (by rfl) T.b_LookupError (by rfl) (by decide) (by decide) (by kernel_rfl) (by decide +kernel) T.i_LookupError (by rfl) (pa_cons (pv 0) (pa_cons pe_str pa_nil)))) (pss_one (ps_ostE T.T_Nothing (pv 0) (pv 1))), ?_⟩
    exact ⟨_, rfl, a, _, rfl, by show 1 ≤ 1000; decide, ha, _, rfl, _, rfl, a, rfl, ha, fun d nd da => q d nd da⟩

theorem names3 {X : Cx} (T : Txt K mg) (hm : X.mg = mg) (h1 : X.env.kindOf "WheelError" = some .globalImplicit) (h2 : X.env.kindOf "Nothing" = some .globalImplicit) (h3 : X.env.kindOf "TooGreat" = some .globalImplicit) : Names3 X "WheelError" "Nothing" "TooGreat" T.C_WheelError T.C_Nothing T.C_TooGreat :=
  ⟨⟨h1, by decide, hm ▸ T.g_WheelError⟩, ⟨h2, by decide, hm ▸ T.g_Nothing⟩, ⟨h3, by decide, hm ▸ T.g_TooGreat⟩⟩
/-- the errors that may be met here: class, field, word -/
def errs (T : Txt K mg) : List (Addr × Str × Str) := [(T.C_TooGreat, "most", "great"), (T.C_Nothing, "value", "nothing")]
def tl (T : Txt K mg) : List (Addr × Str) := [(T.p_law_right, ("_law_right" : Str) ++ ".<locals>." ++ "<lambda>"), (T.p_law, ("law" : Str) ++ ".<locals>." ++ "<lambda>")]
theorem hm_law_right (T : Txt K mg) : (T.p_law_right, ("_law_right" : Str) ++ ".<locals>." ++ "<lambda>") ∈ tl T := by
  unfold tl
  simp
theorem hu_law_right (T : Txt K mg) : ∀ p ∈ tl T, p.1 = T.p_law_right → p.2 = ("_law_right" : Str) ++ ".<locals>." ++ "<lambda>" := by
  intro p hp e
  unfold tl at hp
  simp only [List.mem_cons, List.not_mem_nil, or_false] at hp
  rcases hp with rfl | rfl
  · rfl
  · exact absurd e (Ne.symm T.ne_law_right_law)
theorem hm_law (T : Txt K mg) : (T.p_law, ("law" : Str) ++ ".<locals>." ++ "<lambda>") ∈ tl T := by
  unfold tl
  simp
theorem hu_law (T : Txt K mg) : ∀ p ∈ tl T, p.1 = T.p_law → p.2 = ("law" : Str) ++ ".<locals>." ++ "<lambda>" := by
  intro p hp e
  unfold tl at hp
  simp only [List.mem_cons, List.not_mem_nil, or_false] at hp
  rcases hp with rfl | rfl
  · exact absurd e T.ne_law_right_law
  · rfl

structure Tbs (T : Txt K mg) (base : Heap) : Prop where
  tb_law_right : LamX.TabB base mg T.k_law_right T.p_law_right
  tb_law : LamX.TabB base mg T.k_law T.p_law

def sp_law_word (T : Txt K mg) : Sp := fun vs H Q _ => ∃ (a C d : Addr) (f w : Str) (v : V), vs = [.ref a] ∧ (C, f, w) ∈ errs T ∧ H a = some (ExV (.ref C) (some d) a) ∧ H d = some (.xd [(f, v)]) ∧ ∀ t H', Gr [] H H' → H' t = some (.tup [.str w, v]) → Q (.ref t) H'
theorem lookup_one (f : Str) (v : V) : List.lookup f [(f, v)] = some v := by simp [List.lookup]
theorem ok_law_word (T : Txt K mg) : FnOk P w K mg base CX0 1 T.d_law_word.f T.d_law_word.fd ["error"] (sp_law_word T) := by
  refine T.d_law_word.F.ok sc_law_word (fun vs H Q E h => ?_) (fun cdv A outer s H vs Q E hr h => ?_)
  · obtain ⟨a, C, d, f, w, v, rfl, _⟩ := h; rfl
  · have hu := hu_of hr
    refine ⟨_, (pss_cons (ps_set (i := 1) sc_law_word.nd rfl (by first | exact .inl rfl | exact .inr rfl) (pe_lst pa_nil))
      (pss_cons (ps_if (pt_val (pe_callB (r := rIsV K) call_isV (by rfl) T.b_isinstance (by decide +kernel) (pa_cons (pv 0) (pa_cons (pe_glob (v := .ref T.C_BadBase) (by rfl) T.g_BadBase rfl) pa_nil)))) (pss_one (ps_expr (pe_bm PySem.F.plainAttrs_list PySem.F.slot_list_append PySem.F.type_list_append mt_append (pv 1) (pa_cons (pe_tup (pa_cons pe_str (pa_cons (pe_fldE (pv 0)) pa_nil))) pa_nil)))) pss_nil)
      (pss_cons (ps_if (pt_val (pe_callB (r := rIsV K) call_isV (by rfl) T.b_isinstance (by decide +kernel) (pa_cons (pv 0) (pa_cons (pe_glob (v := .ref T.C_BadDenominator) (by rfl) T.g_BadDenominator rfl) pa_nil)))) (pss_one (ps_expr (pe_bm PySem.F.plainAttrs_list PySem.F.slot_list_append PySem.F.type_list_append mt_append (pv 1) (pa_cons (pe_tup (pa_cons pe_str (pa_cons (pe_fldE (pv 0)) pa_nil))) pa_nil)))) pss_nil)
      (pss_cons (ps_if (pt_val (pe_callB (r := rIsV K) call_isV (by rfl) T.b_isinstance (by decide +kernel) (pa_cons (pv 0) (pa_cons (pe_glob (v := .ref T.C_BadFraction) (by rfl) T.g_BadFraction rfl) pa_nil)))) (pss_one (ps_expr (pe_bm PySem.F.plainAttrs_list PySem.F.slot_list_append PySem.F.type_list_append mt_append (pv 1) (pa_cons (pe_tup (pa_cons pe_str (pa_cons (pe_fldE (pv 0)) pa_nil))) pa_nil)))) pss_nil)
      (pss_cons (ps_if (pt_val (pe_callB (r := rIsV K) call_isV (by rfl) T.b_isinstance (by decide +kernel) (pa_cons (pv 0) (pa_cons (pe_glob (v := .ref T.C_BadDigits) (by rfl) T.g_BadDigits rfl) pa_nil)))) (pss_one (ps_expr (pe_bm PySem.F.plainAttrs_list PySem.F.slot_list_append PySem.F.type_list_append mt_append (pv 1) (pa_cons (pe_tup (pa_cons pe_str (pa_cons (pe_fldE (pv 0)) pa_nil))) pa_nil)))) pss_nil)
      (pss_cons (ps_if (pt_val (pe_callB (r := rIsV K) call_isV (by rfl) T.b_isinstance (by decide +kernel) (pa_cons (pv 0) (pa_cons (pe_glob (v := .ref T.C_BadNumber) (by rfl) T.g_BadNumber rfl) pa_nil)))) (pss_one (ps_expr (pe_bm PySem.F.plainAttrs_list PySem.F.slot_list_append PySem.F.type_list_append mt_append (pv 1) (pa_cons (pe_tup (pa_cons pe_str (pa_cons (pe_fldE (pv 0)) pa_nil))) pa_nil)))) pss_nil)
      (pss_cons (ps_if (pt_val (pe_callB (r := rIsV K) call_isV (by rfl) T.b_isinstance (by decide +kernel) (pa_cons (pv 0) (pa_cons (pe_glob (v := .ref T.C_BadPaper) (by rfl) T.g_BadPaper rfl) pa_nil)))) (pss_one (ps_expr (pe_bm PySem.F.plainAttrs_list PySem.F.slot_list_append PySem.F.type_list_append mt_append (pv 1) (pa_cons (pe_tup (pa_cons pe_str (pa_cons (pe_fldE (pv 0)) pa_nil))) pa_nil)))) pss_nil)
      (pss_cons (ps_if (pt_val (pe_callB (r := rIsV K) call_isV (by rfl) T.b_isinstance (by decide +kernel) (pa_cons (pv 0) (pa_cons (pe_glob (v := .ref T.C_BadText) (by rfl) T.g_BadText rfl) pa_nil)))) (pss_one (ps_expr (pe_bm PySem.F.plainAttrs_list PySem.F.slot_list_append PySem.F.type_list_append mt_append (pv 1) (pa_cons (pe_tup (pa_cons pe_str (pa_cons (pe_fldE (pv 0)) pa_nil))) pa_nil)))) pss_nil)
      (pss_cons (ps_if (pt_val (pe_callB (r := rIsV K) call_isV (by rfl) T.b_isinstance (by decide +kernel) (pa_cons (pv 0) (pa_cons (pe_glob (v := .ref T.C_TooGreat) (by rfl) T.g_TooGreat rfl) pa_nil)))) (pss_one (ps_expr (pe_bm PySem.F.plainAttrs_list PySem.F.slot_list_append PySem.F.type_list_append mt_append (pv 1) (pa_cons (pe_tup (pa_cons pe_str (pa_cons (pe_fldE (pv 0)) pa_nil))) pa_nil)))) pss_nil)
      (pss_cons (ps_if (pt_val (pe_callB (r := rIsV K) call_isV (by rfl) T.b_isinstance (by decide +kernel) (pa_cons (pv 0) (pa_cons (pe_glob (v := .ref T.C_Nothing) (by rfl) T.g_Nothing rfl) pa_nil)))) (pss_one (ps_expr (pe_bm PySem.F.plainAttrs_list PySem.F.slot_list_append PySem.F.type_list_append mt_append (pv 1) (pa_cons (pe_tup (pa_cons pe_str (pa_cons (pe_fldE (pv 0)) pa_nil))) pa_nil)))) pss_nil)
      (pss_one (ps_ret (pe_ifExp (pt_cmpR op_eq (pe_callB (r := rLn K) call_ln (by rfl) T.b_len PySem.boot_len (pa_cons (pv 1) pa_nil)) pe_int (nomark _)) (pe_ix (r := rIxL K) ix_list (pv 1) pe_int (fun _ _ => rfl)) (pe_tup (pa_cons pe_str (pa_cons pe_non pa_nil)))))))))))))))), ?_⟩
    obtain ⟨a, C, d, f, w, v, rfl, hc, ha, hd, q⟩ := h
    unfold errs at hc
    simp only [List.mem_cons, List.not_mem_nil, or_false, Prod.mk.injEq] at hc
    rcases hc with hc | hc
    · obtain ⟨rfl, rfl, rfl⟩ := hc
      refine ⟨Nat.zero_le _, fun l nl => ?_⟩
      have gl : Gr [] H (upd H l (.lst [])) := Gr.new nl
      have hl : (upd H l (.lst [])) l = some (.lst []) := upd_same
      have ha1 := gl a _ (by simp) ha
      have hd1 := gl d _ (by simp) hd
      have nl0 : H l = none := nl
      generalize upd H l (.lst []) = H1 at gl hl ha1 hd1 ⊢
      refine ⟨_, rfl, a, T.C_TooGreat, d, _, .ref T.C_BadBase, _, _, rfl, T.is_TooGreat, ha1, hd1, (fun u z => z), T.kit_TooGreat_BadBase, _, rfl, iteF ?_⟩
      refine ⟨_, rfl, a, T.C_TooGreat, d, _, .ref T.C_BadDenominator, _, _, rfl, T.is_TooGreat, ha1, hd1, (fun u z => z), T.kit_TooGreat_BadDenominator, _, rfl, iteF ?_⟩
      refine ⟨_, rfl, a, T.C_TooGreat, d, _, .ref T.C_BadFraction, _, _, rfl, T.is_TooGreat, ha1, hd1, (fun u z => z), T.kit_TooGreat_BadFraction, _, rfl, iteF ?_⟩
      refine ⟨_, rfl, a, T.C_TooGreat, d, _, .ref T.C_BadDigits, _, _, rfl, T.is_TooGreat, ha1, hd1, (fun u z => z), T.kit_TooGreat_BadDigits, _, rfl, iteF ?_⟩
      refine ⟨_, rfl, a, T.C_TooGreat, d, _, .ref T.C_BadNumber, _, _, rfl, T.is_TooGreat, ha1, hd1, (fun u z => z), T.kit_TooGreat_BadNumber, _, rfl, iteF ?_⟩
      refine ⟨_, rfl, a, T.C_TooGreat, d, _, .ref T.C_BadPaper, _, _, rfl, T.is_TooGreat, ha1, hd1, (fun u z => z), T.kit_TooGreat_BadPaper, _, rfl, iteF ?_⟩
      refine ⟨_, rfl, a, T.C_TooGreat, d, _, .ref T.C_BadText, _, _, rfl, T.is_TooGreat, ha1, hd1, (fun u z => z), T.kit_TooGreat_BadText, _, rfl, iteF ?_⟩
      refine ⟨_, rfl, a, T.C_TooGreat, d, _, .ref T.C_TooGreat, _, _, rfl, T.is_TooGreat, ha1, hd1, (fun u z => z), T.kit_TooGreat_TooGreat, _, rfl, iteT ?_⟩
      refine ⟨_, rfl, .inl ⟨rfl, _, sq_lst hl⟩, _, rfl, a, T.C_TooGreat, d, _, v, rfl, T.T_TooGreat.xf, T.T_TooGreat.no, ha1, hd1, lookup_one _ _, ?_⟩
      refine ⟨by show 2 ≤ sizeLine; decide, fun p np => ?_⟩
      have g2 : Gr [] H1 (upd H1 p (.tup [.str "great", v])) := Gr.new np
      have hp := upd_same (H := H1) (a := p) (o := .tup [.str "great", v])
      have hl2 := g2 l _ (by simp) hl
      have ha2 := g2 a _ (by simp) ha1
      have hd2 := g2 d _ (by simp) hd1
      generalize upd H1 p (.tup [.str "great", v]) = H2 at g2 hp hl2 ha2 hd2 ⊢
      refine ⟨l, _, _, rfl, rfl, hl2, by show 0 < sizeLine; decide, ?_⟩
      have gA : Gr [] H (upd H2 l (.lst ([] ++ [.ref p]))) := fun u o _ e => by
        rw [upd_ne (ne_of_none e nl0)]
        exact g2 u o (by simp) (gl u o (by simp) e)
      have hl3 : (upd H2 l (.lst ([] ++ [.ref p]))) l = some (.lst [.ref p]) := upd_same
      have hp3 : (upd H2 l (.lst ([] ++ [.ref p]))) p = some (.tup [.str "great", v]) := by
        rw [upd_ne (ne_of hp hl2 (by intro z; cases z))]
        exact hp
      have ha2 := gA a _ (by simp) ha
      have hd2 := gA d _ (by simp) hd
      generalize upd H2 l (.lst ([] ++ [.ref p])) = H3 at gA hl3 hp3 ha2 hd2 ⊢
      refine ⟨_, rfl, a, T.C_TooGreat, d, _, .ref T.C_Nothing, _, _, rfl, T.is_TooGreat, ha2, hd2, (fun u z => z), T.kit_TooGreat_Nothing, _, rfl, iteF ?_⟩
      refine ⟨_, rfl, l, _, rfl, .inl (sq_lst hl3), rfl, _, rfl, iteT ?_⟩
      exact ⟨_, rfl, l, _, _, .ref p, rfl, rfl, sq_lst hl3, atI_nat (j := 0) rfl, q p _ gA hp3⟩
    · obtain ⟨rfl, rfl, rfl⟩ := hc
      refine ⟨Nat.zero_le _, fun l nl => ?_⟩
      have gl : Gr [] H (upd H l (.lst [])) := Gr.new nl
      have hl : (upd H l (.lst [])) l = some (.lst []) := upd_same
      have ha1 := gl a _ (by simp) ha
      have hd1 := gl d _ (by simp) hd
      have nl0 : H l = none := nl
      generalize upd H l (.lst []) = H1 at gl hl ha1 hd1 ⊢
      refine ⟨_, rfl, a, T.C_Nothing, d, _, .ref T.C_BadBase, _, _, rfl, T.is_Nothing, ha1, hd1, (fun u z => z), T.kit_Nothing_BadBase, _, rfl, iteF ?_⟩
      refine ⟨_, rfl, a, T.C_Nothing, d, _, .ref T.C_BadDenominator, _, _, rfl, T.is_Nothing, ha1, hd1, (fun u z => z), T.kit_Nothing_BadDenominator, _, rfl, iteF ?_⟩
      refine ⟨_, rfl, a, T.C_Nothing, d, _, .ref T.C_BadFraction, _, _, rfl, T.is_Nothing, ha1, hd1, (fun u z => z), T.kit_Nothing_BadFraction, _, rfl, iteF ?_⟩
      refine ⟨_, rfl, a, T.C_Nothing, d, _, .ref T.C_BadDigits, _, _, rfl, T.is_Nothing, ha1, hd1, (fun u z => z), T.kit_Nothing_BadDigits, _, rfl, iteF ?_⟩
      refine ⟨_, rfl, a, T.C_Nothing, d, _, .ref T.C_BadNumber, _, _, rfl, T.is_Nothing, ha1, hd1, (fun u z => z), T.kit_Nothing_BadNumber, _, rfl, iteF ?_⟩
      refine ⟨_, rfl, a, T.C_Nothing, d, _, .ref T.C_BadPaper, _, _, rfl, T.is_Nothing, ha1, hd1, (fun u z => z), T.kit_Nothing_BadPaper, _, rfl, iteF ?_⟩
      refine ⟨_, rfl, a, T.C_Nothing, d, _, .ref T.C_BadText, _, _, rfl, T.is_Nothing, ha1, hd1, (fun u z => z), T.kit_Nothing_BadText, _, rfl, iteF ?_⟩
      refine ⟨_, rfl, a, T.C_Nothing, d, _, .ref T.C_TooGreat, _, _, rfl, T.is_Nothing, ha1, hd1, (fun u z => z), T.kit_Nothing_TooGreat, _, rfl, iteF ?_⟩
      refine ⟨_, rfl, a, T.C_Nothing, d, _, .ref T.C_Nothing, _, _, rfl, T.is_Nothing, ha1, hd1, (fun u z => z), T.kit_Nothing_Nothing, _, rfl, iteT ?_⟩
      refine ⟨_, rfl, .inl ⟨rfl, _, sq_lst hl⟩, _, rfl, a, T.C_Nothing, d, _, v, rfl, T.T_Nothing.xf, T.T_Nothing.no, ha1, hd1, lookup_one _ _, ?_⟩
      refine ⟨by show 2 ≤ sizeLine; decide, fun p np => ?_⟩
      have g2 : Gr [] H1 (upd H1 p (.tup [.str "nothing", v])) := Gr.new np
      have hp := upd_same (H := H1) (a := p) (o := .tup [.str "nothing", v])
      have hl2 := g2 l _ (by simp) hl
      have ha2 := g2 a _ (by simp) ha1
      have hd2 := g2 d _ (by simp) hd1
      generalize upd H1 p (.tup [.str "nothing", v]) = H2 at g2 hp hl2 ha2 hd2 ⊢
      refine ⟨l, _, _, rfl, rfl, hl2, by show 0 < sizeLine; decide, ?_⟩
      have gA : Gr [] H (upd H2 l (.lst ([] ++ [.ref p]))) := fun u o _ e => by
        rw [upd_ne (ne_of_none e nl0)]
        exact g2 u o (by simp) (gl u o (by simp) e)
      have hl3 : (upd H2 l (.lst ([] ++ [.ref p]))) l = some (.lst [.ref p]) := upd_same
      have hp3 : (upd H2 l (.lst ([] ++ [.ref p]))) p = some (.tup [.str "nothing", v]) := by
        rw [upd_ne (ne_of hp hl2 (by intro z; cases z))]
        exact hp
      have ha2 := gA a _ (by simp) ha
      have hd2 := gA d _ (by simp) hd
      generalize upd H2 l (.lst ([] ++ [.ref p])) = H3 at gA hl3 hp3 ha2 hd2 ⊢
      refine ⟨_, rfl, l, _, rfl, .inl (sq_lst hl3), rfl, _, rfl, iteT ?_⟩
      exact ⟨_, rfl, l, _, _, .ref p, rfl, rfl, sq_lst hl3, atI_nat (j := 0) rfl, q p _ gA hp3⟩

/-- what comes of _law_outcome(lambda: e) -/
abbrev TTout (T : Txt K mg) : (XK → Hp → VK → Prop) → Hp → VK → Prop := TTg (errs T)
theorem exm_ok (T : Txt K mg) {C : Addr} {f w : Str} (h : (C, f, w) ∈ errs T) : PySem.W.exmAny K (.ref C) [.ref T.C_WheelError, .ref T.C_Nothing, .ref T.C_TooGreat] = some true := by
  unfold errs at h
  simp only [List.mem_cons, List.not_mem_nil, or_false, Prod.mk.injEq] at h
  rcases h with ⟨rfl, _, _⟩ | ⟨rfl, _, _⟩
  · exact T.exm_TooGreat
  · exact T.exm_Nothing
theorem gives_out {X : Cx} (T : Txt K mg) (hK : X.K = K) (hm : X.mg = mg) {q : Str} : Gives X ["call", "found", "error", "e"] "_law_outcome" (defScope s_law_outcome) T.d_law_outcome.f T.d_law_outcome.fd.code (defBody s_law_outcome) "call" q (TTout T) := by
  subst hK hm
  intro f c' s H Q tl hr act hc h
  have hu := hu_of hr
  refine ⟨_, (pss_cons (ps_asg (pe_tup (pa_cons pe_non (pa_cons pe_non pa_nil))) (pg_tup (by rfl) (pgs_cons (pg_name (i := 1) sc_law_outcome.nd rfl (by first | exact .inl rfl | exact .inr rfl)) (pgs_cons (pg_name (i := 2) sc_law_outcome.nd rfl (by first | exact .inl rfl | exact .inr rfl)) pgs_nil))))
      (pss_cons (ps_try_keep (i := 3) (j := 2) rfl rfl sc_law_outcome.nd rfl rfl (by decide) rfl rfl (names3 T rfl rfl rfl rfl) (fun W pn xe tk _ => pss_one (ps_set (i := 1) sc_law_outcome.nd rfl (by first | exact .inl rfl | exact .inr rfl) (act W pn xe _ _ tk))))
      (pss_one (ps_ret (pe_ifExp (pt_cmpR op_isN (pv 2) pe_non (nomark _)) (pe_lst (pa_cons (pv 1) pa_nil)) (pe_call (ok_law_word T) (hr.mono (by decide)) (by rfl) T.d_law_word.m T.d_law_word.F.kp T.d_law_word.b .nil pass0 (pa_cons (pv 2) pa_nil))))))), ?_⟩
  refine ⟨by show 2 ≤ sizeLine; decide, fun p np => ?_⟩
  refine ⟨p, _, rfl, sq_tup upd_same, rfl, _, _, rfl, _, _, rfl, rfl, ?_⟩
  have g1 : Gr [] H (upd H p (.tup [.non, .non])) := Gr.new np
  generalize upd H p (.tup [.non, .non]) = H1 at g1 ⊢
  refine ⟨rfl, g1 c' _ (by simp) hc, fun cls d H3 => ∃ (C dd : Addr) (f w : Str) (v : V), cls = .ref C ∧ d = some dd ∧ (C, f, w) ∈ errs T ∧ H3 dd = some (.xd [(f, v)]) ∧ ∀ t H4, Gr [] H3 H4 → H4 t = some (.tup [.str w, v]) → Q (.ref t) H4, ?_, ?_⟩
  · rintro cls d H3 ⟨C, dd, f, w, v, rfl, rfl, he, hx, k⟩
    refine ⟨exm_ok T he, fun a na => ?_⟩
    refine ⟨_, rfl, rfl, _, rfl, iteFb (decide_eq_false (by intro z; cases z)) ?_⟩
    refine ⟨_, rfl, a, C, dd, f, w, v, rfl, he, upd_same, ?_, fun t H4 g4 h4 => k t H4 ((Gr.new na).trans g4) h4⟩
    rw [upd_ne (ne_of_none hx na)]
    exact hx
  · refine h H1 _ _ g1 (fun v H3 k => ?_) (fun C d f w v H3 he hx k => ⟨C, d, f, w, v, rfl, rfl, he, hx, k⟩)
    refine ⟨_, rfl, rfl, _, rfl, iteTb rfl ?_⟩
    exact ⟨_, rfl, by show 1 ≤ sizeLine; decide, fun l nl => k l nl⟩

end
end Wn
namespace Wn
open PySem PySem.Spec PyProof.Rows L2
open LamX (Tabs ExtN tLam)
local macro_rules | `(tactic| walk_at "vc") => `(tactic| simp only [cxK, cxK2, start1, start2, start3, tRet, tRetN, tSeq, tNext, tIfS, tAsg, gName, tDrop, tVar, tC, tOp, tUn, tTest, tB, tNot, tAnd, tOr, tAndV, tOrV, tNotV, tIf, tCons, tNil, tCB, tCall, tChain, tAug, ipI, rI, rI0, rU, rIs, rGcd, rEq, rNe, scal,
  List.getElem?_cons_zero, List.getElem?_cons_succ, List.set_cons_zero, List.set_cons_succ, Option.some.injEq, List.cons.injEq, V.int.injEq, V.bl.injEq, V.ref.injEq, V.str.injEq, and_true, true_and, exists_eq_left, exists_eq_left', exists_and_left, exists_and_right, List.append_nil, List.nil_append, List.cons_append, exists_eq_right, exists_eq_right', and_assoc, exists_const, V.ty.injEq, ↓reduceIte, Bool.false_eq_true, Bool.not_true, Bool.not_false, decide_eq_true_eq])

section
variable {P : Program} {w : World} {K : PySem.W.Frag} {mg : Str → Option Value} {base : Heap}

def PF (b x n : Nat) : Prop := BN b n ∧ x < n ∧ Nat.gcd x n = 1 ∧ Nat.gcd b n = 1
def sp_need_pure_fraction : Sp := fun vs H Q _ => ∃ (b x n : Nat) (a : Addr), vs = [.int b, .ref a] ∧ H a = some (.tup [.int x, .int n]) ∧ PF b x n ∧ Q (.ref a) H

def sp_piece_size : Sp := fun vs H Q _ => ∃ b n L c : Nat, vs = [.int b, .int n, .int c] ∧ BN b n ∧ Nat.gcd b n = 1 ∧ IsPer b n L ∧ (2 ≤ c ∧ c ∣ L) ∧ Q (.int (L / c : Nat)) H

def sp_number_of : Sp := fun vs H Q _ => ∃ (b : Nat) (t : Addr) (ds : List Nat), vs = [.int b, .ref t] ∧ H t = some (.tup (vn ds)) ∧ b ≤ 1000 ∧ Q (.int (wrt b ds : Nat)) H
theorem wrt_step {b : Nat} {ds : List Nat} {i : Nat} (hi : i < ds.length) : wrt b (ds.take (i + 1)) = wrt b (ds.take i) * b + ds[i] := by
  rw [List.take_succ_eq_append_getElem hi, wrt_snoc]
theorem ok_number_of (T : Txt K mg) : FnOk P w K mg base CX0 1 T.d_number_of.f T.d_number_of.fd ["base", "row"] sp_number_of := by
  refine T.d_number_of.F.ok sc_number_of (fun vs H Q E h => ?_) (fun cdv A outer s H vs Q E hr h => ?_)
  · obtain ⟨b, t, ds, rfl, _⟩ := h; rfl
  · have hu := hu_of hr
    refine ⟨_, (pss_cons (ps_set (i := 2) sc_number_of.nd rfl (by first | exact .inl rfl | exact .inr rfl) pe_int)
      (pss_cons (ps_for PassesOwn.never rfl (pi_tup (pv 1)) (pg_name (i := 3) sc_number_of.nd rfl (by first | exact .inl rfl | exact .inr rfl)) (pss_one (ps_set (i := 2) sc_number_of.nd rfl (by first | exact .inl rfl | exact .inr rfl) (pe_op op_add (pe_op op_mul (pv 2) (pv 0)) (pv 3)))))
      (pss_one (ps_ret (pv 2))))), ?_⟩
    obtain ⟨b, t, ds, rfl, ht, hb, q⟩ := h
    refine ⟨_, rfl, t, rfl, ⟨_, sq_tup ht⟩, ?_⟩
    refine for_tup (K := K) (a := t) (xs := vn ds) (fun i σ H' => H' = H ∧ ∃ v, σ = [some (.int b), some (.ref t), some (.int (wrt b (ds.take i) : Nat)), v]) ⟨rfl, none, ?_⟩ (fun i σ H' _ z => by rw [z.1]; exact sq_tup ht) ?_ ?_
    · rfl
    · rintro i y σ H' hy ⟨rfl, v, rfl⟩
      obtain ⟨hi, rfl⟩ := vn_get hy
      refine ⟨_, rfl, _, rfl, _, _, rfl, rfl, .inr ⟨by omega, by omega⟩, _, rfl, _, _, rfl, rfl, rfl, some (.int (ds[i] : Nat)), ?_⟩
      dsimp only
      rw [wrt_step hi, Int.natCast_add, Int.natCast_mul]
      rfl
    rintro σ H' ⟨rfl, v, rfl⟩
    rw [List.take_of_length_le (by rw [vn_len]; exact Nat.le_refl _)]
    exact ⟨_, rfl, q⟩

theorem dgf_vn (b n x lo c : Nat) : dgf b n x lo c = vn (dg b n x lo c) := by
  unfold dgf vn dg
  rw [List.map_map]
  rfl
theorem dg_cut {b n x L lo hi : Nat} (h1 : lo ≤ hi) (h2 : hi ≤ L) : cutV (vn (dg b n x 0 L)) (some (lo : Int)) (some (hi : Int)) = vn (dg b n x lo (hi - lo)) := by
  unfold cutV
  rw [HT.sIx_nat, HT.sIx_nat, vn_len, dg_len, Nat.min_eq_left h2, Nat.min_eq_left (Nat.le_trans h1 h2)]
  unfold vn dg
  rw [← List.map_drop, ← List.map_take, ← List.map_drop, ← List.map_take]
  rw [List.map_map, List.map_map]
  apply List.ext_getElem
  · simp
    omega
  · intro i i1 i2
    simp
theorem par_pure {b n p q h L : Nat} (hn : 1 ≤ n) (hg : Nat.gcd b n = 1) (P : Par b n p q h L) : p = n ∧ h = 0 := by
  have ep := P.hp.uniq (IsPure.self hg)
  subst ep
  have eq1 : q = 1 := by
    have := P.e
    have : p * 1 = p * q := by omega
    exact (Nat.eq_of_mul_eq_mul_left (by omega) this).symm
  subst eq1
  exact ⟨rfl, P.hh.uniq ⟨Nat.mod_one _, fun j hj => absurd hj (Nat.not_lt_zero _)⟩⟩
def CT (b n L k c : Nat) : Prop := IsPer b n L ∧ 2 ≤ c ∧ 1 ≤ k ∧ L = k * c
theorem CT.d {b n L k c : Nat} (h : CT b n L k c) : c ∣ L ∧ L / c = k := by
  obtain ⟨h1, h2, h3, h4⟩ := h
  exact ⟨⟨k, by rw [h4, Nat.mul_comm]⟩, by rw [h4]; exact Nat.mul_div_cancel _ (by omega)⟩
def sp_pieces : Sp := fun vs H Q _ => ∃ (b x n L k c : Nat) (a : Addr), vs = [.int b, .ref a, .int c] ∧ H a = some (.tup [.int x, .int n]) ∧ PF b x n ∧ CT b n L k c ∧
  ∀ t H', Gr [] H H' → H' t = some (.tup (vn (pcs b n x k c))) → Q (.ref t) H'

def qv (b n x k c : Nat) : V := if restSum b n x k c % n = 0 then .int (restSum b n x k c / n : Nat) else .non
def sp_quotient : Sp := fun vs H Q _ => ∃ (b x n L k c : Nat) (a : Addr), vs = [.int b, .ref a, .int c] ∧ H a = some (.tup [.int x, .int n]) ∧ PF b x n ∧ CT b n L k c ∧
  ∀ H', Gr [] H H' → Q (qv b n x k c) H'

def sp_law_power : Sp := fun vs H Q _ => ∃ b k : Nat, vs = [.int b, .int k] ∧ (b ≤ 1000 ∧ k ≤ 100000) ∧ Q (.int (b ^ k : Nat)) H

def sp_are_digits : Sp := fun vs H Q _ => ∃ (a : Addr) (b lo : Nat) (ds : List Nat), vs = [.int b, .ref a, .int lo] ∧ H a = some (.tup (vn ds)) ∧ (∀ d ∈ ds, d < b) ∧ (lo ≤ ds.length ∧ ds.length ≤ 400) ∧ ∀ H', Gr [] H H' → Q (.bl true) H'
theorem ok_are_digits (T : Txt K mg) : FnOk P w K mg base CX0 3 T.d_are_digits.f T.d_are_digits.fd ["base", "value", "least"] sp_are_digits := by
  refine T.d_are_digits.F.ok sc_are_digits (fun vs H Q E h => ?_) (fun cdv A outer s H vs Q E hr h => ?_)
  · obtain ⟨a, b, lo, ds, rfl, _⟩ := h; rfl
  · have hu := hu_of hr
    refine ⟨_, (pss_cons (ps_if (PW.pt (pw_or (pt_not (pt_val (pe_callB (r := rIs K) call_is (by rfl) T.b_isinstance (by decide +kernel) (pa_cons (pv 1) (pa_cons (pe_bltn (v := .ty "tuple") (by rfl) T.b_tuple (by decide +kernel) rfl) pa_nil))))) (pw_or1 (pt_not (pt_chain op_le op_le (pv 2) (pe_callB (r := rLn K) call_ln (by rfl) T.b_len PySem.boot_len (pa_cons (pv 1) pa_nil)) (pe_glob (v := .int 400) (by rfl) T.c_MOST_DIGITS ⟨_, rfl⟩)))))) (pss_one (ps_ret pe_bl)) pss_nil)
      (pss_one (ps_ret (pe_callB (r := rAll K) (cr_all rfl) (by rfl) T.b_all (by decide +kernel) (pa_cons (pe_lc (own := [("digit", 3)]) (g := gName 3) (tt := tYes) rfl sc_are_digits.nd (pi_tup (pv 1)) (blkOk_by (own := [("digit", 3)]) (N := ["base", "value", "least", "digit"]) (sc := defScope s_are_digits) (by decide +kernel)) (fun _ _ _ _ _ => (pg_name (i := 3) sc_are_digits.nd rfl (by first | exact .inl rfl | exact .inr rfl))) (fun _ _ _ _ _ => pts_nil) (fun _ _ _ _ _ => (pe_call (ok_is_within T) (hr.mono (by decide)) (by rfl) T.d_is_within.m T.d_is_within.F.kp T.d_is_within.b .nil pass0 (pa_cons (pv 3) (pa_cons pe_int (pa_cons (pe_op op_sub (pv 0) pe_int) pa_nil)))))) pa_nil))))), ?_⟩
    obtain ⟨a, b, lo, ds, rfl, ha, hds, ⟨h1, h2⟩, q⟩ := h
    refine ⟨_, rfl, _, "tuple", rfl, "tuple", ⟨ty_tup ha, by decide, by decide⟩, true, rfl, ?_⟩
    refine iteF ⟨_, rfl, _, rfl, a, _, rfl, .inr (sq_tup ha), ?_⟩
    rw [vn_len]
    refine ⟨_, _, rfl, rfl, _, rfl, iteTb (decide_eq_true (by omega)) ⟨_, _, rfl, rfl, _, rfl, iteFb ?_ ?_⟩⟩
    · rw [decide_eq_true (show (ds.length : Int) ≤ 400 by omega)]
      rfl
    refine ⟨_, rfl, a, rfl, ⟨_, sq_tup ha⟩, fun D nD => ?_⟩
    refine lc_tup (K := K) (a := a) (xs := vn ds) (fun j H2 => Gr [] H H2 ∧ H2 D = some (.lst ((List.replicate j true).map V.bl))) ⟨Gr.new nD, upd_same⟩ (fun i H2 _ z => sq_tup (z.1 a _ (by simp) ha)) ?_ ?_
    · rintro j y H2 hy ⟨G2, hD⟩
      obtain ⟨hj, rfl⟩ := vn_get hy
      have hk := hds _ (List.getElem_mem hj)
      refine ⟨rfl, ?_⟩
      dsimp only [tYes]
      refine iteT ⟨_, rfl, _, rfl, _, 1, rfl, rfl, _, _, _, rfl, ⟨by omega, by omega⟩, _, hD, ?_, ?_, ?_⟩
      · rw [List.length_map, List.length_replicate]
        exact Nat.lt_of_lt_of_le (show j < 6000 by omega) (by decide)
      · intro u o _ e
        rw [upd_ne (ne_of_none e nD)]
        exact G2 u o (by simp) e
      · rw [upd_same, List.replicate_succ', List.map_append]
        rfl
    rintro H2 ⟨G2, hD⟩
    refine ⟨D, _, rfl, sq_lst hD, ?_⟩
    have e : (List.replicate (vn ds).length true).all id = true := by
      rw [List.all_eq_true]
      intro x hx
      rw [List.eq_of_mem_replicate hx]
      rfl
    rw [e]
    exact q _ G2

def sp_need_digits : Sp := fun vs H Q _ => ∃ (a : Addr) (b : Nat) (ds : List Nat), vs = [.int b, .ref a] ∧ H a = some (.tup (vn ds)) ∧ (2 ≤ b ∧ b ≤ 1000) ∧ (∀ d ∈ ds, d < b) ∧ (1 ≤ ds.length ∧ ds.length ≤ 400) ∧ ∀ H', Gr [] H H' → Q (.ref a) H'
theorem ok_need_digits (T : Txt K mg) : FnOk P w K mg base CX0 4 T.d_need_digits.f T.d_need_digits.fd ["base", "value"] sp_need_digits := by
  refine T.d_need_digits.F.ok sc_need_digits (fun vs H Q E h => ?_) (fun cdv A outer s H vs Q E hr h => ?_)
  · obtain ⟨a, b, ds, rfl, _⟩ := h; rfl
  · have hu := hu_of hr
    refine ⟨_, (pss_cons (ps_expr (pe_call (ok_need_base T) (hr.mono (by decide)) (by rfl) T.d_need_base.m T.d_need_base.F.kp T.d_need_base.b .nil pass0 (pa_cons (pv 0) pa_nil)))
      (pss_cons (ps_if (pt_not (pt_val (pe_call (ok_are_digits T) (hr.mono (by decide)) (by rfl) T.d_are_digits.m T.d_are_digits.F.kp T.d_are_digits.b .nil pass0 (pa_cons (pv 0) (pa_cons (pv 1) (pa_cons pe_int pa_nil)))))) (pss_one ps_never) pss_nil)
      (pss_one (ps_ret (pv 1))))), ?_⟩
    obtain ⟨a, b, ds, rfl, ha, ⟨hb1, hb2⟩, hds, ⟨h1, h2⟩, q⟩ := h
    refine ⟨_, rfl, b, rfl, ⟨by omega, by omega⟩, ?_⟩
    refine ⟨_, rfl, _, rfl, a, b, 1, ds, rfl, ha, hds, ⟨h1, h2⟩, fun H1 g1 => ⟨_, rfl, iteF ?_⟩⟩
    exact ⟨_, rfl, q _ g1⟩

def sp_rotated : Sp := fun vs H Q _ => ∃ (a : Addr) (b by_ : Nat) (ds : List Nat), vs = [.int b, .ref a, .int by_] ∧ H a = some (.tup (vn ds)) ∧ (2 ≤ b ∧ b ≤ 1000) ∧ (∀ d ∈ ds, d < b) ∧ (1 ≤ ds.length ∧ ds.length ≤ 400) ∧ by_ ≤ 10 ^ 30 ∧ ∀ t H', Gr [] H H' → H' t = some (.tup (vn (rotL ds (by_ % ds.length)))) → Q (.ref t) H'
theorem vn_drop (ds : List Nat) (k : Nat) : (vn ds).drop k = vn (ds.drop k) := by
  unfold vn
  rw [List.map_drop]
theorem vn_take (ds : List Nat) (k : Nat) : (vn ds).take k = vn (ds.take k) := by
  unfold vn
  rw [List.map_take]
theorem vn_app (xs ys : List Nat) : vn xs ++ vn ys = vn (xs ++ ys) := by
  unfold vn
  rw [List.map_append]
theorem vn_nil {xs : List Nat} (h : vn xs = []) : xs = [] := List.map_eq_nil_iff.mp h

def sp_law_turned : Sp := fun vs H Q _ => ∃ (a : Addr) (by_ : Nat) (ds : List Nat), vs = [.ref a, .int by_] ∧ H a = some (.tup (vn ds)) ∧ (1 ≤ ds.length ∧ ds.length ≤ 5000) ∧ ∀ t H', Gr [] H H' → H' t = some (.tup (vn (rotL ds (by_ % ds.length)))) → Q (.ref t) H'

def DG (b : Nat) (ds : List Nat) : Prop := (2 ≤ b ∧ b ≤ 1000) ∧ (∀ d ∈ ds, d < b) ∧ (1 ≤ ds.length ∧ ds.length ≤ 400)
def sp_value_of : Sp := fun vs H Q _ => ∃ (a : Addr) (b : Nat) (ds : List Nat), vs = [.int b, .ref a] ∧ H a = some (.tup (vn ds)) ∧ DG b ds ∧ ∀ H', Gr [] H H' → Q (.int (wrt b ds : Nat)) H'
theorem pow_bits {b k : Nat} (hb : b ≤ 1000) : b ^ k < 2 ^ (10 * k + 1) := by
  refine Nat.lt_of_le_of_lt (Nat.pow_le_pow_left (show b ≤ 2 ^ 10 by omega) k) ?_
  rw [← Nat.pow_mul]
  exact Nat.pow_lt_pow_right (by decide) (by omega)
theorem wrt_bits {b : Nat} {ds : List Nat} (hb : b ≤ 1000) (h : ∀ d ∈ ds, d < b) : wrt b ds < 2 ^ (10 * ds.length + 1) := Nat.lt_trans (wrt_lt h) (pow_bits hb)
theorem catA_of {K : PySem.W.Frag} {H : Hp} {p1 p2 : Addr} {xs ys : List V} {Q : VK} (h1 : H p1 = some (.tup xs)) (h2 : H p2 = some (.tup ys)) (hz : xs.length + ys.length ≤ 6000) (q : ∀ p H', Gr [] H H' → H' p = some (.tup (xs ++ ys)) → Q (.ref p) H') : rCatA K (.ref p1) (.ref p2) H Q :=
  ⟨p1, p2, xs, ys, rfl, rfl, sq_tup h1, sq_tup h2, Nat.le_trans hz (by decide), fun z => q p2 H (Gr.refl _ _) (by rw [z]; exact h2), fun _ z => q p1 H (Gr.refl _ _) (by rw [z, List.append_nil]; exact h1), fun _ _ p np => q p _ (Gr.new np) upd_same⟩
theorem ok_power (T : Txt K mg) : FnOk P w K mg base CX0 1 T.d_power.f T.d_power.fd ["number", "exponent"] sp_law_power := by
  refine T.d_power.F.ok sc_power (fun vs H Q E h => ?_) (fun cdv A outer s H vs Q E hr h => ?_)
  · obtain ⟨b, k, rfl, _⟩ := h; rfl
  · have hu := hu_of hr
    refine ⟨_, (pss_cons (ps_set (i := 2) sc_power.nd rfl (by first | exact .inl rfl | exact .inr rfl) pe_int)
      (pss_cons (ps_for PassesOwn.never rfl (pi_range1 (by rfl) T.b_range (pa_cons (pv 1) pa_nil)) (pg_name (i := 3) sc_power.nd rfl (by first | exact .inl rfl | exact .inr rfl)) (pss_one (ps_set (i := 2) sc_power.nd rfl (by first | exact .inl rfl | exact .inr rfl) (pe_op op_mul (pv 2) (pv 0)))))
      (pss_one (ps_ret (pv 2))))), ?_⟩
    obtain ⟨b, k, rfl, ⟨hb, hk⟩, q⟩ := h
    refine ⟨_, rfl, (k : Int), rfl, by omega, by omega, ?_⟩
    refine for_range (lo := 0) (n := ((k : Int)).toNat) (fun i σ H' => H' = H ∧ ∃ v, σ = [some (.int b), some (.int k), some (.int (b ^ i : Nat)), v]) ⟨rfl, none, ?_⟩ ?_ ?_
    · rfl
    · rintro i σ H' hi ⟨rfl, v, rfl⟩
      refine ⟨_, rfl, _, rfl, _, _, rfl, rfl, .inr ⟨by omega, by omega⟩, rfl, some (.int (0 + (i : Int))), ?_⟩
      dsimp only
      rw [Nat.pow_succ, Int.natCast_mul]
      rfl
    rintro σ H' ⟨rfl, v, rfl⟩
    rw [Int.toNat_natCast]
    exact ⟨_, rfl, q⟩

def DH (b : Nat) (ds : List Nat) : Prop := (∀ d ∈ ds, d < b) ∧ ds.length ≤ 400
/-- the fraction in lowest terms -/
def frF (b : Nat) (h g : List Nat) : Nat × Nat := (frN b h g / Nat.gcd (frN b h g) (frD b h g), frD b h g / Nat.gcd (frN b h g) (frD b h g))
def sp_fraction_ofX (T : Txt K mg) : Sp := fun vs H Q E => ∃ (a c : Addr) (b : Nat) (h g : List Nat), vs = [.int b, .ref a, .ref c] ∧ H a = some (.tup (vn h)) ∧ H c = some (.tup (vn g)) ∧ DH b h ∧ DG b g ∧
  (frN b h g = frD b h g → ∀ H1 d, Gr [] H H1 → H1 d = none → E (.ref T.C_Nothing) (some d) (upd H1 d (.xd [("value", .ref c)]))) ∧
  (frN b h g ≠ frD b h g → 5000 < (frF b h g).2 → ∀ H1 d, Gr [] H H1 → H1 d = none → E (.ref T.C_TooGreat) (some d) (upd H1 d (.xd [("most", .int 5000)]))) ∧
  (frN b h g ≠ frD b h g → (frF b h g).2 ≤ 5000 → ∀ t H', Gr [] H H' → H' t = some (.tup [.int ((frF b h g).1 : Nat), .int ((frF b h g).2 : Nat)]) → Q (.ref t) H')
theorem nines_cast {b k : Nat} (hb : 2 ≤ b) : ((b ^ k : Nat) : Int) - 1 = ((b ^ k - 1 : Nat) : Int) := by
  have : 1 ≤ b ^ k := Nat.pow_pos (by omega)
  omega
theorem pow4 {b k : Nat} (hb : b ≤ 1000) (hk : k ≤ 400) : b ^ k < 2 ^ 4001 := Nat.lt_of_lt_of_le (pow_bits hb) (Nat.pow_le_pow_right (by decide) (by omega))
theorem frD_bits {b : Nat} {h g : List Nat} (hb : b ≤ 1000) (h1 : h.length ≤ 400) (h2 : g.length ≤ 400) : frD b h g < 2 ^ 8002 := by
  have a1 := pow4 hb h1
  have a2 := pow4 (k := g.length) hb h2
  have : frD b h g ≤ b ^ h.length * b ^ g.length := Nat.mul_le_mul_left _ (Nat.sub_le _ _)
  refine Nat.lt_of_le_of_lt this ?_
  rw [show 8002 = 4001 + 4001 from rfl, Nat.pow_add]
  exact Nat.mul_lt_mul'' a1 a2
theorem frF_den {b : Nat} {h g : List Nat} (hb : 2 ≤ b) (hg : 1 ≤ g.length) : 1 ≤ Nat.gcd (frN b h g) (frD b h g) ∧ Nat.gcd (frN b h g) (frD b h g) ≤ frD b h g :=
  ⟨Nat.gcd_pos_of_pos_right _ (frD_pos hb hg), Nat.le_of_dvd (frD_pos hb hg) (Nat.gcd_dvd_right _ _)⟩
theorem okX_fraction_of (T : Txt K mg) : FnOk P w K mg base (L2.CX P w) 6 T.d_fraction_of.f T.d_fraction_of.fd ["base", "head", "digits"] (sp_fraction_ofX T) := by
  refine T.d_fraction_of.F.okX sc_fraction_of (fun vs H Q E h => ?_) (fun cdv A outer s H vs Q E hr h => ?_)
  · obtain ⟨a, c, b, h, g, rfl, _⟩ := h; rfl
  · have hu := hu_of hr
    refine ⟨_, (pss_cons (ps_expr (pe_call (ok_need_base T) (hr.mono (by decide)) (by rfl) T.d_need_base.m T.d_need_base.F.kp T.d_need_base.b .nil pass0 (pa_cons (pv 0) pa_nil)))
      (pss_cons (ps_if (pt_not (pt_val (pe_call (ok_are_digits T) (hr.mono (by decide)) (by rfl) T.d_are_digits.m T.d_are_digits.F.kp T.d_are_digits.b .nil pass0 (pa_cons (pv 0) (pa_cons (pv 1) (pa_cons pe_int pa_nil)))))) (PSs.nox (pss_one ps_never)) pss_nil)
      (pss_cons (ps_expr (pe_call (ok_need_digits T) (hr.mono (by decide)) (by rfl) T.d_need_digits.m T.d_need_digits.F.kp T.d_need_digits.b .nil pass0 (pa_cons (pv 0) (pa_cons (pv 2) pa_nil))))
      (pss_cons (ps_set (i := 3) sc_fraction_of.nd rfl (by first | exact .inl rfl | exact .inr rfl) (pe_op op_sub (pe_call (ok_power T) (hr.mono (by decide)) (by rfl) T.d_power.m T.d_power.F.kp T.d_power.b .nil pass0 (pa_cons (pv 0) (pa_cons (pe_callB (r := rLn K) call_ln (by rfl) T.b_len PySem.boot_len (pa_cons (pv 2) pa_nil)) pa_nil))) pe_int))
      (pss_cons (ps_set (i := 4) sc_fraction_of.nd rfl (by first | exact .inl rfl | exact .inr rfl) (pe_op op_add (pe_op op_mulW (pe_call (ok_number_of T) (hr.mono (by decide)) (by rfl) T.d_number_of.m T.d_number_of.F.kp T.d_number_of.b .nil pass0 (pa_cons (pv 0) (pa_cons (pv 1) pa_nil))) (pv 3)) (pe_call (ok_number_of T) (hr.mono (by decide)) (by rfl) T.d_number_of.m T.d_number_of.F.kp T.d_number_of.b .nil pass0 (pa_cons (pv 0) (pa_cons (pv 2) pa_nil)))))
      (pss_cons (ps_set (i := 5) sc_fraction_of.nd rfl (by first | exact .inl rfl | exact .inr rfl) (pe_op op_mulW (pe_call (ok_power T) (hr.mono (by decide)) (by rfl) T.d_power.m T.d_power.F.kp T.d_power.b .nil pass0 (pa_cons (pv 0) (pa_cons (pe_callB (r := rLn K) call_ln (by rfl) T.b_len PySem.boot_len (pa_cons (pv 1) pa_nil)) pa_nil))) (pv 3)))
      (pss_cons (ps_if (pt_cmpR op_eq (pv 4) (pv 5) (nomark _)) (pss_one (ps_raise rfl (takes_of rfl rfl rfl rfl) (pmkE T.T_Nothing (ok_init_Nothing T) (hr.mono (by decide)) T.b_Nothing pass0 (by rfl) T.g_Nothing (pa_cons (pv 2) pa_nil)))) pss_nil)
      (pss_cons (ps_set (i := 6) sc_fraction_of.nd rfl (by first | exact .inl rfl | exact .inr rfl) (pe_callBfun cr_gcd (by rfl) T.b_gcd (pa_cons (pv 4) (pa_cons (pv 5) pa_nil))))
      (pss_cons (ps_if (pt_cmpR op_gt (pe_op op_fdivW (pv 5) (pv 6)) (pe_glob (v := .int 5000) (by rfl) T.c_MOST_DENOMINATOR ⟨_, rfl⟩) (nomark _)) (pss_one (ps_raise rfl (takes_of rfl rfl rfl rfl) (pmkE T.T_TooGreat (ok_init_TooGreat T) (hr.mono (by decide)) T.b_TooGreat pass0 (by rfl) T.g_TooGreat (pa_cons (pe_glob (v := .int 5000) (by rfl) T.c_MOST_DENOMINATOR ⟨_, rfl⟩) pa_nil)))) pss_nil)
      (PSs.nox (pss_one (ps_ret (pe_tup (pa_cons (pe_op op_fdivW (pv 4) (pv 6)) (pa_cons (pe_op op_fdivW (pv 5) (pv 6)) pa_nil))))))))))))))), ?_⟩
    obtain ⟨a, c, b, h, g, rfl, ha, hc, hh, hD, e1, e2, q⟩ := h
    obtain ⟨⟨hb1, hb2⟩, hds, ⟨h1, h2⟩⟩ := id hD
    refine ⟨_, rfl, b, rfl, ⟨by omega, by omega⟩, ?_⟩
    refine ⟨_, rfl, _, rfl, a, b, 0, h, rfl, ha, hh.1, ⟨Nat.zero_le _, hh.2⟩, fun H1 g1 => ⟨_, rfl, iteF ?_⟩⟩
    have hc1 := g1 c _ (by simp) hc
    refine ⟨_, rfl, _, rfl, c, b, g, rfl, hc1, ⟨hb1, hb2⟩, hds, ⟨h1, h2⟩, fun H2 g2 => ?_⟩
    have ha2 := g2 a _ (by simp) (g1 a _ (by simp) ha)
    have hc2 := g2 c _ (by simp) hc1
    have G := g1.trans g2
    refine ⟨_, rfl, _, rfl, c, _, rfl, .inr (sq_tup hc2), b, g.length, ?_, ⟨hb2, by omega⟩, _, _, rfl, rfl, ?_⟩
    · rw [vn_len]
      rfl
    dsimp only
    rw [nines_cast hb1]
    have p1 := pow4 (k := g.length) hb2 h2
    have p2 := pow4 (k := h.length) hb2 hh.2
    have wh := Nat.lt_trans (wrt_lt hh.1) p2
    have np : b ^ g.length - 1 < 2 ^ 4001 := Nat.lt_of_le_of_lt (Nat.sub_le _ _) p1
    have cm : ∀ {u v : Nat}, u < 2 ^ 4001 → v < 2 ^ 4001 → CMulW (u : Int) (v : Int) := fun h1 h2 => wide_mul (a := 4001) (b := 4001) (by rw [Int.natAbs_natCast]; exact h1) (by rw [Int.natAbs_natCast]; exact h2) (by decide) (by decide) (by decide)
    refine ⟨_, rfl, _, rfl, b, a, h, rfl, ha2, hb2, _, rfl, _, _, rfl, rfl, cm wh np, _, rfl, _, rfl, b, c, g, rfl, hc2, hb2, _, _, rfl, rfl, ?_⟩
    refine ⟨_, rfl, _, rfl, a, _, rfl, .inr (sq_tup ha2), b, h.length, ?_, ⟨hb2, by have := hh.2; omega⟩, _, rfl, _, _, rfl, rfl, cm p2 np, ?_⟩
    · rw [vn_len]
      rfl
    dsimp only
    have en : ((wrt b h : Nat) : Int) * ((b ^ g.length - 1 : Nat) : Int) + ((wrt b g : Nat) : Int) = ((frN b h g : Nat) : Int) := by
      unfold frN
      rw [Int.natCast_add, Int.natCast_mul]
    have ed : ((b ^ h.length : Nat) : Int) * ((b ^ g.length - 1 : Nat) : Int) = ((frD b h g : Nat) : Int) := by
      unfold frD
      rw [Int.natCast_mul]
    rw [en, ed]
    have dp := frD_pos (h := h) hb1 h1
    have db := frD_bits (h := h) (g := g) hb2 hh.2 h2
    obtain ⟨c1, c2⟩ := frF_den (h := h) hb1 h1
    have q' : ∀ t H', Gr [] H H' → H' t = some (.tup [.int ((frN b h g / Nat.gcd (frN b h g) (frD b h g) : Nat) : Int), .int ((frD b h g / Nat.gcd (frN b h g) (frD b h g) : Nat) : Int)]) → frN b h g ≠ frD b h g → frD b h g / Nat.gcd (frN b h g) (frD b h g) ≤ 5000 → Q (.ref t) H' := fun t H' g0 e n1 n2 => q n1 n2 t H' g0 e
    have e2' : frN b h g ≠ frD b h g → 5000 < frD b h g / Nat.gcd (frN b h g) (frD b h g) → ∀ H1 d, Gr [] H H1 → H1 d = none → E (.ref T.C_TooGreat) (some d) (upd H1 d (.xd [("most", .int 5000)])) := e2
    generalize frN b h g = N at *
    generalize frD b h g = D at *
    refine ⟨_, rfl, _, rfl, rfl, _, rfl, ?_⟩
    by_cases hND : N = D
    · refine iteTb (decide_eq_true (by rw [hND])) ⟨_, rfl, mk1_go fun d nd => e1 hND H2 d G nd⟩
    refine iteFb (decide_eq_false (fun z => hND (by have := V.int.inj z; omega))) ?_
    refine ⟨_, rfl, _, rfl, _, _, rfl, ?_⟩
    rw [Int.natAbs_natCast, Int.natAbs_natCast]
    have cd : CDivW (D : Int) ((Nat.gcd N D : Nat) : Int) := wide_div (b := 8002) (by omega) (by rw [Int.natAbs_natCast]; exact Nat.lt_of_le_of_lt c2 db) (by decide) (by decide)
    refine ⟨_, rfl, _, rfl, _, _, rfl, rfl, cd, _, _, rfl, rfl, _, rfl, ?_⟩
    dsimp only
    rw [← Int.natCast_ediv]
    by_cases hg : 5000 < D / Nat.gcd N D
    · refine iteTb (decide_eq_true (by omega)) (mk1_go fun d nd => e2' hND hg H2 d G nd)
    refine iteFb (decide_eq_false (by omega)) ?_
    refine ⟨_, rfl, _, rfl, _, _, rfl, rfl, cd, _, rfl, _, rfl, _, _, rfl, rfl, cd, by show 2 ≤ sizeLine; decide, fun t nt => ?_⟩
    refine q' t _ (G.trans (Gr.new nt)) ?_ hND (by omega)
    rw [upd_same]
    exact congrArg (fun z => some (HO.tup z)) (by rw [Int.natCast_ediv, Int.natCast_ediv])

end
end Wn
namespace Wn
open PySem PySem.Spec PyProof.Rows L2
open LamX (Tabs ExtN tLam)
local macro_rules | `(tactic| walk_at "vc") => `(tactic| simp only [cxK, cxK2, start1, start2, start3, tRet, tRetN, tSeq, tNext, tIfS, tAsg, gName, tDrop, tVar, tC, tOp, tUn, tTest, tB, tNot, tAnd, tOr, tAndV, tOrV, tNotV, tIf, tCons, tNil, tCB, tCall, tChain, tAug, ipI, rI, rI0, rU, rIs, rGcd, rEq, rNe, scal,
  List.getElem?_cons_zero, List.getElem?_cons_succ, List.set_cons_zero, List.set_cons_succ, Option.some.injEq, List.cons.injEq, V.int.injEq, V.bl.injEq, V.ref.injEq, V.str.injEq, and_true, true_and, exists_eq_left, exists_eq_left', exists_and_left, exists_and_right, List.append_nil, List.nil_append, List.cons_append, exists_eq_right, exists_eq_right', and_assoc, exists_const, V.ty.injEq, ↓reduceIte, Bool.false_eq_true, Bool.not_true, Bool.not_false, decide_eq_true_eq])

section
variable {P : Program} {w : World} {K : PySem.W.Frag} {mg : Str → Option Value} {base : Heap}
def sp_need_string : Sp := fun vs H Q _ => ∃ (s : Str), vs = [.str s] ∧ Q .non H
def optV : Option Nat → V
  | none => .non
  | some n => .int (n : Nat)
def sp_run_size : Sp := fun vs H Q _ => ∃ (s : Str), vs = [.str s] ∧ s.length ≤ sizeLine ∧ Q (.int (runN s : Nat)) H
def sp_integer_in : Sp := fun vs H Q _ => ∃ (s : Str), vs = [.str s] ∧ s.length ≤ sizeLine ∧ Q (optV (intIn s)) H
def frS (x n : Nat) : Str := nS x ++ Str.ofString "/" ++ nS n
def sp_fraction_text : Sp := fun vs H Q _ => ∃ (a : Addr) (x n : Nat), vs = [.ref a] ∧ H a = some (.tup [.int x, .int n]) ∧ (x < n ∧ n ≤ 5000 ∧ Nat.gcd x n = 1) ∧ Q (.str (frS x n)) H
def sp_read_fraction : Sp := fun vs H Q _ => ∃ (x n : Nat), vs = [.str (frS x n)] ∧ (x < n ∧ n ≤ 5000 ∧ Nat.gcd x n = 1) ∧ ∀ t, H t = none → Q (.ref t) (upd H t (.tup [.int x, .int n]))
def sp_expansion_text : Sp := fun vs H Q _ => ∃ (b x n : Nat) (a : Addr), vs = [.int b, .ref a] ∧ H a = some (.tup [.int x, .int n]) ∧ (BN b n ∧ x < n ∧ Nat.gcd x n = 1) ∧
  ∀ p q h L H', IsPure b n p → n = p * q → IsHead b q h → IsPer b p L → Gr [] H H' → Q (.str (expS (dg b n x 0 h) (dg b n x h L))) H'
def sp_digits_in : Sp := fun vs H Q _ => ∃ (b : Nat) (a : Addr) (ws : List Str), vs = [.int b, .ref a] ∧ H a = some (.lst (ws.map V.str)) ∧ (∀ w ∈ ws, w.length ≤ sizeLine) ∧ (ws.length ≤ sizeLine) ∧ ∀ t H', Gr [] H H' → H' t = some (.tup (vn (digIn b ws))) → Q (.ref t) H'
def sp_need_word (K : PySem.W.Frag) : Sp := fun vs H Q _ => ∃ (a : Addr) (ws : List Str) (k : Nat) (w : Str), vs = [.ref a, .int k, .str w] ∧ H a = some (.lst (ws.map V.str)) ∧ ws[k]? = some w ∧ (PyData.str w).canLay0 = true ∧ ∀ H', Gr [] H H' → Q .non H'
def sp_read_expansion (T : Txt K mg) : Sp := fun vs H Q E => ∃ (b : Nat) (h g : List Nat), vs = [.int b, .str (expS h g)] ∧ DH b h ∧ DG b g ∧
  (frN b h g = frD b h g → ∀ H1 d c, Gr [] H H1 → H1 c = some (.tup (vn g)) → H1 d = some (.xd [("value", .ref c)]) → E (.ref T.C_Nothing) (some d) H1) ∧
  (frN b h g ≠ frD b h g → 5000 < (frF b h g).2 → ∀ H1 d, Gr [] H H1 → H1 d = some (.xd [("most", .int 5000)]) → E (.ref T.C_TooGreat) (some d) H1) ∧
  (frN b h g ≠ frD b h g → (frF b h g).2 ≤ 5000 → ∀ t H', Gr [] H H' → H' t = some (.tup [.int ((frF b h g).1 : Nat), .int ((frF b h g).2 : Nat)]) → Q (.ref t) H')
theorem sz40 {k : Nat} (h : k ≤ 6000) : k ≤ sizeLine := Nat.le_trans h (by decide)
theorem frS_len (x n : Nat) (hx : x ≤ 5000) (hn : n ≤ 5000) : (frS x n).length ≤ 9 ∧ (nS x).length ≤ 4 ∧ (nS n).length ≤ 4 := by
  have h1 := nS_len (n := x) (k := 4) (by decide) (by omega)
  have h2 := nS_len (n := n) (k := 4) (by decide) (by omega)
  refine ⟨?_, h1, h2⟩
  rw [len_cps]
  show (TL.tl (frS x n)).length ≤ 9
  unfold frS
  rw [TL.tl_append, TL.tl_append, List.length_append, List.length_append]
  rw [len_cps] at h1 h2
  have h3 : (TL.tl (Str.ofString "/")).length = 1 := by decide +kernel
  change (TL.tl (nS x)).length ≤ 4 at h1
  change (TL.tl (nS n)).length ≤ 4 at h2
  omega
theorem tl_frS (x n : Nat) : TL.tl (frS x n) = TL.numL x ++ 47 :: TL.numL n := by
  unfold frS
  rw [TL.tl_append, TL.tl_append]
  have h3 : TL.tl (Str.ofString "/") = [47] := by decide +kernel
  rw [h3, show TL.tl (nS x) = TL.numL x from TL.tl_num x, show TL.tl (nS n) = TL.numL n from TL.tl_num n, List.append_assoc]
  rfl
theorem take_app {f : Nat → Bool} {c : Nat} {r : List Nat} (hc : f c = false) : ∀ {l : List Nat}, (∀ x ∈ l, f x = true) → (l ++ c :: r).takeWhile f = l
  | [], _ => by
    rw [List.nil_append, List.takeWhile_cons, if_neg (by rw [hc]; decide)]
  | x :: l, h => by
    rw [List.cons_append, List.takeWhile_cons, if_pos (h x (List.mem_cons_self ..)), take_app hc fun y hy => h y (List.mem_cons_of_mem _ hy)]
theorem dgC_num (n : Nat) : ∀ c ∈ TL.numL n, dgC c = true := fun c hc => nS_dig n c (by rw [tl_nS]; exact hc)
theorem run_frS (x n : Nat) : runN (frS x n) = (TL.numL x).length := by
  unfold runN
  rw [show (frS x n).cps.toList = TL.tl (frS x n) from rfl, tl_frS, take_app (by decide) (dgC_num x)]
theorem cut1 (x n : Nat) : cutS (frS x n) none (some (((TL.numL x).length : Nat) : Int)) = nS x := by
  refine TL.ext_tl ?_
  show (((frS x n).cps.toList.drop (HT.sIx (frS x n).length 0 none)).take (HT.sIx (frS x n).length (frS x n).length (some (((TL.numL x).length : Nat) : Int)) - HT.sIx (frS x n).length 0 none)).toArray.toList = _
  have e : (frS x n).cps.toList = TL.numL x ++ 47 :: TL.numL n := tl_frS x n
  rw [HT.sIx_none, HT.sIx_nat, List.drop_zero, Nat.sub_zero, len_cps, e, List.length_append, Nat.min_eq_left (Nat.le_add_right _ _), List.take_left']
  · exact (TL.tl_num x).symm
  · rfl
theorem cut2 (x n : Nat) : cutS (frS x n) (some (((TL.numL x).length : Nat) : Int)) (some (((TL.numL x).length + 1 : Nat) : Int)) = Str.ofString "/" := by
  refine TL.ext_tl ?_
  have h3 : TL.tl (Str.ofString "/") = [47] := by decide +kernel
  rw [h3]
  show (((frS x n).cps.toList.drop (HT.sIx (frS x n).length 0 (some (((TL.numL x).length : Nat) : Int)))).take (HT.sIx (frS x n).length (frS x n).length (some (((TL.numL x).length + 1 : Nat) : Int)) - HT.sIx (frS x n).length 0 (some (((TL.numL x).length : Nat) : Int)))).toArray.toList = _
  have e : (frS x n).cps.toList = TL.numL x ++ 47 :: TL.numL n := tl_frS x n
  rw [HT.sIx_nat, HT.sIx_nat, len_cps, e, List.length_append, List.length_cons, Nat.min_eq_left (by omega), Nat.min_eq_left (by omega), List.drop_left' rfl, show (TL.numL x).length + 1 - (TL.numL x).length = 1 by omega]
  rfl
theorem cut3 (x n : Nat) : cutS (frS x n) (some (((TL.numL x).length + 1 : Nat) : Int)) none = nS n := by
  refine TL.ext_tl ?_
  show (((frS x n).cps.toList.drop (HT.sIx (frS x n).length 0 (some (((TL.numL x).length + 1 : Nat) : Int)))).take (HT.sIx (frS x n).length (frS x n).length none - HT.sIx (frS x n).length 0 (some (((TL.numL x).length + 1 : Nat) : Int)))).toArray.toList = _
  have e : (frS x n).cps.toList = TL.numL x ++ 47 :: TL.numL n := tl_frS x n
  have e2 : TL.numL x ++ 47 :: TL.numL n = (TL.numL x ++ [47]) ++ TL.numL n := by simp
  rw [HT.sIx_none, HT.sIx_nat, len_cps, e, List.length_append, List.length_cons, Nat.min_eq_left (by omega), e2, List.drop_left' (by simp), List.take_of_length_le (by omega)]
  exact (TL.tl_num n).symm
theorem log_small {k : Nat} (h : k ≤ 5000) : ((k : Nat) : Int).natAbs.log2 < 1920 := by
  rw [Int.natAbs_natCast]
  rcases Nat.eq_zero_or_pos k with z | z
  · rw [z, Nat.log2_zero]
    decide
  · exact Nat.lt_of_lt_of_le ((Nat.log2_lt (by omega)).mpr (show k < 2 ^ 13 by omega)) (by decide)
theorem sl1 : (Str.ofString "/").length = 1 := by decide +kernel
theorem len_app (x y : Str) : (x ++ y).length = x.length + y.length := by
  rw [len_cps, len_cps, len_cps]
  show (TL.tl (x ++ y)).length = _
  rw [TL.tl_append, List.length_append]
theorem exp_dg {H : Hp} {t : Addr} {b x n h L : Nat} (E : Exp H t b x n h L) : ∃ a c, H t = some (.tup [.ref a, .ref c]) ∧ H a = some (.tup (vn (dg b n x 0 h))) ∧ H c = some (.tup (vn (dg b n x h L))) := by
  obtain ⟨a, c, h1, h2, h3⟩ := E.at_
  have e : ∀ lo c, dgf b n x lo c = vn (dg b n x lo c) := fun lo c => by
    unfold dgf vn dg
    rw [List.map_map]
    rfl
  rw [e] at h2 h3
  exact ⟨a, c, h1, h2, h3⟩
theorem dg_lt {b n x lo c : Nat} (hb : 1 ≤ b) (hn : 1 ≤ n) : ∀ d ∈ dg b n x lo c, d < b := fun d h => by
  obtain ⟨i, _, rfl⟩ := List.mem_map.mp h
  rw [Nat.div_lt_iff_lt_mul hn, Nat.mul_comm b]
  exact Nat.mul_lt_mul_of_pos_right (rem_lt hn) hb
/-- [str(d) for d in a tuple] -/
theorem lc_str {K : PySem.W.Frag} {H : Hp} {a D : Addr} {ds : List Nat} (ha : H a = some (.tup (vn ds))) (hds : ∀ d ∈ ds, d < 1000) (hl : ds.length ≤ 5000) (nD : H D = none) :
    ∀ j, j ≤ ds.length → True := fun _ _ => True.intro
def vsS (ws : List Str) : List V := ws.map V.str
theorem join_len (y : Str) : ∀ parts : List Str, (Txt.join y parts).length ≤ (parts.map (·.length)).sum + parts.length * y.length := by
  intro parts
  rw [TL.join_eq]
  induction parts with
  | nil => exact Nat.zero_le _
  | cons x r ih =>
    cases r with
    | nil =>
      show x.length ≤ _
      simp
    | cons z r =>
      show (x ++ y ++ Str.join y (z :: r)).length ≤ _
      rw [len_app, len_app]
      simp only [List.map_cons, List.sum_cons, List.length_cons] at ih ⊢
      rw [Nat.add_mul, Nat.one_mul]
      omega
theorem expS_len {h g : List Nat} (hh : ∀ d ∈ h, d < 1000) (hg : ∀ d ∈ g, d < 1000) : (expS h g).length ≤ 4 * (h.length + g.length + 2) := by
  have s1 := expW_sum hh hg
  have s2 := expW_len h g
  have s3 : (Str.ofString " ").length = 1 := by decide +kernel
  have s4 := join_len (Str.ofString " ") (expW h g)
  rw [s3] at s4
  unfold expS
  omega
theorem expW_small {h g : List Nat} (hh : ∀ d ∈ h, d < 1000) (hg : ∀ d ∈ g, d < 1000) : ∀ w ∈ expW h g, w.length ≤ 3 := fun w hw => by
  unfold expW at hw
  simp only [List.mem_append, List.mem_map, List.mem_singleton] at hw
  rcases hw with ((⟨n, hn, rfl⟩ | rfl) | ⟨n, hn, rfl⟩) | rfl
  · exact nS_len (by decide) (hh n hn)
  · decide +kernel
  · exact nS_len (by decide) (hg n hn)
  · decide +kernel
theorem expW_eq (h g : List Nat) : expW h g = h.map nS ++ Str.ofString "(" :: (g.map nS ++ [Str.ofString ")"]) := by
  unfold expW
  simp
theorem expW_one (h g : List Nat) : (expW h g)[h.length]? = some (Str.ofString "(") := by
  rw [expW_eq, List.getElem?_append_right (by simp)]
  simp
theorem expW_two (h g : List Nat) : (expW h g)[h.length + 1 + g.length]? = some (Str.ofString ")") := by
  rw [expW_eq, List.getElem?_append_right (by simp; omega)]
  rw [List.length_map, show h.length + 1 + g.length - h.length = g.length + 1 by omega, List.getElem?_cons_succ, List.getElem?_append_right (by simp)]
  simp
theorem expW_drop (h g : List Nat) : (expW h g).drop (h.length + 1) = g.map nS ++ [Str.ofString ")"] := by
  rw [expW_eq, show h.map nS ++ Str.ofString "(" :: (g.map nS ++ [Str.ofString ")"]) = (h.map nS ++ [Str.ofString "("]) ++ (g.map nS ++ [Str.ofString ")"]) by simp, List.drop_left' (by simp)]
theorem ok_need_string (T : Txt K mg) : FnOk P w K mg base CX0 1 T.d_need_string.f T.d_need_string.fd ["value"] sp_need_string := by
  refine T.d_need_string.F.ok sc_need_string (fun vs H Q E h => ?_) (fun cdv A outer s H vs Q E hr h => ?_)
  · obtain ⟨s, rfl, _⟩ := h; rfl
  · have hu := hu_of hr
    refine ⟨_, (pss_one (ps_if (pt_not (pt_val (pe_callB (r := rIs K) call_is (by rfl) T.b_isinstance (by decide +kernel) (pa_cons (pv 0) (pa_cons (pe_bltn (v := .ty "str") (by rfl) T.b_str (by decide +kernel) rfl) pa_nil))))) (pss_one ps_never) pss_nil)), ?_⟩
    obtain ⟨s, rfl, q⟩ := h
    exact ⟨_, rfl, _, "str", rfl, "str", ⟨.base (.str s), by decide, by decide⟩, true, rfl, iteF q⟩
theorem ok_run_size (T : Txt K mg) : FnOk P w K mg base CX0 1 T.d_run_size.f T.d_run_size.fd ["text"] sp_run_size := by
  refine T.d_run_size.F.ok sc_run_size (fun vs H Q E h => ?_) (fun cdv A outer s H vs Q E hr h => ?_)
  · obtain ⟨s, rfl, _⟩ := h; rfl
  · have hu := hu_of hr
    refine ⟨_, (pss_cons (ps_set (i := 1) sc_run_size.nd rfl (by first | exact .inl rfl | exact .inr rfl) pe_int)
      (pss_cons (ps_while PassesOwn.never (PW.pt (pw_and (pt_cmpR op_lt (pv 1) (pe_callB call_len_str (by rfl) T.b_len PySem.boot_len (pa_cons (pv 0) pa_nil)) (nomark _)) (pw_and1 (pt_cmpR op_in_sign (pe_ix (r := rIxS) ix_str (pv 0) (pv 1) (fun _ _ => rfl)) pe_str rfl)))) (pss_one (ps_aug (i := 1) sc_run_size.nd rfl (by first | exact .inl rfl | exact .inr rfl) pe_int ip_add)))
      (pss_one (ps_ret (pv 1))))), ?_⟩
    obtain ⟨s, rfl, hs, q⟩ := h
    have hr := run_le s
    refine ⟨fun m σ H' => H' = H ∧ ∃ i, i ≤ runN s ∧ m = runN s - i ∧ σ = [some (.str s), some (.int (i : Nat))], ⟨runN s, rfl, 0, Nat.zero_le _, by omega, rfl⟩, ?_⟩
    rintro m σ H' ⟨rfl, i, hi, rfl, rfl⟩
    refine ⟨_, rfl, _, rfl, s, rfl, hs, _, _, rfl, rfl, _, rfl, ?_⟩
    by_cases hl : i < s.length
    case neg =>
      refine iteFb (decide_eq_false (by omega)) (iteF ⟨_, rfl, ?_⟩)
      rw [show runN s = i by omega] at q
      exact q
    case pos =>
    refine iteTb (decide_eq_true (by omega)) ?_
    have hl' : i < s.cps.toList.length := by rw [← len_cps]; exact hl
    obtain ⟨t1, t2⟩ := take_at (f := dgC) (List.getElem?_eq_getElem hl') hi
    refine ⟨_, rfl, _, rfl, s, (i : Int), s.cps.toList[i], rfl, rfl, hs, atI_nat (List.getElem?_eq_getElem hl'), _, _, rfl, rfl, ?_⟩
    rw [in_ten]
    cases hd : dgC s.cps.toList[i] with
    | true =>
      refine ⟨_, rfl, iteT ⟨fun σ' H2 => H2 = H' ∧ σ' = [some (.str s), some (.int ((i + 1 : Nat) : Int))], ?_, ?_⟩⟩
      · rintro σ' H2 ⟨rfl, rfl⟩
        have := t1 hd
        change i + 1 ≤ runN s at this
        exact ⟨runN s - (i + 1), by omega, rfl, i + 1, this, rfl, rfl⟩
      · exact ⟨_, rfl, _, _, rfl, rfl, rfl, rfl⟩
    | false =>
      refine ⟨_, rfl, iteF ⟨_, rfl, ?_⟩⟩
      have := t2 hd
      change i = runN s at this
      rw [← this] at q
      exact q
theorem ok_integer_in (T : Txt K mg) : FnOk P w K mg base CX0 2 T.d_integer_in.f T.d_integer_in.fd ["text"] sp_integer_in := by
  refine T.d_integer_in.F.ok sc_integer_in (fun vs H Q E h => ?_) (fun cdv A outer s H vs Q E hr h => ?_)
  · obtain ⟨s, rfl, _⟩ := h; rfl
  · have hu := hu_of hr
    refine ⟨_, (pss_cons (ps_if (PW.pt (pw_or (pt_not (pt_chain op_le op_le pe_int (pe_callB call_len_str (by rfl) T.b_len PySem.boot_len (pa_cons (pv 0) pa_nil)) (pe_glob (v := .int 40) (by rfl) T.c_MOST_LENGTH ⟨_, rfl⟩))) (pw_or1 (pt_cmpR op_ne (pe_call (ok_run_size T) (hr.mono (by decide)) (by rfl) T.d_run_size.m T.d_run_size.F.kp T.d_run_size.b .nil pass0 (pa_cons (pv 0) pa_nil)) (pe_callB call_len_str (by rfl) T.b_len PySem.boot_len (pa_cons (pv 0) pa_nil)) (nomark _))))) (pss_one (ps_ret pe_non)) pss_nil)
      (pss_cons (ps_if (PW.pt (pw_and (pt_cmpR op_gt (pe_callB call_len_str (by rfl) T.b_len PySem.boot_len (pa_cons (pv 0) pa_nil)) pe_int (nomark _)) (pw_and1 (pt_cmpR op_eq (pe_ix (r := rIxS) ix_str (pv 0) pe_int (fun _ _ => rfl)) pe_str (nomark _))))) (pss_one (ps_ret pe_non)) pss_nil)
      (pss_one (ps_ret (pe_callTy call_int_str (by rfl) T.b_int (by decide +kernel) (pa_cons (pv 0) pa_nil)))))), ?_⟩
    obtain ⟨s, rfl, hs, q⟩ := h
    refine ⟨_, rfl, s, rfl, hs, _, _, rfl, rfl, _, rfl, ?_⟩
    by_cases h1 : 1 ≤ s.length
    case neg =>
      refine iteFb (decide_eq_false (by omega)) ⟨_, rfl, iteT ?_⟩
      unfold intIn at q
      rw [if_neg (fun z => h1 z.1)] at q
      exact q
    case pos =>
    refine iteTb (decide_eq_true (by omega)) ⟨_, _, rfl, rfl, _, rfl, ?_⟩
    by_cases h2 : s.length ≤ 40
    case neg =>
      refine iteTb (by rw [decide_eq_false (show ¬ (s.length : Int) ≤ 40 by omega)]; rfl) ?_
      unfold intIn at q
      rw [if_neg (fun z => h2 z.2.1)] at q
      exact q
    case pos =>
    refine iteFb (by rw [decide_eq_true (show (s.length : Int) ≤ 40 by omega)]; rfl) ?_
    refine ⟨_, rfl, s, rfl, hs, _, rfl, s, rfl, hs, rfl, _, rfl, ?_⟩
    by_cases h3 : runN s = s.length
    case neg =>
      refine iteTb (by rw [decide_eq_false (fun z => h3 (by have := V.int.inj z; omega))]; rfl) ?_
      unfold intIn at q
      rw [if_neg (fun z => h3 z.2.2.1)] at q
      exact q
    case pos =>
    refine iteFb (by rw [decide_eq_true (by rw [h3])]; rfl) ?_
    refine ⟨_, rfl, s, rfl, hs, _, _, rfl, rfl, _, rfl, ?_⟩
    have hl0 : 0 < s.cps.toList.length := by rw [← len_cps]; omega
    have hh : s.cps.toList.head? = some s.cps.toList[0] := by
      rw [List.head?_eq_getElem?, List.getElem?_eq_getElem hl0]
    have z48 : Str.ofString "0" = ⟨#[48]⟩ := by decide +kernel
    have fin : (¬ (1 < s.length ∧ s.cps.toList.head? = some 48)) → intIn s = some (NumText.digitsVal s.cps.toList) := fun h4 => by
      unfold intIn
      rw [if_pos ⟨h1, h2, h3, h4⟩]
    have last : (¬ (1 < s.length ∧ s.cps.toList.head? = some 48)) → ∃ a n, [V.str s] = [V.str a] ∧ PySem.intText? a = some n ∧ a.length ≤ 640 ∧ Q (.int n) H := fun h4 => by
      have e := fin h4
      obtain ⟨i1, i2⟩ := intIn_int e
      rw [e] at q
      exact ⟨s, _, rfl, i1, by omega, q⟩
    by_cases h4 : 1 < s.length
    case neg =>
      refine iteFb (decide_eq_false (by omega)) (iteF ⟨_, rfl, ?_⟩)
      exact last (fun z => h4 z.1)
    case pos =>
    refine iteTb (decide_eq_true (by omega)) ?_
    refine ⟨_, rfl, s, 0, s.cps.toList[0], rfl, rfl, hs, atI_nat (j := 0) (List.getElem?_eq_getElem hl0), rfl, _, rfl, ?_⟩
    by_cases h5 : s.cps.toList[0] = 48
    · refine iteTb (decide_eq_true (by rw [h5, z48])) ?_
      unfold intIn at q
      rw [if_neg (fun z => z.2.2.2 ⟨h4, by rw [hh, h5]⟩)] at q
      exact q
    · refine iteFb (decide_eq_false (fun z => h5 ?_)) ⟨_, rfl, last (fun z => h5 (by rw [hh] at z; exact Option.some.inj z.2))⟩
      have := V.str.inj z
      rw [z48] at this
      have := congrArg (fun u : Str => u.cps) this
      simpa using this
theorem ok_fraction_text (T : Txt K mg) : FnOk P w K mg base CX0 4 T.d_fraction_text.f T.d_fraction_text.fd ["fraction"] sp_fraction_text := by
  refine T.d_fraction_text.F.ok sc_fraction_text (fun vs H Q E h => ?_) (fun cdv A outer s H vs Q E hr h => ?_)
  · obtain ⟨a, x, n, rfl, _⟩ := h; rfl
  · have hu := hu_of hr
    refine ⟨_, (pss_cons (ps_asg (pe_call (ok_need_fraction T) (hr.mono (by decide)) (by rfl) T.d_need_fraction.m T.d_need_fraction.F.kp T.d_need_fraction.b .nil pass0 (pa_cons (pv 0) pa_nil)) (pg_tup (by rfl) (pgs_cons (pg_name (i := 1) sc_fraction_text.nd rfl (by first | exact .inl rfl | exact .inr rfl)) (pgs_cons (pg_name (i := 2) sc_fraction_text.nd rfl (by first | exact .inl rfl | exact .inr rfl)) pgs_nil))))
      (pss_one (ps_ret (pe_joined (PJ.cons (pe_fmt (pv 1)) (PJ.cons pe_str (PJ.cons (pe_fmt (pv 2)) PJ.nil))))))), ?_⟩
    obtain ⟨a, x, n, rfl, ha, ⟨h1, h2, h3⟩, q⟩ := h
    obtain ⟨l1, l2, l3⟩ := frS_len x n (by omega) h2
    refine ⟨_, rfl, a, x, n, rfl, ha, ⟨h1, h2, h3⟩, a, _, rfl, sq_tup ha, rfl, _, _, rfl, _, _, rfl, rfl, ?_⟩
    have e0 : Str.empty ++ nS x = nS x := PySem.Str.empty_append _
    refine ⟨_, rfl, .inr ⟨(x : Nat), rfl, log_small (by omega), nS x, rfl, ?_, ?_⟩⟩
    · rw [e0]
      exact sz40 (by omega)
    rw [e0]
    refine ⟨Str.ofString "/", rfl, ?_, _, rfl, .inr ⟨(n : Nat), rfl, log_small h2, nS n, rfl, ?_, ?_⟩⟩
    · rw [len_app, sl1]
      exact sz40 (by omega)
    · exact sz40 (show (frS x n).length ≤ 6000 by omega)
    exact q
theorem ok_read_fraction (T : Txt K mg) : FnOk P w K mg base CX0 4 T.d_read_fraction.f T.d_read_fraction.fd ["string"] sp_read_fraction := by
  refine T.d_read_fraction.F.ok sc_read_fraction (fun vs H Q E h => ?_) (fun cdv A outer s H vs Q E hr h => ?_)
  · obtain ⟨x, n, rfl, _⟩ := h; rfl
  · have hu := hu_of hr
    refine ⟨_, (pss_cons (ps_expr (pe_call (ok_need_string T) (hr.mono (by decide)) (by rfl) T.d_need_string.m T.d_need_string.F.kp T.d_need_string.b .nil pass0 (pa_cons (pv 0) pa_nil)))
      (pss_cons (ps_set (i := 1) sc_read_fraction.nd rfl (by first | exact .inl rfl | exact .inr rfl) (pe_call (ok_run_size T) (hr.mono (by decide)) (by rfl) T.d_run_size.m T.d_run_size.F.kp T.d_run_size.b .nil pass0 (pa_cons (pv 0) pa_nil)))
      (pss_cons (ps_set (i := 2) sc_read_fraction.nd rfl (by first | exact .inl rfl | exact .inr rfl) (pe_call (ok_integer_in T) (hr.mono (by decide)) (by rfl) T.d_integer_in.m T.d_integer_in.F.kp T.d_integer_in.b .nil pass0 (pa_cons (pe_slice (r := rSlS) sl_str (pv 0) po_none (po_some (pv 1))) pa_nil)))
      (pss_cons (ps_if (pt_cmpR op_isN (pv 2) pe_non (nomark _)) (pss_one ps_never) pss_nil)
      (pss_cons (ps_if (pt_cmpR op_ne (pe_slice (r := rSlS) sl_str (pv 0) (po_some (pv 1)) (po_some (pe_op op_add (pv 1) pe_int))) pe_str (nomark _)) (pss_one ps_never) pss_nil)
      (pss_cons (ps_set (i := 3) sc_read_fraction.nd rfl (by first | exact .inl rfl | exact .inr rfl) (pe_call (ok_integer_in T) (hr.mono (by decide)) (by rfl) T.d_integer_in.m T.d_integer_in.F.kp T.d_integer_in.b .nil pass0 (pa_cons (pe_slice (r := rSlS) sl_str (pv 0) (po_some (pe_op op_add (pv 1) pe_int)) po_none) pa_nil)))
      (pss_cons (ps_if (pt_cmpR op_isN (pv 3) pe_non (nomark _)) (pss_one ps_never) pss_nil)
      (pss_one (ps_ret (pe_call (ok_need_fraction T) (hr.mono (by decide)) (by rfl) T.d_need_fraction.m T.d_need_fraction.F.kp T.d_need_fraction.b .nil pass0 (pa_cons (pe_tup (pa_cons (pv 2) (pa_cons (pv 3) pa_nil))) pa_nil))))))))))), ?_⟩
    obtain ⟨x, n, rfl, ⟨h1, h2, h3⟩, q⟩ := h
    obtain ⟨l1, l2, l3⟩ := frS_len x n (by omega) h2
    have lz : (frS x n).length ≤ sizeLine := sz40 (by omega)
    refine ⟨_, rfl, _, rfl, ?_⟩
    refine ⟨_, rfl, _, rfl, lz, ?_⟩
    rw [run_frS]
    refine ⟨_, rfl, _, rfl, _, rfl, _, rfl, lz, ?_⟩
    rw [cut1]
    refine ⟨_, rfl, sz40 (by omega), ?_⟩
    rw [intIn_nS (Nat.lt_of_lt_of_le (show x < 10 ^ 4 by omega) (by decide))]
    refine ⟨_, rfl, rfl, _, rfl, iteF ?_⟩
    have e1 : ((TL.numL x).length : Int) + 1 = (((TL.numL x).length + 1 : Nat) : Int) := by omega
    refine ⟨_, rfl, _, rfl, _, rfl, _, rfl, _, _, rfl, rfl, _, rfl, _, rfl, lz, ?_⟩
    dsimp only
    rw [e1, cut2]
    refine ⟨rfl, _, rfl, iteFb (by rw [decide_eq_true rfl]; rfl) ?_⟩
    refine ⟨_, rfl, _, rfl, _, _, rfl, rfl, _, rfl, _, rfl, lz, ?_⟩
    dsimp only
    rw [e1, cut3]
    refine ⟨_, rfl, sz40 (by omega), ?_⟩
    rw [intIn_nS (Nat.lt_of_lt_of_le (show n < 10 ^ 4 by omega) (by decide))]
    refine ⟨_, rfl, rfl, _, rfl, iteF ?_⟩
    exact ⟨_, rfl, _, rfl, by show 2 ≤ sizeLine; decide, fun t nt => ⟨t, x, n, rfl, upd_same, ⟨h1, h2, h3⟩, q t nt⟩⟩
theorem ok_expansion_text (T : Txt K mg) : FnOk P w K mg base CX0 7 T.d_expansion_text.f T.d_expansion_text.fd ["base", "fraction"] sp_expansion_text := by
  refine T.d_expansion_text.F.ok sc_expansion_text (fun vs H Q E h => ?_) (fun cdv A outer s H vs Q E hr h => ?_)
  · obtain ⟨b, x, n, a, rfl, _⟩ := h; rfl
  · have hu := hu_of hr
    refine ⟨_, (pss_cons (ps_asg (pe_call (ok_expansion T) (hr.mono (by decide)) (by rfl) T.d_expansion.m T.d_expansion.F.kp T.d_expansion.b .nil pass0 (pa_cons (pv 0) (pa_cons (pv 1) pa_nil))) (pg_tup (by rfl) (pgs_cons (pg_name (i := 2) sc_expansion_text.nd rfl (by first | exact .inl rfl | exact .inr rfl)) (pgs_cons (pg_name (i := 3) sc_expansion_text.nd rfl (by first | exact .inl rfl | exact .inr rfl)) pgs_nil))))
      (pss_cons (ps_set (i := 4) sc_expansion_text.nd rfl (by first | exact .inl rfl | exact .inr rfl) (pe_op op_cat (pe_op op_cat (pe_op op_cat (pe_lc (own := [("digit", 5)]) (g := gName 5) (tt := tYes) rfl sc_expansion_text.nd (pi_tup (pv 2)) (blkOk_by (own := [("digit", 5)]) (N := ["base", "fraction", "head", "repetend", "words", "digit"]) (sc := defScope s_expansion_text) (by decide +kernel)) (fun _ _ _ _ _ => (pg_name (i := 5) sc_expansion_text.nd rfl (by first | exact .inl rfl | exact .inr rfl))) (fun _ _ _ _ _ => pts_nil) (fun _ _ _ _ _ => (pe_callTy call_str_int (by rfl) T.b_str (by decide +kernel) (pa_cons (pv 5) pa_nil)))) (pe_lst (pa_cons pe_str pa_nil))) (pe_lc (own := [("digit", 5)]) (g := gName 5) (tt := tYes) rfl sc_expansion_text.nd (pi_tup (pv 3)) (blkOk_by (own := [("digit", 5)]) (N := ["base", "fraction", "head", "repetend", "words", "digit"]) (sc := defScope s_expansion_text) (by decide +kernel)) (fun _ _ _ _ _ => (pg_name (i := 5) sc_expansion_text.nd rfl (by first | exact .inl rfl | exact .inr rfl))) (fun _ _ _ _ _ => pts_nil) (fun _ _ _ _ _ => (pe_callTy call_str_int (by rfl) T.b_str (by decide +kernel) (pa_cons (pv 5) pa_nil))))) (pe_lst (pa_cons pe_str pa_nil))))
      (pss_one (ps_ret (pe_join pe_str (pv 4)))))), ?_⟩
    obtain ⟨b, x, n, a, rfl, ha, ⟨hbn, hx, hg⟩, q⟩ := h
    obtain ⟨hb1, hb2, hn1, hn2⟩ := id hbn
    refine ⟨_, rfl, _, rfl, b, x, n, a, rfl, ha, ⟨hbn, hx, hg⟩, fun p q2 h L t H1 hp e hh hL g1 E => ?_⟩
    have P : Par b n p q2 h L := ⟨hp, e, hh, hL⟩
    have lh := P.hn hn1
    have lL := P.Ln hn1
    obtain ⟨a1, a2, e0, e1, e2⟩ := exp_dg E
    refine ⟨t, _, rfl, sq_tup e0, rfl, _, _, rfl, _, _, rfl, rfl, ?_⟩
    refine ⟨_, rfl, a1, rfl, ⟨_, sq_tup e1⟩, fun D1 nD1 => ?_⟩
    refine lc_tup (K := K) (a := a1) (xs := vn (dg b n x 0 h)) (fun j H' => Gr [] H1 H' ∧ H' D1 = some (.lst (((dg b n x 0 h).take j).map fun d => V.str (nS d)))) ⟨Gr.new nD1, upd_same⟩ (fun i H' _ z => sq_tup (z.1 a1 _ (by simp) e1)) ?_ ?_
    · rintro j y H' hy ⟨G, hD⟩
      obtain ⟨hj, rfl⟩ := vn_get hy
      have hd := dg_lt (x := x) (show 1 ≤ b by omega) hn1 _ (List.getElem_mem hj)
      have hjl : j < 5001 := by
        rw [dg_len] at hj
        omega
      refine ⟨rfl, ?_⟩
      dsimp only [tYes]
      refine iteT ⟨_, rfl, _, rfl, log_small (by omega), _, hD, ?_, ?_, ?_⟩
      · rw [List.length_map, List.length_take]
        exact Nat.lt_of_le_of_lt (Nat.min_le_left _ _) (Nat.lt_of_lt_of_le (show j < 6000 by omega) (by decide))
      · intro u o _ e
        rw [upd_ne (ne_of_none e nD1)]
        exact G u o (by simp) e
      · rw [upd_same, List.take_succ, List.map_append, List.getElem?_eq_getElem hj]
        rfl
    rintro H2 ⟨g2, hD1⟩
    rw [vn_len, List.take_length] at hD1
    
    refine ⟨by show 1 ≤ sizeLine; decide, fun p1 np1 => ?_⟩
    refine ⟨D1, p1, _, _, rfl, rfl, (Gr.new (W := []) np1) D1 _ (by simp) hD1, upd_same, ?_, fun p2 np2 => ?_⟩
    · rw [List.length_map, dg_len]
      exact sz40 (show h + 1 ≤ 6000 by omega)
    have g3 := (Gr.new (W := []) (o := .lst [.str (Str.ofString "(")]) np1).trans (Gr.new (o := .lst ((dg b n x 0 h).map (fun d => V.str (nS d)) ++ [.str (Str.ofString "(")])) np2)
    have hp2 : (upd (upd H2 p1 (.lst [.str (Str.ofString "(")])) p2 (.lst ((dg b n x 0 h).map (fun d => V.str (nS d)) ++ [.str (Str.ofString "(")]))) p2 = some (.lst ((dg b n x 0 h).map (fun d => V.str (nS d)) ++ [.str (Str.ofString "(")])) := upd_same
    generalize upd (upd H2 p1 (.lst [.str (Str.ofString "(")])) p2 (.lst ((dg b n x 0 h).map (fun d => V.str (nS d)) ++ [.str (Str.ofString "(")])) = H3 at g3 hp2 ⊢
    have e23 := (g2.trans g3) a2 _ (by simp) e2
    refine ⟨_, rfl, a2, rfl, ⟨_, sq_tup e23⟩, fun D2 nD2 => ?_⟩
    refine lc_tup (K := K) (a := a2) (xs := vn (dg b n x h L)) (fun j H' => Gr [] H3 H' ∧ H' D2 = some (.lst (((dg b n x h L).take j).map fun d => V.str (nS d)))) ⟨Gr.new nD2, upd_same⟩ (fun i H' _ z => sq_tup (z.1 a2 _ (by simp) e23)) ?_ ?_
    · rintro j y H' hy ⟨G, hD⟩
      obtain ⟨hj, rfl⟩ := vn_get hy
      have hd := dg_lt (x := x) (show 1 ≤ b by omega) hn1 _ (List.getElem_mem hj)
      have hjl : j < 5001 := by
        rw [dg_len] at hj
        omega
      refine ⟨rfl, ?_⟩
      dsimp only [tYes]
      refine iteT ⟨_, rfl, _, rfl, log_small (by omega), _, hD, ?_, ?_, ?_⟩
      · rw [List.length_map, List.length_take]
        exact Nat.lt_of_le_of_lt (Nat.min_le_left _ _) (Nat.lt_of_lt_of_le (show j < 6000 by omega) (by decide))
      · intro u o _ e
        rw [upd_ne (ne_of_none e nD2)]
        exact G u o (by simp) e
      · rw [upd_same, List.take_succ, List.map_append, List.getElem?_eq_getElem hj]
        rfl
    rintro H4 ⟨g4, hD2⟩
    rw [vn_len, List.take_length] at hD2
    
    have hp24 := g4 p2 _ (by simp) hp2
    refine ⟨p2, D2, _, _, rfl, rfl, hp24, hD2, ?_, fun p3 np3 => ?_⟩
    · rw [List.length_append, List.length_map, List.length_map, dg_len, dg_len, Nat.add_assoc]
      exact Nat.le_trans (show h + ([V.str (Str.ofString "(")].length + L) ≤ 20000 by show h + (1 + L) ≤ 20000; omega) (by decide)
    refine ⟨by show 1 ≤ sizeLine; decide, fun p4 np4 => ?_⟩
    refine ⟨p3, p4, _, _, rfl, rfl, (Gr.new (W := []) np4) p3 _ (by simp) upd_same, upd_same, ?_, fun p5 np5 => ?_⟩
    · rw [List.length_append, List.length_append, List.length_map, List.length_map, dg_len, dg_len, Nat.add_assoc, Nat.add_assoc]
      exact Nat.le_trans (show h + ([V.str (Str.ofString "(")].length + (L + [V.str (Str.ofString ")")].length)) ≤ 20000 by show h + (1 + (L + 1)) ≤ 20000; omega) (by decide)
    have g5 := ((Gr.new (W := []) np3).trans (Gr.new np4)).trans (Gr.new (o := .lst ((dg b n x 0 h).map (fun d => V.str (nS d)) ++ [.str (Str.ofString "(")] ++ (dg b n x h L).map (fun d => V.str (nS d)) ++ [.str (Str.ofString ")")])) np5)
    have ew : (dg b n x 0 h).map (fun d => V.str (nS d)) ++ [.str (Str.ofString "(")] ++ (dg b n x h L).map (fun d => V.str (nS d)) ++ [.str (Str.ofString ")")] = (expW (dg b n x 0 h) (dg b n x h L)).map V.str := by
      unfold expW
      simp only [List.map_append, List.map_map, List.map_cons, List.map_nil]
      rfl
    refine ⟨⟨_, rfl⟩, _, rfl, _, p5, expW (dg b n x 0 h) (dg b n x h L), rfl, rfl, .inl (sq_lst (by rw [upd_same]; exact congrArg (fun z => some (HO.lst z)) ew)), ?_, ?_⟩
    · have s1 := expW_sum (h := dg b n x 0 h) (g := dg b n x h L) (fun d hd => Nat.lt_of_lt_of_le (dg_lt (show 1 ≤ b by omega) hn1 d hd) hb2) (fun d hd => Nat.lt_of_lt_of_le (dg_lt (show 1 ≤ b by omega) hn1 d hd) hb2)
      have s2 := expW_len (dg b n x 0 h) (dg b n x h L)
      rw [dg_len, dg_len] at s2
      have s3 : (Str.ofString " ").length = 1 := by decide +kernel
      rw [s3]
      omega
    exact q p q2 h L _ hp e hh hL ((((g1.trans g2).trans g3).trans g4).trans g5)
theorem ok_digits_in (T : Txt K mg) : FnOk P w K mg base CX0 3 T.d_digits_in.f T.d_digits_in.fd ["base", "words"] sp_digits_in := by
  refine T.d_digits_in.F.ok sc_digits_in (fun vs H Q E h => ?_) (fun cdv A outer s H vs Q E hr h => ?_)
  · obtain ⟨b, a, ws, rfl, _⟩ := h; rfl
  · have hu := hu_of hr
    refine ⟨_, (pss_cons (ps_set (i := 2) sc_digits_in.nd rfl (by first | exact .inl rfl | exact .inr rfl) (pe_lst pa_nil))
      (pss_cons (ps_for PassesOwn.never rfl (pi_list (pe_slice (r := rSlL K) sl_list (pv 1) po_none (po_some (pe_glob (v := .int 400) (by rfl) T.c_MOST_DIGITS ⟨_, rfl⟩)))) (pg_name (i := 3) sc_digits_in.nd rfl (by first | exact .inl rfl | exact .inr rfl)) (pss_cons (ps_set (i := 4) sc_digits_in.nd rfl (by first | exact .inl rfl | exact .inr rfl) (pe_call (ok_integer_in T) (hr.mono (by decide)) (by rfl) T.d_integer_in.m T.d_integer_in.F.kp T.d_integer_in.b .nil pass0 (pa_cons (pv 3) pa_nil)))
      (pss_cons (ps_if (PW.pt (pw_or (pt_cmpR op_isN (pv 4) pe_non (nomark _)) (pw_or1 (pt_cmpR op_ge (pv 4) (pv 0) (nomark _))))) (pss_one ps_break) pss_nil)
      (pss_one (ps_expr (pe_bm PySem.F.plainAttrs_list PySem.F.slot_list_append PySem.F.type_list_append mt_append (pv 2) (pa_cons (pv 4) pa_nil)))))))
      (pss_one (ps_ret (pe_callTy (r := rTpO K) call_tpO (by rfl) T.b_tuple (by decide +kernel) (pa_cons (pv 2) pa_nil)))))), ?_⟩
    obtain ⟨b, a, ws, rfl, ha, hwz, hwl, q⟩ := h
    refine ⟨Nat.zero_le _, fun r nr => ?_⟩
    have gr := Gr.new (W := []) (o := .lst []) nr
    have hr : (upd H r (.lst [])) r = some (.lst []) := upd_same
    have ha1 := gr a _ (by simp) ha
    have har : r ≠ a := fun z => by rw [z, ha] at nr; cases nr
    refine ⟨_, rfl, (400 : Int), rfl, a, _, rfl, sq_lst ha1, fun p np => ?_⟩
    have ec : cutV (ws.map V.str) none (some (400 : Int)) = (ws.take 400).map V.str := by
      have h4 : (400 : Int) = ((400 : Nat) : Int) := rfl
      unfold cutV
      rw [h4, HT.sIx_nat, HT.sIx_none, List.length_map, List.drop_zero, Nat.sub_zero, List.map_take]
      rcases Nat.le_total 400 ws.length with z | z
      · rw [Nat.min_eq_left z]
      · rw [Nat.min_eq_right z, List.take_of_length_le (by simp), List.take_of_length_le (by simp; exact z)]
    rw [ec]
    have gp := Gr.new (W := []) (o := .lst ((ws.take 400).map V.str)) np
    have hp : (upd (upd H r (.lst [])) p (.lst ((ws.take 400).map V.str))) p = some (.lst ((ws.take 400).map V.str)) := upd_same
    have hr2 := gp r _ (by simp) hr
    have hpr : p ≠ r := fun z => by rw [z, hr] at np; cases np
    obtain ⟨W, eW⟩ : ∃ W, W = ws.take 400 := ⟨_, rfl⟩
    have hWl : W.length ≤ 400 := by rw [eW, List.length_take]; exact Nat.min_le_left _ _
    have hWz : ∀ w ∈ W, w.length ≤ sizeLine := fun w hw => hwz w (by rw [eW] at hw; exact List.mem_of_mem_take hw)
    have eD : digIn b ws = digL b W := by rw [eW]; rfl
    rw [eD] at q
    rw [← eW] at hp hr2 gp ⊢
    have G0 := gr.trans gp
    generalize upd (upd H r (.lst [])) p (.lst (W.map V.str)) = H2 at hp hr2 G0 ⊢
    have fin : ∀ (ds : List Nat) (H' : Hp) (v3 v4 : Option V), Gr [r] H2 H' → H' r = some (.lst (vn ds)) → digL b W = ds → ∀ (D' : Ends), True := fun _ _ _ _ _ _ _ _ => True.intro
    clear fin
    have gout : ∀ {H' : Hp}, Gr [r] H2 H' → Gr [] H H' := fun {H'} g u o _ e => by
      have nu : u ≠ r := ne_of_none e nr
      exact g u o (by simpa using nu) (G0 u o (by simp) e)
    refine ⟨p, rfl, ⟨_, sq_lst hp⟩, ?_⟩
    refine for_list (K := K) (a := p) (xs := W.map V.str) (fun i σ H' => Gr [r] H2 H' ∧ ∃ ds : List Nat, ds.length = i ∧ H' r = some (.lst (vn ds)) ∧ digL b W = ds ++ digL b (W.drop i) ∧ ∃ v3 v4, σ = [some (.int b), some (.ref a), some (.ref r), v3, v4]) ⟨Gr.refl _ _, [], rfl, hr2, rfl, none, none, rfl⟩ (fun i σ H' _ z => sq_lst (z.1 p _ (by simpa using hpr) hp)) ?_ ?_
    · rintro i y σ H' hy ⟨G, ds, hdl, hR, hdd, v3, v4, rfl⟩
      obtain ⟨w, hw, rfl⟩ : ∃ w, W[i]? = some w ∧ y = .str w := by
        rw [List.getElem?_map] at hy
        cases e : W[i]? with
        | none => rw [e] at hy; cases hy
        | some w => rw [e] at hy; exact ⟨w, rfl, (Option.some.inj hy).symm⟩
      have hi := (List.getElem?_eq_some_iff.mp hw).1
      have hdrop : W.drop i = w :: W.drop (i + 1) := by
        rw [List.drop_eq_getElem_cons hi]
        rw [List.getElem?_eq_getElem hi] at hw
        rw [Option.some.inj hw]
      rw [hdrop] at hdd
      have hdd : digL b W = ds ++ (match intIn w with
        | some d => if d < b then d :: digL b (W.drop (i + 1)) else []
        | none => []) := hdd
      have brk : digL b W = ds → ∀ v4, (tCB (rTpO K) (tCons (tVar 2) tNil)) [some (.int b), some (.ref a), some (.ref r), some (.str w), v4] H' Q := fun e v4 => by
        refine ⟨_, rfl, r, vn ds, rfl, .inl ⟨sq_lst hR, fun t nt => ?_⟩⟩
        exact q t _ ((gout G).trans (Gr.new nt)) (by rw [upd_same, e])
      refine ⟨_, rfl, w, rfl, hWz w (List.mem_of_getElem? hw), ?_⟩
      cases ei : intIn w with
      | none =>
        rw [ei] at hdd
        dsimp only at hdd
        refine ⟨_, rfl, rfl, _, rfl, iteT ?_⟩
        exact brk (by rw [hdd, List.append_nil]) _
      | some d =>
        rw [ei] at hdd
        dsimp only at hdd
        refine ⟨_, rfl, rfl, _, rfl, iteF ?_⟩
        refine ⟨_, rfl, _, rfl, _, _, rfl, rfl, _, rfl, ?_⟩
        by_cases hd : d < b
        · rw [if_pos hd] at hdd
          refine iteFb (decide_eq_false (by omega)) ?_
          refine ⟨_, rfl, .inl ⟨rfl, _, sq_lst hR⟩, _, rfl, r, _, _, rfl, rfl, hR, ?_, ?_⟩
          · rw [vn_len]
            exact Nat.lt_of_lt_of_le (show ds.length < 6000 by omega) (by decide)
          · refine ⟨G.trans (Gr.wr (by simp)), ds ++ [d], by rw [List.length_append, hdl]; rfl, ?_, by rw [hdd, List.append_assoc]; rfl, _, _, rfl⟩
            rw [upd_same]
            unfold vn
            rw [List.map_append]
            rfl
        · rw [if_neg hd] at hdd
          refine iteTb (decide_eq_true (by omega)) ?_
          exact brk (by rw [hdd, List.append_nil]) _
    rintro σ H' ⟨G, ds, hdl, hR, hdd, v3, v4, rfl⟩
    rw [List.length_map] at hdl hdd
    refine ⟨_, rfl, r, vn ds, rfl, .inl ⟨sq_lst hR, fun t nt => ?_⟩⟩
    refine q t _ ((gout G).trans (Gr.new nt)) ?_
    rw [upd_same, hdd, List.drop_of_length_le (Nat.le_refl _)]
    show _ = some (HO.tup (vn (ds ++ [])))
    rw [List.append_nil]
theorem ok_need_word (T : Txt K mg) : FnOk P w K mg base CX0 1 T.d_need_word.f T.d_need_word.fd ["words", "at", "word"] (sp_need_word K) := by
  refine T.d_need_word.F.ok sc_need_word (fun vs H Q E h => ?_) (fun cdv A outer s H vs Q E hr h => ?_)
  · obtain ⟨a, ws, k, w, rfl, _⟩ := h; rfl
  · have hu := hu_of hr
    refine ⟨_, (pss_one (ps_if (pt_cmpR (r := rNeD K) (op_neD hr.units) (pe_slice (r := rSlL K) sl_list (pv 0) (po_some (pv 1)) (po_some (pe_op op_add (pv 1) pe_int))) (pe_lst (pa_cons (pv 2) pa_nil)) (nomark _)) (pss_one ps_never) pss_nil)), ?_⟩
    obtain ⟨a, ws, k, w, rfl, ha, hk, hw, q⟩ := h
    have hlt := (List.getElem?_eq_some_iff.mp hk).1
    refine ⟨_, rfl, _, rfl, (k : Int), rfl, _, rfl, _, _, rfl, rfl, ?_⟩
    refine ⟨_, rfl, a, _, rfl, sq_lst ha, fun p1 np1 => ?_⟩
    have ec : cutV (ws.map V.str) (some (k : Int)) (some ((k : Int) + 1)) = [V.str w] := by
      rw [show (k : Int) + 1 = ((k + 1 : Nat) : Int) by omega]
      unfold cutV
      rw [HT.sIx_nat, HT.sIx_nat, List.length_map, Nat.min_eq_left (by omega), Nat.min_eq_left (by omega), show k + 1 - k = 1 by omega, ← List.map_drop, ← List.map_take, List.drop_eq_getElem_cons hlt]
      have : ws[k] = w := by
        rw [List.getElem?_eq_getElem hlt] at hk
        exact Option.some.inj hk
      rw [this]
      rfl
    dsimp only
    rw [ec]
    refine ⟨_, rfl, by show 1 ≤ sizeLine; decide, fun p2 np2 => ?_⟩
    have h1 := (Gr.new (W := []) (o := .lst [V.str w]) np2) p1 _ (by simp) upd_same
    have sh : SeqAt.shaped (.list [.str w]) = true := by
      unfold SeqAt.shaped
      rw [Bool.and_eq_true]
      refine ⟨?_, by rfl⟩
      show ((PyData.str w).canLay0 && true) = true
      rw [hw]
      rfl
    have ev : PyData.eqv (.list [.str w]) (.list [.str w]) = true := PySem.SeqAt.eqv_refl _ (by
      show ((PyData.str w).canLay0 && true) = true
      rw [hw]
      rfl)
    refine ⟨.list [.str w], .list [.str w], dp_lst h1 (.cons (.str _) .nil), dp_lst upd_same (.cons (.str _) .nil), sh, sh, _, rfl, iteFb (by rw [ev]; rfl) ?_⟩
    exact q _ ((Gr.new np1).trans (Gr.new np2))
theorem okX_read_expansion (T : Txt K mg) : FnOk P w K mg base (L2.CX P w) 7 T.d_read_expansion.f T.d_read_expansion.fd ["base", "string"] (sp_read_expansion T) := by
  refine T.d_read_expansion.F.okX sc_read_expansion (fun vs H Q E h => ?_) (fun cdv A outer s H vs Q E hr h => ?_)
  · obtain ⟨b, h, g, rfl, _⟩ := h; rfl
  · have hu := hu_of hr
    refine ⟨_, (pss_cons (ps_expr (pe_call (ok_need_base T) (hr.mono (by decide)) (by rfl) T.d_need_base.m T.d_need_base.F.kp T.d_need_base.b .nil pass0 (pa_cons (pv 0) pa_nil)))
      (pss_cons (ps_expr (pe_call (ok_need_string T) (hr.mono (by decide)) (by rfl) T.d_need_string.m T.d_need_string.F.kp T.d_need_string.b .nil pass0 (pa_cons (pv 1) pa_nil)))
      (pss_cons (ps_set (i := 2) sc_read_expansion.nd rfl (by first | exact .inl rfl | exact .inr rfl) (pe_split (pv 1) pe_str))
      (pss_cons (ps_set (i := 3) sc_read_expansion.nd rfl (by first | exact .inl rfl | exact .inr rfl) (pe_call (ok_digits_in T) (hr.mono (by decide)) (by rfl) T.d_digits_in.m T.d_digits_in.F.kp T.d_digits_in.b .nil pass0 (pa_cons (pv 0) (pa_cons (pv 2) pa_nil))))
      (pss_cons (ps_set (i := 4) sc_read_expansion.nd rfl (by first | exact .inl rfl | exact .inr rfl) (pe_op op_add (pe_callB (r := rLn K) call_ln (by rfl) T.b_len PySem.boot_len (pa_cons (pv 3) pa_nil)) pe_int))
      (pss_cons (ps_expr (pe_call (ok_need_word T) (hr.mono (by decide)) (by rfl) T.d_need_word.m T.d_need_word.F.kp T.d_need_word.b .nil pass0 (pa_cons (pv 2) (pa_cons (pe_op op_sub (pv 4) pe_int) (pa_cons pe_str pa_nil)))))
      (pss_cons (ps_set (i := 5) sc_read_expansion.nd rfl (by first | exact .inl rfl | exact .inr rfl) (pe_call (ok_digits_in T) (hr.mono (by decide)) (by rfl) T.d_digits_in.m T.d_digits_in.F.kp T.d_digits_in.b .nil pass0 (pa_cons (pv 0) (pa_cons (pe_slice (r := rSlL K) sl_list (pv 2) (po_some (pv 4)) po_none) pa_nil))))
      (pss_cons (ps_if (pt_cmpR op_eq (pe_callB (r := rLn K) call_ln (by rfl) T.b_len PySem.boot_len (pa_cons (pv 5) pa_nil)) pe_int (nomark _)) (PSs.nox (pss_one ps_never)) pss_nil)
      (pss_cons (ps_set (i := 6) sc_read_expansion.nd rfl (by first | exact .inl rfl | exact .inr rfl) (pe_op op_add (pv 4) (pe_callB (r := rLn K) call_ln (by rfl) T.b_len PySem.boot_len (pa_cons (pv 5) pa_nil))))
      (pss_cons (ps_expr (pe_call (ok_need_word T) (hr.mono (by decide)) (by rfl) T.d_need_word.m T.d_need_word.F.kp T.d_need_word.b .nil pass0 (pa_cons (pv 2) (pa_cons (pv 6) (pa_cons pe_str pa_nil)))))
      (pss_cons (ps_if (pt_cmpR op_gt (pe_callB (r := rLn K) call_ln (by rfl) T.b_len PySem.boot_len (pa_cons (pv 2) pa_nil)) (pe_op op_add (pv 6) pe_int) (nomark _)) (PSs.nox (pss_one ps_never)) pss_nil)
      (pss_one (ps_ret (pe_call (okX_fraction_of T) (hr.mono (by decide)) (by rfl) T.d_fraction_of.m T.d_fraction_of.F.kp T.d_fraction_of.b .nil (passes_call (takes_of rfl rfl rfl rfl) (fun _ _ _ _ z => z)) (pa_cons (pv 0) (pa_cons (pv 3) (pa_cons (pv 5) pa_nil))))))))))))))))), ?_⟩
    obtain ⟨b, h, g, rfl, hh, hD, e1, e2, q⟩ := h
    obtain ⟨⟨hb1, hb2⟩, hds, ⟨h1, h2⟩⟩ := id hD
    have sh : ∀ d ∈ h, d < 1000 := fun d hd => Nat.lt_of_lt_of_le (hh.1 d hd) hb2
    have sg : ∀ d ∈ g, d < 1000 := fun d hd => Nat.lt_of_lt_of_le (hds d hd) hb2
    have hhl := hh.2
    have le := expS_len sh sg
    have lw := expW_len h g
    have sw := expW_small sh sg
    have lit : (PyData.str (Str.ofString "(")).canLay0 = true ∧ (PyData.str (Str.ofString ")")).canLay0 = true := by decide +kernel
    have dH : digIn b (expW h g) = h := by
      unfold digIn
      rw [expW_eq]
      exact digL_app no_par.1 hb2 hh.1 400 hhl
    have dG : digIn b (g.map nS ++ [Str.ofString ")"]) = g := digL_app no_par.2 hb2 hds 400 h2
    refine ⟨_, rfl, b, rfl, ⟨by omega, by omega⟩, ?_⟩
    refine ⟨_, rfl, _, rfl, ?_⟩
    refine ⟨_, rfl, ⟨_, rfl⟩, _, _, rfl, rfl, by decide +kernel, Nat.le_trans (show _ ≤ 6000 by omega) (by decide), fun p np => ?_⟩
    rw [split_expS]
    have g1 := Gr.new (W := []) (o := .lst ((expW h g).map V.str)) np
    have hp : (upd H p (.lst ((expW h g).map V.str))) p = some (.lst ((expW h g).map V.str)) := upd_same
    generalize upd H p (.lst ((expW h g).map V.str)) = H1 at g1 hp ⊢
    refine ⟨_, rfl, _, rfl, b, p, expW h g, rfl, hp, (fun w hw => sz40 (Nat.le_trans (sw w hw) (by decide))), sz40 (by omega), fun t1 H2 g2 ht1 => ?_⟩
    rw [dH] at ht1
    have hp2 := g2 p _ (by simp) hp
    refine ⟨_, rfl, t1, _, rfl, .inr (sq_tup ht1), _, _, rfl, rfl, ?_⟩
    rw [vn_len]
    have ea : (h.length : Int) + 1 = ((h.length + 1 : Nat) : Int) := by omega
    have eb : ((h.length + 1 : Nat) : Int) - 1 = ((h.length : Nat) : Int) := by omega
    dsimp only
    rw [ea]
    refine ⟨_, rfl, _, rfl, _, _, rfl, rfl, ?_⟩
    dsimp only
    rw [eb]
    refine ⟨p, expW h g, h.length, Str.ofString "(", rfl, hp2, expW_one h g, lit.1, fun H3 g3 => ?_⟩
    have hp3 := g3 p _ (by simp) hp2
    have ht13 := g3 t1 _ (by simp) ht1
    refine ⟨_, rfl, _, rfl, _, rfl, ((h.length + 1 : Nat) : Int), rfl, p, _, rfl, sq_lst hp3, fun p4 np4 => ?_⟩
    have ec : cutV ((expW h g).map V.str) (some ((h.length + 1 : Nat) : Int)) none = (g.map nS ++ [Str.ofString ")"]).map V.str := by
      rw [cut_hi (by rw [List.length_map]; omega), ← List.map_drop, expW_drop]
    rw [ec]
    have g4 := Gr.new (W := []) (o := .lst ((g.map nS ++ [Str.ofString ")"]).map V.str)) np4
    have hp4 : (upd H3 p4 (.lst ((g.map nS ++ [Str.ofString ")"]).map V.str))) p4 = some (.lst ((g.map nS ++ [Str.ofString ")"]).map V.str)) := upd_same
    have hp34 := g4 p _ (by simp) hp3
    have ht14 := g4 t1 _ (by simp) ht13
    generalize upd H3 p4 (.lst ((g.map nS ++ [Str.ofString ")"]).map V.str)) = H4 at g4 hp4 hp34 ht14 ⊢
    refine ⟨b, p4, g.map nS ++ [Str.ofString ")"], rfl, hp4, (fun w hw => sz40 (Nat.le_trans (sw w (by rw [expW_eq]; simp only [List.mem_append, List.mem_cons] at hw ⊢; exact .inr (.inr (by simpa using hw)))) (by decide))), sz40 (by rw [List.length_append, List.length_map]; show g.length + 1 ≤ 6000; omega), fun t2 H5 g5 ht2 => ?_⟩
    rw [dG] at ht2
    have hp5 := g5 p _ (by simp) hp34
    have ht15 := g5 t1 _ (by simp) ht14
    refine ⟨_, rfl, t2, _, rfl, .inr (sq_tup ht2), rfl, _, rfl, iteFb (decide_eq_false (fun z => by have := V.int.inj z; rw [vn_len] at this; omega)) ?_⟩
    refine ⟨_, rfl, _, rfl, t2, _, rfl, .inr (sq_tup ht2), _, _, rfl, rfl, ?_⟩
    rw [vn_len]
    have ed : ((h.length + 1 : Nat) : Int) + (g.length : Int) = ((h.length + 1 + g.length : Nat) : Int) := by omega
    dsimp only
    rw [ed]
    refine ⟨_, rfl, _, rfl, p, expW h g, h.length + 1 + g.length, Str.ofString ")", rfl, hp5, expW_two h g, lit.2, fun H6 g6 => ?_⟩
    have hp6 := g6 p _ (by simp) hp5
    have ht16 := g6 t1 _ (by simp) ht15
    have ht26 := g6 t2 _ (by simp) ht2
    refine ⟨_, rfl, p, _, rfl, .inl (sq_lst hp6), _, rfl, _, _, rfl, rfl, _, _, rfl, rfl, _, rfl, iteFb (decide_eq_false (by rw [List.length_map, lw]; omega)) ?_⟩
    have G6 := ((((g1.trans g2).trans g3).trans g4).trans g5).trans g6
    refine ⟨_, rfl, _, rfl, _, rfl, t1, t2, b, h, g, rfl, ht16, ht26, hh, hD, fun hv H7 d g7 nd => ?_, fun hv h5 H7 d g7 nd => ?_, fun hv h5 t H7 g7 h7 => q hv h5 t H7 (G6.trans g7) h7⟩
    · exact e1 hv _ d t2 ((G6.trans g7).trans (Gr.new nd)) ((g7.trans (Gr.new nd)) t2 _ (by simp) ht26) upd_same
    · exact e2 hv h5 _ d ((G6.trans g7).trans (Gr.new nd)) upd_same

end
end Wn
namespace Wn
open PySem PySem.Spec PyProof.Rows L2
open LamX (Tabs ExtN tLam)
local macro_rules | `(tactic| walk_at "vc") => `(tactic| simp only [cxK, cxK2, start1, start2, start3, tRet, tRetN, tSeq, tNext, tIfS, tAsg, gName, tDrop, tVar, tC, tOp, tUn, tTest, tB, tNot, tAnd, tOr, tAndV, tOrV, tNotV, tIf, tCons, tNil, tCB, tCall, tChain, tAug, ipI, rI, rI0, rU, rIs, rGcd, rEq, rNe, scal,
  List.getElem?_cons_zero, List.getElem?_cons_succ, List.set_cons_zero, List.set_cons_succ, Option.some.injEq, List.cons.injEq, V.int.injEq, V.bl.injEq, V.ref.injEq, V.str.injEq, and_true, true_and, exists_eq_left, exists_eq_left', exists_and_left, exists_and_right, List.append_nil, List.nil_append, List.cons_append, exists_eq_right, exists_eq_right', and_assoc, exists_const, V.ty.injEq, ↓reduceIte, Bool.false_eq_true, Bool.not_true, Bool.not_false, decide_eq_true_eq])

section
variable {P : Program} {w : World} {K : PySem.W.Frag} {mg : Str → Option Value} {base : Heap}

def di (xs : List Nat) : PyData := .tuple ((ni xs).map PyData.int)
theorem sm_ni {xs : List Nat} {m : Nat} (h : ∀ k ∈ xs, k < 8192) (hm : xs.length ≤ m) : Sm (di xs) 13 1 (m * 14) := by
  refine Sm.tup (W := 13) m (fun d hd => ?_) (by unfold ni; rw [List.length_map, List.length_map]; exact hm)
  obtain ⟨z, hz, rfl⟩ := List.mem_map.mp hd
  obtain ⟨k, hk, rfl⟩ := List.mem_map.mp hz
  exact Sm.int (by decide) (by rw [Int.natAbs_natCast]; exact h k hk) (by decide)
theorem sml_ni {xs : List Nat} {m : Nat} (h : ∀ k ∈ xs, k < 8192) (hm : xs.length ≤ m) : Sm (.list ((ni xs).map PyData.int)) 13 1 (m * 14) := by
  refine Sm.lst (W := 13) m (fun d hd => ?_) (by unfold ni; rw [List.length_map, List.length_map]; exact hm)
  obtain ⟨z, hz, rfl⟩ := List.mem_map.mp hd
  obtain ⟨k, hk, rfl⟩ := List.mem_map.mp hz
  exact Sm.int (by decide) (by rw [Int.natAbs_natCast]; exact h k hk) (by decide)
theorem dp_vnT {K : PySem.W.Frag} {H : Hp} {t : Addr} {xs : List Nat} (h : H t = some (.tup (vn xs))) : Dp K H (.ref t) (di xs) := by
  rw [vn_ni] at h
  exact dp_tup h (dpAll_ints _)
theorem dp_vnL {K : PySem.W.Frag} {H : Hp} {t : Addr} {xs : List Nat} (h : H t = some (.lst (vn xs))) : Dp K H (.ref t) (.list ((ni xs).map PyData.int)) := by
  rw [vn_ni] at h
  exact dp_lst h (dpAll_ints _)
theorem wz0 {K : PySem.W.Frag} : True := True.intro
def sp_law_text : Sp := fun vs H Q _ => ∃ (a c : Addr) (h g : List Nat), vs = [.ref a, .ref c] ∧ H a = some (.tup (vn h)) ∧ H c = some (.tup (vn g)) ∧ (∀ d ∈ h, d < 1000) ∧ (∀ d ∈ g, d < 1000) ∧ (h.length ≤ 5000 ∧ g.length ≤ 5000) ∧ ∀ H', Gr [] H H' → Q (.str (expS h g)) H'
theorem eqv_self {d : PyData} {B D W : Nat} (h : Sm d B D W) : PyData.eqv d d = true := PySem.SeqAt.eqv_refl d h.lay
theorem sm_pair {x n : Nat} (h1 : x ≤ 5000) (h2 : n ≤ 5000) : Sm (.tuple [.int (x : Nat), .int (n : Nat)]) 13 1 2 := by
  refine Sm.tup (W := 0) 2 (fun d hd => ?_) (Nat.le_refl _)
  simp only [List.mem_cons, List.not_mem_nil, or_false] at hd
  rcases hd with rfl | rfl <;> exact Sm.int0 (k := 13) (by decide) (by rw [Int.natAbs_natCast]; omega) (by decide)
theorem sm_one {u : PyData} {B D W : Nat} (h : Sm u B D W) : Sm (.list [u]) B (D + 1) (W + 1) := by
  have := Sm.lst (xs := [u]) 1 (fun d hd => by rw [List.mem_singleton.mp hd]; exact h) (Nat.le_refl _)
  rwa [Nat.one_mul] at this
theorem sm_str {s : Str} {B W : Nat} (h : ∀ c ∈ s.cps.toList, c < 128) (hl : s.length ≤ W) : Sm (.str s) B 0 W := by
  refine ⟨rfl, ?_, rfl, ?_, Nat.le_refl _, hl⟩
  · show (s.cps.toList.all fun c => decide (c < 16 ^ 8)) = true
    rw [List.all_eq_true]
    intro c hc
    exact decide_eq_true (Nat.lt_trans (h c hc) (by decide))
  · show (s.cps.all (· < 0x110000)) = true
    rw [← Array.all_toList, List.all_eq_true]
    intro c hc
    exact decide_eq_true (Nat.lt_trans (h c hc) (by decide))
theorem mem_joinL {S : List Nat} {c : Nat} : ∀ {ps : List (List Nat)}, c ∈ TL.joinL S ps → c ∈ S ∨ ∃ p ∈ ps, c ∈ p
  | [], h => by cases h
  | [p], h => .inr ⟨p, List.mem_singleton.mpr rfl, h⟩
  | p :: q :: r, h => by
    have h : c ∈ p ++ (S ++ TL.joinL S (q :: r)) := h
    rw [List.mem_append, List.mem_append] at h
    rcases h with h | h | h
    · exact .inr ⟨p, List.mem_cons_self .., h⟩
    · exact .inl h
    · rcases mem_joinL h with h | ⟨z, hz, h⟩
      · exact .inl h
      · exact .inr ⟨z, List.mem_cons_of_mem _ hz, h⟩
theorem nS_128 (n : Nat) : ∀ c ∈ (nS n).cps.toList, c < 128 := fun c hc => by
  have := nS_dig n c hc
  unfold dgC at this
  rw [Bool.and_eq_true, decide_eq_true_iff, decide_eq_true_iff] at this
  omega
theorem expS_128 (h g : List Nat) : ∀ c ∈ (expS h g).cps.toList, c < 128 := fun c hc => by
  change c ∈ TL.tl (Txt.join (Str.ofString " ") (expW h g)) at hc
  rw [TL.join_eq, TL.tl_join] at hc
  have l1 : ∀ c ∈ TL.tl (Str.ofString " "), c < 128 := by decide +kernel
  have l2 : ∀ c ∈ TL.tl (Str.ofString "("), c < 128 := by decide +kernel
  have l3 : ∀ c ∈ TL.tl (Str.ofString ")"), c < 128 := by decide +kernel
  rcases mem_joinL hc with h1 | ⟨p, hp, h1⟩
  · exact l1 c h1
  · obtain ⟨w, hw, rfl⟩ := List.mem_map.mp hp
    unfold expW at hw
    simp only [List.mem_append, List.mem_map, List.mem_singleton] at hw
    rcases hw with ((⟨n, _, rfl⟩ | rfl) | ⟨n, _, rfl⟩) | rfl
    · exact nS_128 n c h1
    · exact l2 c h1
    · exact nS_128 n c h1
    · exact l3 c h1
theorem frS_128 (x n : Nat) : ∀ c ∈ (frS x n).cps.toList, c < 128 := fun c hc => by
  rw [show (frS x n).cps.toList = TL.numL x ++ 47 :: TL.numL n from tl_frS x n, List.mem_append, List.mem_cons] at hc
  rcases hc with h | h | h
  · exact nS_128 x c (by rw [tl_nS]; exact h)
  · omega
  · exact nS_128 n c (by rw [tl_nS]; exact h)
/-- digits of a fraction lead back to it -/
theorem fr_ok {b n x lo c : Nat} (hb1 : 2 ≤ b) (hx : x < n) (hg : Nat.gcd x n = 1) (hc : 1 ≤ c) (hr : rem b n x (lo + c) = rem b n x lo) :
    frN b (dg b n x 0 lo) (dg b n x lo c) ≠ frD b (dg b n x 0 lo) (dg b n x lo c) ∧ frF b (dg b n x 0 lo) (dg b n x lo c) = (x, n) := by
  have e := fr_of hx hr
  have hD := frD_pos (b := b) (h := dg b n x 0 lo) (g := dg b n x lo c) hb1 (by rw [dg_len]; exact hc)
  obtain ⟨e1, e2⟩ := lowest hg (by omega) hD e
  refine ⟨fun z => ?_, ?_⟩
  · rw [z] at e
    have := Nat.eq_of_mul_eq_mul_right hD e
    omega
  · unfold frF
    rw [e1, e2]
/-- a text that is read as this fraction -/
structure Rd (b x n : Nat) (s : Str) : Prop where
  at_ : ∃ h g, s = expS h g ∧ DH b h ∧ DG b g ∧ frN b h g ≠ frD b h g ∧ frF b h g = (x, n)
theorem rd_of {b n x lo c : Nat} (hb1 : 2 ≤ b) (hb2 : b ≤ 1000) (hx : x < n) (hg : Nat.gcd x n = 1) (hc : 1 ≤ c) (hr : rem b n x (lo + c) = rem b n x lo) (l1 : lo ≤ 400) (l2 : c ≤ 400) : Rd b x n (expS (dg b n x 0 lo) (dg b n x lo c)) := by
  obtain ⟨h1, h2⟩ := fr_ok hb1 hx hg hc hr
  exact ⟨_, _, rfl, ⟨dg_lt (by omega) (by omega), by rw [dg_len]; exact l1⟩, ⟨⟨hb1, hb2⟩, dg_lt (by omega) (by omega), by rw [dg_len]; exact ⟨hc, l2⟩⟩, h1, h2⟩
section
variable {T : Txt K mg} {σ : L2.St} {H : Hp}
theorem rd_go {b x n : Nat} {s : Str} (R : Rd b x n s) (hn : n ≤ 5000) {E : XK} {H1 : Hp} {Q : VK} (q : ∀ t H2, Gr [] H1 H2 → H2 t = some (.tup [.int (x : Nat), .int (n : Nat)]) → Q (.ref t) H2) : sp_read_expansion T [.int (b : Nat), .str s] H1 Q E := by
  obtain ⟨h, g, rfl, hh, hD, ne, ef⟩ := R.at_
  refine ⟨b, h, g, rfl, hh, hD, (fun z => absurd z ne), (fun _ z => absurd z (by rw [ef]; omega)), fun _ _ t H2 g2 ht => ?_⟩
  rw [ef] at ht
  exact q t H2 g2 ht
theorem et_rx {b i j x n : Nat} {s : Str} (hi : σ[i]? = some (some (.int (b : Nat)))) (hj : σ[j]? = some (some (.str s))) (R : Rd b x n s) (hn : n ≤ 5000) :
    EvT K (tl T) (tLam (tl T) (TTout T) (fun E => tCall (sp_read_expansion T) [] E (tCons (tVar i) (tCons (tVar j) tNil)))) σ H (.list [.tuple [.int (x : Nat), .int (n : Nat)]]) :=
  et_outV fun E H1 e Q q => ⟨_, hi, _, hj, rd_go R hn fun t H2 g2 ht => q _ H2 g2 (dp_tup ht (.cons (.int _) (.cons (.int _) .nil)))⟩
theorem et_rf {j x n : Nat} (hj : σ[j]? = some (some (.str (frS x n)))) (h : x < n ∧ n ≤ 5000 ∧ Nat.gcd x n = 1) :
    EvT K (tl T) (tLam (tl T) (TTout T) (fun E => tCall sp_read_fraction [] E (tCons (tVar j) tNil))) σ H (.list [.tuple [.int (x : Nat), .int (n : Nat)]]) :=
  et_outV fun E H1 e Q q => ⟨_, hj, x, n, rfl, h, fun t nt => q _ _ (Gr.new nt) (dp_tup upd_same (.cons (.int _) (.cons (.int _) .nil)))⟩
end
theorem Par.two {b n p q h L p' q' h' L' : Nat} (hn : 1 ≤ n) (P : Par b n p q h L) (P' : Par b n p' q' h' L') : h' = h ∧ L' = L := by
  have e := P'.hp.uniq P.hp
  subst e
  have e2 : q' = q := Nat.eq_of_mul_eq_mul_left (P.p1 hn) (P'.e.symm.trans P.e)
  subst e2
  exact ⟨P'.hh.uniq P.hh, P'.hL.uniq P.hL⟩
theorem ok_law_text (T : Txt K mg) : FnOk P w K mg base CX0 2 T.d_law_text.f T.d_law_text.fd ["head", "ring"] sp_law_text := by
  refine T.d_law_text.F.ok sc_law_text (fun vs H Q E h => ?_) (fun cdv A outer s H vs Q E hr h => ?_)
  · obtain ⟨a, c, h, g, rfl, _⟩ := h; rfl
  · have hu := hu_of hr
    refine ⟨_, (pss_one (ps_ret (pe_join pe_str (pe_op op_cat (pe_op op_cat (pe_op op_cat (pe_lc (own := [("fig", 2)]) (g := gName 2) (tt := tYes) rfl sc_law_text.nd (pi_tup (pv 0)) (blkOk_by (own := [("fig", 2)]) (N := ["head", "ring", "fig"]) (sc := defScope s_law_text) (by decide +kernel)) (fun _ _ _ _ _ => (pg_name (i := 2) sc_law_text.nd rfl (by first | exact .inl rfl | exact .inr rfl))) (fun _ _ _ _ _ => pts_nil) (fun _ _ _ _ _ => (pe_callTy call_str_int (by rfl) T.b_str (by decide +kernel) (pa_cons (pv 2) pa_nil)))) (pe_lst (pa_cons pe_str pa_nil))) (pe_lc (own := [("fig", 2)]) (g := gName 2) (tt := tYes) rfl sc_law_text.nd (pi_tup (pv 1)) (blkOk_by (own := [("fig", 2)]) (N := ["head", "ring", "fig"]) (sc := defScope s_law_text) (by decide +kernel)) (fun _ _ _ _ _ => (pg_name (i := 2) sc_law_text.nd rfl (by first | exact .inl rfl | exact .inr rfl))) (fun _ _ _ _ _ => pts_nil) (fun _ _ _ _ _ => (pe_callTy call_str_int (by rfl) T.b_str (by decide +kernel) (pa_cons (pv 2) pa_nil))))) (pe_lst (pa_cons pe_str pa_nil)))))), ?_⟩
    obtain ⟨a, c, h, g, rfl, ha, hc, sh, sg, ⟨lh, lg⟩, q⟩ := h
    refine ⟨⟨_, rfl⟩, ?_⟩
    refine ⟨_, rfl, a, rfl, ⟨_, sq_tup ha⟩, fun D1 nD1 => ?_⟩
    refine lc_tup (K := K) (a := a) (xs := vn (h)) (fun j H' => Gr [] H H' ∧ H' D1 = some (.lst (((h).take j).map fun d => V.str (nS d)))) ⟨Gr.new nD1, upd_same⟩ (fun i H' _ z => sq_tup (z.1 a _ (by simp) ha)) ?_ ?_
    · rintro j y H' hy ⟨G, hD⟩
      obtain ⟨hj, rfl⟩ := vn_get hy
      have hd := sh _ (List.getElem_mem hj)
      refine ⟨rfl, ?_⟩
      dsimp only [tYes]
      refine iteT ⟨_, rfl, _, rfl, log_small (by omega), _, hD, ?_, ?_, ?_⟩
      · rw [List.length_map, List.length_take]
        exact Nat.lt_of_le_of_lt (Nat.min_le_left _ _) (Nat.lt_of_lt_of_le (show j < 6000 by omega) (by decide))
      · intro u o _ e
        rw [upd_ne (ne_of_none e nD1)]
        exact G u o (by simp) e
      · rw [upd_same, List.take_succ, List.map_append, List.getElem?_eq_getElem hj]
        rfl
    rintro H2 ⟨g2, hD1⟩
    rw [vn_len, List.take_length] at hD1
    
    refine ⟨by show 1 ≤ sizeLine; decide, fun p1 np1 => ?_⟩
    refine ⟨D1, p1, _, _, rfl, rfl, (Gr.new (W := []) np1) D1 _ (by simp) hD1, upd_same, ?_, fun p2 np2 => ?_⟩
    · rw [List.length_map]
      exact sz40 (show h.length + 1 ≤ 6000 by omega)
    have g3 := (Gr.new (W := []) (o := .lst [.str (Str.ofString "(")]) np1).trans (Gr.new (o := .lst (h.map (fun d => V.str (nS d)) ++ [.str (Str.ofString "(")])) np2)
    have hp2 : (upd (upd H2 p1 (.lst [.str (Str.ofString "(")])) p2 (.lst (h.map (fun d => V.str (nS d)) ++ [.str (Str.ofString "(")]))) p2 = some (.lst (h.map (fun d => V.str (nS d)) ++ [.str (Str.ofString "(")])) := upd_same
    generalize upd (upd H2 p1 (.lst [.str (Str.ofString "(")])) p2 (.lst (h.map (fun d => V.str (nS d)) ++ [.str (Str.ofString "(")])) = H3 at g3 hp2 ⊢
    have e23 := (g2.trans g3) c _ (by simp) hc
    refine ⟨_, rfl, c, rfl, ⟨_, sq_tup e23⟩, fun D2 nD2 => ?_⟩
    refine lc_tup (K := K) (a := c) (xs := vn (g)) (fun j H' => Gr [] H3 H' ∧ H' D2 = some (.lst (((g).take j).map fun d => V.str (nS d)))) ⟨Gr.new nD2, upd_same⟩ (fun i H' _ z => sq_tup (z.1 c _ (by simp) e23)) ?_ ?_
    · rintro j y H' hy ⟨G, hD⟩
      obtain ⟨hj, rfl⟩ := vn_get hy
      have hd := sg _ (List.getElem_mem hj)
      refine ⟨rfl, ?_⟩
      dsimp only [tYes]
      refine iteT ⟨_, rfl, _, rfl, log_small (by omega), _, hD, ?_, ?_, ?_⟩
      · rw [List.length_map, List.length_take]
        exact Nat.lt_of_le_of_lt (Nat.min_le_left _ _) (Nat.lt_of_lt_of_le (show j < 6000 by omega) (by decide))
      · intro u o _ e
        rw [upd_ne (ne_of_none e nD2)]
        exact G u o (by simp) e
      · rw [upd_same, List.take_succ, List.map_append, List.getElem?_eq_getElem hj]
        rfl
    rintro H4 ⟨g4, hD2⟩
    rw [vn_len, List.take_length] at hD2
    
    have hp24 := g4 p2 _ (by simp) hp2
    refine ⟨p2, D2, _, _, rfl, rfl, hp24, hD2, ?_, fun p3 np3 => ?_⟩
    · rw [List.length_append, List.length_map, List.length_map, Nat.add_assoc]
      exact Nat.le_trans (show h.length + ([V.str (Str.ofString "(")].length + g.length) ≤ 20000 by show h.length + (1 + g.length) ≤ 20000; omega) (by decide)
    refine ⟨by show 1 ≤ sizeLine; decide, fun p4 np4 => ?_⟩
    refine ⟨p3, p4, _, _, rfl, rfl, (Gr.new (W := []) np4) p3 _ (by simp) upd_same, upd_same, ?_, fun p5 np5 => ?_⟩
    · rw [List.length_append, List.length_append, List.length_map, List.length_map, Nat.add_assoc, Nat.add_assoc]
      exact Nat.le_trans (show h.length + ([V.str (Str.ofString "(")].length + (g.length + [V.str (Str.ofString ")")].length)) ≤ 20000 by show h.length + (1 + (g.length + 1)) ≤ 20000; omega) (by decide)
    have g5 := ((Gr.new (W := []) np3).trans (Gr.new np4)).trans (Gr.new (o := .lst (h.map (fun d => V.str (nS d)) ++ [.str (Str.ofString "(")] ++ g.map (fun d => V.str (nS d)) ++ [.str (Str.ofString ")")])) np5)
    have ew : h.map (fun d => V.str (nS d)) ++ [.str (Str.ofString "(")] ++ g.map (fun d => V.str (nS d)) ++ [.str (Str.ofString ")")] = (expW h g).map V.str := by
      unfold expW
      simp only [List.map_append, List.map_map, List.map_cons, List.map_nil]
      rfl
    refine ⟨_, p5, expW h g, rfl, rfl, .inl (sq_lst (by rw [upd_same]; exact congrArg (fun z => some (HO.lst z)) ew)), ?_, ?_⟩
    · have s1 := expW_sum sh sg
      have s2 := expW_len h g
      have s3 : (Str.ofString " ").length = 1 := by decide +kernel
      rw [s3]
      omega
    exact q _ (((g2.trans g3).trans g4).trans g5)

end
end Wn
namespace Wn
open PySem PySem.Spec PyProof.Rows L2
open LamX (Tabs ExtN tLam)
local macro_rules | `(tactic| walk_at "vc") => `(tactic| simp only [cxK, cxK2, start1, start2, start3, tRet, tRetN, tSeq, tNext, tIfS, tAsg, gName, tDrop, tVar, tC, tOp, tUn, tTest, tB, tNot, tAnd, tOr, tAndV, tOrV, tNotV, tIf, tCons, tNil, tCB, tCall, tChain, tAug, ipI, rI, rI0, rU, rIs, rGcd, rEq, rNe, scal,
  List.getElem?_cons_zero, List.getElem?_cons_succ, List.set_cons_zero, List.set_cons_succ, Option.some.injEq, List.cons.injEq, V.int.injEq, V.bl.injEq, V.ref.injEq, V.str.injEq, and_true, true_and, exists_eq_left, exists_eq_left', exists_and_left, exists_and_right, List.append_nil, List.nil_append, List.cons_append, exists_eq_right, exists_eq_right', and_assoc, exists_const, V.ty.injEq, ↓reduceIte, Bool.false_eq_true, Bool.not_true, Bool.not_false, decide_eq_true_eq])

section
variable {P : Program} {w : World} {K : PySem.W.Frag} {mg : Str → Option Value} {base : Heap}
theorem vn_app' (u w : List Nat) : vn (u ++ w) = vn u ++ vn w := by
  unfold vn
  rw [List.map_append]
theorem par_rem {b n p q h L x : Nat} (P : Par b n p q h L) (hn : 1 ≤ n) (hg : Nat.gcd x n = 1) (k j : Nat) (hj : 1 ≤ j) : rem b n x (h + k + L * j) = rem b n x (h + k) := by
  have hL := P.hL.1
  have : L * 1 ≤ L * j := Nat.mul_le_mul_left _ hj
  have z := (rem_eq hg P.e P.hp.1 (P.gq hn) P.hh P.hL (i := h + k) (j := h + k + L * j) (by omega)).mpr ⟨by omega, by rw [show h + k + L * j - (h + k) = L * j by omega]; exact Nat.dvd_mul_right _ _⟩
  exact z.symm
/-- the form with the greatest digits -/
theorem low_ok {b n p q h L x : Nat} (P : Par b n p q h L) (hb1 : 2 ≤ b) (hb2 : b ≤ 1000) (hn : n ≤ 400) (hx : x < n) (hg : Nat.gcd x n = 1) (hx0 : 0 < x) (hr : dg b n x h L = [0]) :
    1 ≤ h ∧ ∃ d, dg b n x 0 h = dg b n x 0 (h - 1) ++ [d] ∧ 1 ≤ d ∧ d < b ∧ Rd b x n (expS (dg b n x 0 (h - 1) ++ [d - 1]) [b - 1]) := by
  have hn1 : 1 ≤ n := by omega
  have hL : L = 1 := by
    have := congrArg List.length hr
    rw [dg_len] at this
    simpa using this
  subst hL
  have r0 : rem b n x h * b / n = 0 := by
    have e : dg b n x h 1 = [rem b n x (h + 0) * b / n] := rfl
    rw [e] at hr
    simpa using hr
  have r1 : rem b n x (h + 1) = rem b n x h := by
    have := par_rem P hn1 hg 0 1 (Nat.le_refl _)
    simpa using this
  have r2 : rem b n x h = 0 := by
    have e1 := rem_succ b n x h
    have e2 := Nat.div_add_mod (rem b n x h * b) n
    rw [r0, e1, r1, Nat.mul_zero, Nat.zero_add] at e2
    rcases Nat.eq_zero_or_pos (rem b n x h) with z | z
    · exact z
    · have := Nat.mul_le_mul_left (rem b n x h) hb1
      omega
  have hh : 1 ≤ h := by
    rcases Nat.eq_zero_or_pos h with z | z
    · rw [z, rem_zero hx] at r2
      omega
    · exact z
  obtain ⟨k, rfl⟩ : ∃ k, h = k + 1 := ⟨h - 1, by omega⟩
  have hk : k + 1 ≤ n := P.hn hn1
  rw [Nat.add_sub_cancel]
  obtain ⟨d, ed⟩ : ∃ d, d = rem b n x (0 + k) * b / n := ⟨_, rfl⟩
  have es := dg_succ b n x 0 k
  rw [← ed] at es
  have hd1 : 1 ≤ d := by
    rcases Nat.eq_zero_or_pos d with z | z
    · exfalso
      rw [Nat.zero_add] at ed
      have e1 := rem_succ b n x k
      have e2 := Nat.div_add_mod (rem b n x k * b) n
      rw [← ed, z, e1, r2, Nat.mul_zero] at e2
      have e3 : rem b n x k = 0 := by
        rcases Nat.eq_zero_or_pos (rem b n x k) with y | y
        · exact y
        · have := Nat.mul_le_mul_left (rem b n x k) hb1
          omega
      have e4 : n ∣ x * b ^ k := Nat.dvd_of_mod_eq_zero e3
      have e5 : n ∣ b ^ k := (Nat.Coprime.symm hg).dvd_of_dvd_mul_left e4
      have e6 : q ∣ b ^ k := Nat.dvd_trans ⟨p, by rw [P.e, Nat.mul_comm]⟩ e5
      exact P.hh.2 k (Nat.lt_succ_self _) (Nat.mod_eq_zero_of_dvd e6)
    · exact z
  have hdb : d < b := by
    rw [ed, Nat.div_lt_iff_lt_mul hn1, Nat.mul_comm b]
    exact Nat.mul_lt_mul_of_pos_right (rem_lt hn1) (by omega)
  refine ⟨hh, d, es, hd1, hdb, ?_⟩
  have w0 := wrt_dg b n x 0 (k + 1)
  rw [Nat.zero_add, r2, rem_zero hx, Nat.add_zero, es, wrt_snoc] at w0
  have eN : n * frN b (dg b n x 0 k ++ [d - 1]) [b - 1] = x * frD b (dg b n x 0 k ++ [d - 1]) [b - 1] := by
    unfold frN frD
    rw [wrt_snoc, List.length_append, dg_len]
    have e1 : wrt b [b - 1] = b - 1 := by simp [wrt]
    have e2 : ([b - 1] : List Nat).length = 1 := rfl
    have e3 : ([d - 1] : List Nat).length = 1 := rfl
    rw [e1, e2, e3, Nat.pow_one]
    have e4 : (wrt b (dg b n x 0 k) * b + (d - 1)) * (b - 1) + (b - 1) = (wrt b (dg b n x 0 k) * b + d) * (b - 1) := by
      rw [show wrt b (dg b n x 0 k) * b + d = (wrt b (dg b n x 0 k) * b + (d - 1)) + 1 by omega, Nat.add_mul _ 1, Nat.one_mul]
    rw [e4, ← Nat.mul_assoc, w0, Nat.mul_assoc]
  have hD := frD_pos (b := b) (h := dg b n x 0 k ++ [d - 1]) (g := [b - 1]) hb1 (Nat.le_refl _)
  obtain ⟨e1, e2⟩ := lowest hg hn1 hD eN
  refine ⟨_, _, rfl, ⟨fun y hy => ?_, ?_⟩, ⟨⟨hb1, hb2⟩, fun y hy => ?_, ⟨Nat.le_refl _, by show 1 ≤ 400; decide⟩⟩, fun z => ?_, ?_⟩
  · rcases List.mem_append.mp hy with h | h
    · exact dg_lt (by omega) hn1 y h
    · rw [List.mem_singleton] at h
      omega
  · rw [List.length_append, dg_len]
    show k + 1 ≤ 400
    omega
  · rw [List.mem_singleton] at hy
    omega
  · rw [z] at eN
    have := Nat.eq_of_mul_eq_mul_right hD eN
    omega
  · unfold frF
    rw [e1, e2]
theorem shaped_pair (x n : Int) : SeqAt.shaped (.list [.tuple [.int x, .int n]]) = true := rfl
theorem eqv_pair (x n : Nat) (hx : x ≤ 5000) (hn : n ≤ 5000) : PyData.eqv (.list [.tuple [.int (x : Nat), .int (n : Nat)]]) (.list [.tuple [.int (x : Nat), .int (n : Nat)]]) = true := eqv_self (sm_one (sm_pair hx hn))
theorem repT_go {K : PySem.W.Frag} {a : Addr} {k : Nat} {z : Int} {g : List Nat} {H : Hp} {Q : VK} (hz : z = (k : Nat)) (ha : H a = some (.tup (vn g))) (hg : 1 ≤ g.length ∧ g.length ≤ 1000) (hk : 2 ≤ k ∧ k ≤ 100) (q : ∀ p H', Gr [] H H' → H' p = some (.tup (vn (List.replicate k g).flatten)) → Q (.ref p) H') : rRepG K (.ref a) (.int z) H Q := by
  subst hz
  have e : (List.replicate k (vn g)).flatten = vn (List.replicate k g).flatten := by
    unfold vn
    rw [List.map_flatten, List.map_replicate]
  refine ⟨a, k, vn g, rfl, rfl, sq_tup ha, ⟨by omega, by omega, by rw [vn_len]; omega⟩, fun z => ?_, fun _ _ p np => ?_⟩
  · rcases z with z | z
    · omega
    · have := congrArg List.length z
      rw [vn_len] at this
      have e0 : ([] : List V).length = 0 := rfl
      omega
  · rw [Int.toNat_natCast, e]
    exact q p _ (Gr.new np) upd_same
theorem cut_last (xs : List V) (v : V) : cutV (xs ++ [v]) none (some (-1)) = xs := by
  unfold cutV
  have h1 : HT.sIx (xs ++ [v]).length 0 none = 0 := rfl
  have h2 : HT.sIx (xs ++ [v]).length (xs ++ [v]).length (some (-1)) = xs.length := by
    unfold HT.sIx
    rw [List.length_append]
    show (if (-1 : Int) < 0 then _ else _) = _
    rw [if_pos (by decide)]
    have e : [v].length = 1 := rfl
    rw [e]
    omega
  rw [h1, h2, List.drop_zero, Nat.sub_zero, List.take_left' rfl]
theorem ne_self (z : Str) : (!decide (V.str z = V.str z)) = false := by rw [decide_eq_true rfl]; rfl
theorem eqv_int0 (k : Nat) : PyData.eqv (.int (k : Nat)) (.int 0) = decide (k = 0) := by
  show decide _ = _
  rw [decide_eq_decide]
  omega
theorem eqv_ring (rg : List Nat) : PyData.eqv (di rg) (.tuple [.int 0]) = decide (rg = [0]) := by
  match rg with
  | [] => rfl
  | [r] =>
    show (PyData.eqv (.int (r : Nat)) (.int 0) && true) = _
    rw [eqv_int0, Bool.and_true, decide_eq_decide]
    exact ⟨fun z => by rw [z], fun z => by injection z⟩
  | r :: s :: l =>
    show (PyData.eqv (.int (r : Nat)) (.int 0) && false) = _
    rw [Bool.and_false]
    exact (decide_eq_false (by simp)).symm
theorem lay_ints2 : ∀ ys : List Int, PyData.canLayAll0 (ys.map PyData.int) = true ∧ PyData.depthAll (ys.map PyData.int) = 0
  | [] => ⟨rfl, rfl⟩
  | y :: ys => by
    obtain ⟨h1, h2⟩ := lay_ints2 ys
    refine ⟨?_, ?_⟩
    · show (true && PyData.canLayAll0 (ys.map PyData.int)) = true
      rw [h1]
      rfl
    · show max 0 (PyData.depthAll (ys.map PyData.int)) = 0
      rw [h2]
      rfl
theorem shaped_intsT (ys : List Int) : SeqAt.shaped (.tuple (ys.map PyData.int)) = true := by
  obtain ⟨h1, h2⟩ := lay_ints2 ys
  unfold SeqAt.shaped
  rw [Bool.and_eq_true]
  refine ⟨h1, decide_eq_true ?_⟩
  show PyData.depthAll (ys.map PyData.int) + 1 ≤ 64
  rw [h2]
  decide
theorem dg_one {b n x p q h L : Nat} (P : Par b n p q h L) (hn : 1 ≤ n) (hg : Nat.gcd x n = 1) : dg b n x 0 h ++ (dg b n x h L).take 1 = dg b n x 0 (h + 1) ∧ (dg b n x h L).drop 1 ++ (dg b n x h L).take 1 = dg b n x (h + 1) L := by
  obtain ⟨l, rfl⟩ : ∃ l, L = 1 + l := ⟨L - 1, by have := P.hL.1; omega⟩
  have hr : rem b n x (h + (1 + l)) = rem b n x h := by
    have := par_rem P hn hg 0 1 (Nat.le_refl _)
    simpa using this
  have e := dg_app (b := b) (n := n) (x := x) (lo := h) (c := 1) (c' := l)
  have t1 : (dg b n x h (1 + l)).take 1 = dg b n x h 1 := by
    rw [← e, List.take_left' (dg_len ..)]
  have t2 : (dg b n x h (1 + l)).drop 1 = dg b n x (h + 1) l := by
    rw [← e, List.drop_left' (dg_len ..)]
  rw [t1, t2]
  refine ⟨?_, ?_⟩
  · have := dg_app (b := b) (n := n) (x := x) (lo := 0) (c := h) (c' := 1)
    rw [Nat.zero_add] at this
    exact this
  · have e3 := dg_shift hr 1
    have e4 := dg_app (b := b) (n := n) (x := x) (lo := h + 1) (c := l) (c' := 1)
    rw [show h + 1 + l = h + (1 + l) by omega, e3, Nat.add_comm l 1] at e4
    exact e4
section
variable {T : Txt K mg} {σ : L2.St} {H : Hp}
theorem et_neP {te : TE} {i x n : Nat} {a : Addr} (h : EvT K (tl T) te σ H (.list [.tuple [.int (x : Nat), .int (n : Nat)]])) (ei : σ[i]? = some (some (.ref a))) (ha : H a = some (.tup [.int x, .int n])) (hx : x ≤ 5000) (hn : n ≤ 5000) : EvT K (tl T) (tOp (rNeD K) te (tLst (tCons (tVar i) tNil))) σ H (.bool false) := by
  have key := et_ne h ((etl_lst (ets_cons (et_var ei (dp_tup ha (.cons (.int _) (.cons (.int _) .nil)))) ets_nil)).d) (shaped_pair x n) (shaped_pair x n)
  rw [eqv_pair x n hx hn] at key
  exact key
theorem et_eqP {te : TE} {i x n : Nat} {a : Addr} (h : EvT K (tl T) te σ H (.list [.tuple [.int (x : Nat), .int (n : Nat)]])) (ei : σ[i]? = some (some (.ref a))) (ha : H a = some (.tup [.int x, .int n])) (hx : x ≤ 5000) (hn : n ≤ 5000) : EvT K (tl T) (tOp (rEqD K) te (tLst (tCons (tVar i) tNil))) σ H (.bool true) := by
  have key := et_eq h ((etl_lst (ets_cons (et_var ei (dp_tup ha (.cons (.int _) (.cons (.int _) .nil)))) ets_nil)).d) (shaped_pair x n) (shaped_pair x n)
  rw [eqv_pair x n hx hn] at key
  exact key
end
def sp_law_right (T : Txt K mg) : Sp := fun vs H Q _ => ∃ (v : V) (b x n : Nat) (a : Addr), vs = [v, .int b, .ref a] ∧ H a = some (.tup [.int x, .int n]) ∧ (BN b n ∧ n ≤ 80 ∧ x < n ∧ Nat.gcd x n = 1) ∧ Tabs (tl T) H ∧ ∀ H', ExtN H H' → Tabs (tl T) H' → Q (.bl true) H'
theorem okG_law_right (T : Txt K mg) (B : Tbs T base) : FnG P w K mg base CX0 11 T.d_law_right.f T.d_law_right.fd ["m", "b", "part"] (sp_law_right T) := by
  refine fnGc0 T.d_law_right.F sc_law_right (fun vs H Q E h => ?_) (fun cdv A outer s H vs Q E hcc hgd hr h => ?_)
  · obtain ⟨v, b, x, n, a, rfl, _⟩ := h; rfl
  · have hu := hu_of hr
    have hcode : cdv = .ref T.k_law_right := hcc.symm.trans T.e_law_right
    refine ⟨_, (pss_cons (ps_asg (pe_tup (pa_cons (pe_callB (r := rRepr K) (call_repr hgd (gu_of hr)) (by rfl) T.b_repr (by decide +kernel) (pa_cons (pv 2) pa_nil)) (pa_cons (pe_op op_add_str (pe_op op_add_str (pe_callTy call_str_int (by rfl) T.b_str (by decide +kernel) (pa_cons (pe_ix (r := rIxT K) ix_tup (pv 2) pe_int (fun _ _ => rfl)) pa_nil)) pe_str) (pe_callTy call_str_int (by rfl) T.b_str (by decide +kernel) (pa_cons (pe_ix (r := rIxT K) ix_tup (pv 2) pe_int (fun _ _ => rfl)) pa_nil))) pa_nil))) (pg_tup (by rfl) (pgs_cons (pg_name (i := 3) sc_law_right.nd rfl (by first | exact .inl rfl | exact .inr rfl)) (pgs_cons (pg_name (i := 4) sc_law_right.nd rfl (by first | exact .inl rfl | exact .inr rfl)) pgs_nil))))
      (pss_cons (ps_asg (pe_call (ok_law_spread T) (hr.mono (by decide)) (by rfl) T.d_law_spread.m T.d_law_spread.F.kp T.d_law_spread.b .nil pass0 (pa_cons (pv 1) (pa_cons (pv 2) pa_nil))) (pg_tup (by rfl) (pgs_cons (pg_name (i := 5) sc_law_right.nd rfl (by first | exact .inl rfl | exact .inr rfl)) (pgs_cons (pg_name (i := 6) sc_law_right.nd rfl (by first | exact .inl rfl | exact .inr rfl)) pgs_nil))))
      (pss_cons (ps_set (i := 7) sc_law_right.nd rfl (by first | exact .inl rfl | exact .inr rfl) (pe_call (ok_law_text T) (hr.mono (by decide)) (by rfl) T.d_law_text.m T.d_law_text.F.kp T.d_law_text.b .nil pass0 (pa_cons (pv 5) (pa_cons (pv 6) pa_nil))))
      (pss_cons (ps_set (i := 8) sc_law_right.nd rfl (by first | exact .inl rfl | exact .inr rfl) (pe_lst (pa_cons (pe_call (ok_fraction_text T) (hr.mono (by decide)) (by rfl) T.d_fraction_text.m T.d_fraction_text.F.kp T.d_fraction_text.b .nil pass0 (pa_cons (pv 2) pa_nil)) (pa_cons (pe_call (ok_expansion_text T) (hr.mono (by decide)) (by rfl) T.d_expansion_text.m T.d_expansion_text.F.kp T.d_expansion_text.b .nil pass0 (pa_cons (pv 1) (pa_cons (pv 2) pa_nil))) (pa_cons (pe_call (ok_fraction_text T) (hr.mono (by decide)) (by rfl) T.d_fraction_text.m T.d_fraction_text.F.kp T.d_fraction_text.b .nil pass0 (pa_cons (pv 2) pa_nil)) (pa_cons (pe_call (ok_expansion_text T) (hr.mono (by decide)) (by rfl) T.d_expansion_text.m T.d_expansion_text.F.kp T.d_expansion_text.b .nil pass0 (pa_cons (pv 1) (pa_cons (pv 2) pa_nil))) pa_nil))))))
      (pss_cons (ps_if (PW.pt (pw_or (pt_cmpR op_ne (pe_callB (r := rRepr K) (call_repr hgd (gu_of hr)) (by rfl) T.b_repr (by decide +kernel) (pa_cons (pv 8) pa_nil)) (pe_callB (r := rRepr K) (call_repr hgd (gu_of hr)) (by rfl) T.b_repr (by decide +kernel) (pa_cons (pe_op op_rep (pe_lst (pa_cons (pv 4) (pa_cons (pv 7) pa_nil))) pe_int) pa_nil)) (nomark _)) (pw_or1 (pt_cmpR op_ne (pe_callB (r := rRepr K) (call_repr hgd (gu_of hr)) (by rfl) T.b_repr (by decide +kernel) (pa_cons (pv 2) pa_nil)) (pv 3) (nomark _))))) (pss_one (ps_ret pe_bl)) pss_nil)
      (pss_cons (ps_if (PW.pt (pw_or (pt_cmpR (r := rNeD K) (op_neD hr.units) (pe_outc (T := tl T) (TT := TTout T) (k := 8) (by rfl) T.d_law_outcome.m T.d_law_outcome.F.kp T.d_law_outcome.F rfl T.d_law_outcome.b sc_law_outcome rfl (by first | exact .inl rfl | exact .inr (.inl rfl)) (gives_out T rfl rfl) (fun pins σ H s Q I hT h => lam_plain I (B.tb_law_right) hcode (hm_law_right T) (hu_law_right T) hT rfl (LamD.has (lamD_by (N := ["m", "b", "part", "kept", "own", "head", "ring", "full", "heard", "some", "text", "low"]) (sc := defScope s_law_right) (by decide +kernel)) I.ok) (fun _ _ _ _ _ _ => rfl) h) (hr.mono (by decide)) (lamD_by (N := ["m", "b", "part", "kept", "own", "head", "ring", "full", "heard", "some", "text", "low"]) (sc := defScope s_law_right) (by decide +kernel)) (fun _ _ _ _ _ _ _ hr => (pe_call (ok_read_fraction T) (hr.mono (by decide)) (by rfl) T.d_read_fraction.m T.d_read_fraction.F.kp T.d_read_fraction.b .nil pass0 (pa_cons (pv 4) pa_nil)))) (pe_lst (pa_cons (pv 2) pa_nil)) (nomark _)) (pw_or1 (pt_cmpR (r := rNeD K) (op_neD hr.units) (pe_outc (T := tl T) (TT := TTout T) (k := 8) (by rfl) T.d_law_outcome.m T.d_law_outcome.F.kp T.d_law_outcome.F rfl T.d_law_outcome.b sc_law_outcome rfl (by first | exact .inl rfl | exact .inr (.inl rfl)) (gives_out T rfl rfl) (fun pins σ H s Q I hT h => lam_dflt I (B.tb_law_right) hcode (hm_law_right T) (hu_law_right T) hT rfl rfl (LamD.has (lamD_by (N := ["m", "b", "part", "kept", "own", "head", "ring", "full", "heard", "some", "text", "low"]) (sc := defScope s_law_right) (by decide +kernel)) I.ok) (fun _ _ _ _ _ _ _ _ => ⟨_, rfl, rfl⟩) rfl (fun _ _ z => z) h) (hr.mono (by decide)) (lamD_by (N := ["m", "b", "part", "kept", "own", "head", "ring", "full", "heard", "some", "text", "low"]) (sc := defScope s_law_right) (by decide +kernel)) (fun _ _ _ _ _ _ _ hr => (pe_call (ok_read_fraction T) (hr.mono (by decide)) (by rfl) T.d_read_fraction.m T.d_read_fraction.F.kp T.d_read_fraction.b .nil pass0 (pa_cons (pv 4) pa_nil)))) (pe_lst (pa_cons (pv 2) pa_nil)) (nomark _))))) (pss_one (ps_ret pe_bl)) pss_nil)
      (pss_cons (ps_set (i := 9) sc_law_right.nd rfl (by first | exact .inl rfl | exact .inr rfl) (pe_lst (pa_cons (pv 7) (pa_cons (pe_call (ok_law_text T) (hr.mono (by decide)) (by rfl) T.d_law_text.m T.d_law_text.F.kp T.d_law_text.b .nil pass0 (pa_cons (pe_op (r := rCatA K) op_catA (pv 5) (pv 6)) (pa_cons (pv 6) pa_nil))) (pa_cons (pe_call (ok_law_text T) (hr.mono (by decide)) (by rfl) T.d_law_text.m T.d_law_text.F.kp T.d_law_text.b .nil pass0 (pa_cons (pv 5) (pa_cons (pe_op (r := rRepG K) op_repG (pv 6) pe_int) pa_nil))) (pa_cons (pe_call (ok_law_text T) (hr.mono (by decide)) (by rfl) T.d_law_text.m T.d_law_text.F.kp T.d_law_text.b .nil pass0 (pa_cons (pe_op (r := rCatA K) op_catA (pv 5) (pe_slice (r := rSlA K) sl_tupA (pv 6) po_none (po_some pe_int))) (pa_cons (pe_op (r := rCatA K) op_catA (pe_slice (r := rSlA K) sl_tupA (pv 6) (po_some pe_int) po_none) (pe_slice (r := rSlA K) sl_tupA (pv 6) po_none (po_some pe_int))) pa_nil))) pa_nil))))))
      (pss_cons (ps_for PassesOwn.never rfl (pi_list (pe_op op_cat (pv 9) (pe_slice (r := rSlL K) sl_list (pv 9) po_none (po_some pe_int)))) (pg_name (i := 10) sc_law_right.nd rfl (by first | exact .inl rfl | exact .inr rfl)) (pss_one (ps_if (pt_cmpR (r := rNeD K) (op_neD hr.units) (pe_outc (T := tl T) (TT := TTout T) (k := 8) (by rfl) T.d_law_outcome.m T.d_law_outcome.F.kp T.d_law_outcome.F rfl T.d_law_outcome.b sc_law_outcome rfl (by first | exact .inl rfl | exact .inr (.inl rfl)) (gives_out T rfl rfl) (fun pins σ H s Q I hT h => lam_plain I (B.tb_law_right) hcode (hm_law_right T) (hu_law_right T) hT rfl (LamD.has (lamD_by (N := ["m", "b", "part", "kept", "own", "head", "ring", "full", "heard", "some", "text", "low"]) (sc := defScope s_law_right) (by decide +kernel)) I.ok) (fun _ _ _ _ _ _ => rfl) h) (hr.mono (by decide)) (lamD_by (N := ["m", "b", "part", "kept", "own", "head", "ring", "full", "heard", "some", "text", "low"]) (sc := defScope s_law_right) (by decide +kernel)) (fun _ _ _ _ _ _ _ hr => (pe_call (okX_read_expansion T) (hr.mono (by decide)) (by rfl) T.d_read_expansion.m T.d_read_expansion.F.kp T.d_read_expansion.b .nil (passes_call (takes_of rfl rfl rfl rfl) (fun _ _ _ _ z => z)) (pa_cons (pv 1) (pa_cons (pv 10) pa_nil))))) (pe_lst (pa_cons (pv 2) pa_nil)) (nomark _)) (pss_one (ps_ret pe_bl)) pss_nil)))
      (pss_cons (ps_if (PW.pt (pw_and (pt_cmpR op_gt (pe_ix (r := rIxT K) ix_tup (pv 2) pe_int (fun _ _ => rfl)) pe_int (nomark _)) (pw_and1 (pt_cmpR (r := rEqD K) (op_eqD hr.units) (pv 6) (pe_tup (pa_cons pe_int pa_nil)) (nomark _))))) (pss_cons (ps_set (i := 11) sc_law_right.nd rfl (by first | exact .inl rfl | exact .inr rfl) (pe_op (r := rCatA K) op_catA (pe_slice (r := rSlA K) sl_tupA (pv 5) po_none (po_some (pe_un un_neg pe_int))) (pe_tup (pa_cons (pe_op op_sub (pe_ix (r := rIxT K) ix_tup (pv 5) (pe_un un_neg pe_int) (fun _ _ => rfl)) pe_int) pa_nil))))
      (pss_one (ps_ret (pe_cmpR (r := rEqD K) (op_eqD hr.units) (pe_outc (T := tl T) (TT := TTout T) (k := 8) (by rfl) T.d_law_outcome.m T.d_law_outcome.F.kp T.d_law_outcome.F rfl T.d_law_outcome.b sc_law_outcome rfl (by first | exact .inl rfl | exact .inr (.inl rfl)) (gives_out T rfl rfl) (fun pins σ H s Q I hT h => lam_plain I (B.tb_law_right) hcode (hm_law_right T) (hu_law_right T) hT rfl (LamD.has (lamD_by (N := ["m", "b", "part", "kept", "own", "head", "ring", "full", "heard", "some", "text", "low"]) (sc := defScope s_law_right) (by decide +kernel)) I.ok) (fun _ _ _ _ _ _ => rfl) h) (hr.mono (by decide)) (lamD_by (N := ["m", "b", "part", "kept", "own", "head", "ring", "full", "heard", "some", "text", "low"]) (sc := defScope s_law_right) (by decide +kernel)) (fun _ _ _ _ _ _ _ hr => (pe_call (okX_read_expansion T) (hr.mono (by decide)) (by rfl) T.d_read_expansion.m T.d_read_expansion.F.kp T.d_read_expansion.b .nil (passes_call (takes_of rfl rfl rfl rfl) (fun _ _ _ _ z => z)) (pa_cons (pv 1) (pa_cons (pe_call (ok_law_text T) (hr.mono (by decide)) (by rfl) T.d_law_text.m T.d_law_text.F.kp T.d_law_text.b .nil pass0 (pa_cons (pv 11) (pa_cons (pe_tup (pa_cons (pe_op op_sub (pv 1) pe_int) pa_nil)) pa_nil))) pa_nil))))) (pe_lst (pa_cons (pv 2) pa_nil)) (nomark _))))) pss_nil)
      (pss_one (ps_ret pe_bl))))))))))), ?_⟩
    obtain ⟨v, b, x, n, a, rfl, ha, ⟨hbn, hn8, hx, hg⟩, hT, q⟩ := h
    obtain ⟨hb1, hb2, hn1, hn2⟩ := id hbn
    have sp := sm_pair (show x ≤ 5000 by omega) hn2
    have dp : ∀ {H' : Hp}, H' a = some (.tup [.int x, .int n]) → Dp K H' (.ref a) (.tuple [.int (x : Nat), .int (n : Nat)]) := fun h => dp_tup h (.cons (.int _) (.cons (.int _) .nil))
    obtain ⟨l1, l2, l3⟩ := frS_len x n (by omega) hn2
    refine ⟨_, rfl, _, _, rfl, dp ha, sp.fitsB, ?_⟩
    refine ⟨_, rfl, a, _, 0, .int x, rfl, rfl, sq_tup ha, atI_nat (j := 0) rfl, _, rfl, log_small (by omega), nS x, Str.ofString "/", rfl, rfl, ?_, ?_⟩
    · rw [sl1]
      exact sz40 (by omega)
    refine ⟨_, rfl, a, _, 1, .int n, rfl, rfl, sq_tup ha, atI_nat (j := 1) rfl, _, rfl, log_small hn2, nS x ++ Str.ofString "/", nS n, rfl, rfl, ?_, ?_⟩
    · rw [len_app, sl1]
      exact sz40 (by omega)
    rw [show nS x ++ Str.ofString "/" ++ nS n = frS x n from rfl]
    refine ⟨by show 2 ≤ sizeLine; decide, fun p1 np1 => ⟨p1, _, rfl, sq_tup upd_same, rfl, _, _, rfl, _, _, rfl, rfl, ?_⟩⟩
    have g1 := Gr.new (W := []) (o := .tup [.str (PyData.tuple [.int (x : Nat), .int (n : Nat)]).shown, .str (frS x n)]) np1
    have ha1 := g1 a _ (by simp) ha
    generalize upd H p1 (.tup [.str (PyData.tuple [.int (x : Nat), .int (n : Nat)]).shown, .str (frS x n)]) = H1 at g1 ha1 ⊢
    refine ⟨_, rfl, _, rfl, b, x, n, a, rfl, ha1, ⟨hb2, hn2, hx, hg⟩, fun t H2 p q2 h L P g2 E => ?_⟩
    obtain ⟨a1, a2, e0, e1, e2⟩ := exp_dg E
    refine ⟨t, _, rfl, sq_tup e0, rfl, _, _, rfl, _, _, rfl, rfl, ?_⟩
    have lh := P.hn hn1
    have lL := P.Ln hn1
    have L1 := P.hL.1
    have hr0 : rem b n x (h + L) = rem b n x h := by
      have := par_rem P hn1 hg 0 1 (Nat.le_refl _)
      simpa using this
    have sh : ∀ lo c, ∀ d ∈ dg b n x lo c, d < 1000 := fun lo c d hd => Nat.lt_of_lt_of_le (dg_lt (by omega) hn1 d hd) hb2
    have R1 := rd_of hb1 hb2 hx hg L1 hr0 (by omega) (by omega)
    have R2 : Rd b x n (expS (dg b n x 0 h ++ dg b n x h L) (dg b n x h L)) := by
      have e3 := dg_app (b := b) (n := n) (x := x) (lo := 0) (c := h) (c' := L)
      rw [Nat.zero_add] at e3
      rw [e3, ← dg_shift hr0 L]
      exact rd_of hb1 hb2 hx hg L1 (by have := par_rem P hn1 hg L 1 (Nat.le_refl _); simpa using this) (by omega) (by omega)
    have R3 : Rd b x n (expS (dg b n x 0 h) (List.replicate 2 (dg b n x h L)).flatten) := by
      have e3 := dg_app (b := b) (n := n) (x := x) (lo := h) (c := L) (c' := L)
      rw [dg_shift hr0] at e3
      rw [show (List.replicate 2 (dg b n x h L)).flatten = dg b n x h L ++ dg b n x h L by simp [List.replicate], e3]
      exact rd_of hb1 hb2 hx hg (by omega) (by have := par_rem P hn1 hg 0 2 (by decide); rw [Nat.add_zero, Nat.mul_two] at this; exact this) (by omega) (by omega)
    obtain ⟨d1, d2⟩ := dg_one P hn1 hg
    have R4 : Rd b x n (expS (dg b n x 0 h ++ (dg b n x h L).take 1) ((dg b n x h L).drop 1 ++ (dg b n x h L).take 1)) := by
      rw [d1, d2]
      exact rd_of hb1 hb2 hx hg L1 (by have := par_rem P hn1 hg 1 1 (Nat.le_refl _); simpa using this) (by omega) (by omega)
    obtain ⟨hd, ehd⟩ : ∃ hd, hd = dg b n x 0 h := ⟨_, rfl⟩
    obtain ⟨rg, erg⟩ : ∃ rg, rg = dg b n x h L := ⟨_, rfl⟩
    have lhd : hd.length = h := by rw [ehd, dg_len]
    have lrg : rg.length = L := by rw [erg, dg_len]
    have shd : ∀ d ∈ hd, d < 1000 := by rw [ehd]; exact sh 0 h
    have srg : ∀ d ∈ rg, d < 1000 := by rw [erg]; exact sh h L
    rw [← ehd] at e1 R1 R2 R3 R4
    rw [← erg] at e2 R1 R2 R3 R4
    refine ⟨_, rfl, _, rfl, a1, a2, hd, rg, rfl, e1, e2, shd, srg, ⟨by omega, by omega⟩, fun H3 g3 => ?_⟩
    have ha3 := (g2.trans g3) a _ (by simp) ha1
    refine ⟨_, rfl, a, x, n, rfl, ha3, ⟨hx, hn2, hg⟩, ?_⟩
    refine ⟨_, rfl, _, rfl, b, x, n, a, rfl, ha3, ⟨hbn, hx, hg⟩, fun p' q' h' L' H4 i1 i2 i3 i4 g4 => ?_⟩
    obtain ⟨eh, eL⟩ := Par.two hn1 P ⟨i1, i2, i3, i4⟩
    rw [eh, eL, ← ehd, ← erg]
    have ha4 := g4 a _ (by simp) ha3
    refine ⟨_, rfl, a, x, n, rfl, ha4, ⟨hx, hn2, hg⟩, ?_⟩
    refine ⟨_, rfl, _, rfl, b, x, n, a, rfl, ha4, ⟨hbn, hx, hg⟩, fun p' q' h' L' H5 i1 i2 i3 i4 g5 => ?_⟩
    obtain ⟨eh, eL⟩ := Par.two hn1 P ⟨i1, i2, i3, i4⟩
    rw [eh, eL, ← ehd, ← erg]
    refine ⟨by show 4 ≤ sizeLine; decide, fun p6 np6 => ?_⟩
    have g6 := Gr.new (W := []) (o := .lst [.str (frS x n), .str (expS hd rg), .str (frS x n), .str (expS hd rg)]) np6
    have h6 : (upd H5 p6 (.lst [.str (frS x n), .str (expS hd rg), .str (frS x n), .str (expS hd rg)])) p6 = some (.lst [.str (frS x n), .str (expS hd rg), .str (frS x n), .str (expS hd rg)]) := upd_same
    have ha6 := (g5.trans g6) a _ (by simp) ha4
    have e16 := (((g3.trans g4).trans g5).trans g6) a1 _ (by simp) e1
    have e26 := (((g3.trans g4).trans g5).trans g6) a2 _ (by simp) e2
    have G6 := ((((g1.trans g2).trans g3).trans g4).trans g5).trans g6
    generalize upd H5 p6 (.lst [.str (frS x n), .str (expS hd rg), .str (frS x n), .str (expS hd rg)]) = H6 at g6 h6 ha6 e16 e26 G6 ⊢
    have les : (expS hd rg).length ≤ 700 := by
      have := expS_len shd srg
      omega
    have f4 : Fits (.list [.str (frS x n), .str (expS hd rg), .str (frS x n), .str (expS hd rg)]) := ⟨13, 1, 4 * (700 + 1), Sm.lst (D := 0) (W := 700) 4 (fun d hd' => by
      simp only [List.mem_cons, List.not_mem_nil, or_false] at hd'
      rcases hd' with rfl | rfl | rfl | rfl
      · exact sm_str (frS_128 x n) (by omega)
      · exact sm_str (expS_128 hd rg) les
      · exact sm_str (frS_128 x n) (by omega)
      · exact sm_str (expS_128 hd rg) les) (Nat.le_refl _), by decide, by decide, by decide⟩
    have dS4 : ∀ {H' : Hp}, DpAll K H' [.str (frS x n), .str (expS hd rg), .str (frS x n), .str (expS hd rg)] [.str (frS x n), .str (expS hd rg), .str (frS x n), .str (expS hd rg)] := .cons (.str _) (.cons (.str _) (.cons (.str _) (.cons (.str _) .nil)))
    refine ⟨_, rfl, .ref p6, _, rfl, dp_lst h6 dS4, f4, ?_⟩
    refine ⟨_, rfl, _, rfl, by show 2 ≤ sizeLine; decide, fun l1 nl1 => ⟨l1, 2, _, rfl, rfl, upd_same, by decide, by decide, by show 2 * 2 ≤ sizeLine; decide, fun l2 nl2 => ?_⟩⟩
    have g7 := (Gr.new (W := []) (o := .lst [.str (frS x n), .str (expS hd rg)]) nl1).trans (Gr.new (o := .lst (List.replicate (2 : Int).toNat [V.str (frS x n), .str (expS hd rg)]).flatten) nl2)
    have h7 : (upd (upd H6 l1 (.lst [.str (frS x n), .str (expS hd rg)])) l2 (.lst (List.replicate (2 : Int).toNat [V.str (frS x n), .str (expS hd rg)]).flatten)) l2 = some (.lst [.str (frS x n), .str (expS hd rg), .str (frS x n), .str (expS hd rg)]) := upd_same
    generalize upd (upd H6 l1 (.lst [.str (frS x n), .str (expS hd rg)])) l2 (.lst (List.replicate (2 : Int).toNat [V.str (frS x n), .str (expS hd rg)]).flatten) = H7 at g7 h7 ⊢
    have ha7 := g7 a _ (by simp) ha6
    have e17 := g7 a1 _ (by simp) e16
    have e27 := g7 a2 _ (by simp) e26
    have G7 := G6.trans g7
    refine ⟨.ref l2, _, rfl, dp_lst h7 dS4, f4, rfl, _, rfl, ?_⟩
    rw [ne_self]
    refine iteF ?_
    refine ⟨_, rfl, _, _, rfl, dp ha7, sp.fitsB, _, rfl, rfl, _, rfl, ?_⟩
    rw [ne_self]
    refine iteF ?_
    have t7 := tabsGr hT G7
    have E7 := extOf G7
    clear g1 g2 g3 g4 g5 g6 g7 h6 h7 ha1 ha3 ha4 ha6 e0 e1 e2 e16 e26 G6 G7 E dS4 f4
    refine ttt_orL (K := K) t7 (et_neP (et_rf rfl ⟨hx, hn2, hg⟩) rfl ha7 (by omega) hn2) rfl fun H8 g8 t8 => ?_
    have ha8 := ExtN.tup g8 ha7
    refine ttt_of (K := K) t8 (et_neP (et_rf rfl ⟨hx, hn2, hg⟩) rfl ha8 (by omega) hn2) (ExtN.refl _) fun H9 g9 t9 => iteF ?_
    have ha9 := ExtN.tup g9 ha8
    have e19 := ExtN.tup g9 (ExtN.tup g8 e17)
    have e29 := ExtN.tup g9 (ExtN.tup g8 e27)
    have E9 := (E7.trans g8).trans g9
    clear e17 e27 ha7 ha8 g8 g9 t7 t8 E7
    have lapp : ∀ {u w : List Nat}, u.length ≤ 200 → w.length ≤ 200 → (vn u).length + (vn w).length ≤ 6000 := fun {u w} h1 h2 => by rw [vn_len, vn_len]; omega
    have sapp : ∀ {u w : List Nat}, (∀ d ∈ u, d < 1000) → (∀ d ∈ w, d < 1000) → ∀ d ∈ u ++ w, d < 1000 := fun {u w} h1 h2 d hd' => by
      rcases List.mem_append.mp hd' with z | z
      · exact h1 d z
      · exact h2 d z
    refine ⟨_, rfl, ?_⟩
    refine ⟨_, rfl, _, rfl, catA_of e19 e29 (lapp (by omega) (by omega)) fun c1 Ha ga hc1 => ?_⟩
    rw [← vn_app'] at hc1
    refine ⟨_, rfl, c1, a2, hd ++ rg, rg, rfl, hc1, ga a2 _ (by simp) e29, sapp shd srg, srg, ⟨by rw [List.length_append]; omega, by omega⟩, fun Hb gb => ?_⟩
    have e1b := (ga.trans gb) a1 _ (by simp) e19
    have e2b := (ga.trans gb) a2 _ (by simp) e29
    refine ⟨_, rfl, _, rfl, ?_⟩
    dsimp only [tC]
    refine repT_go (K := K) (z := 2) (k := 2) rfl e2b (by omega) (by decide) fun c2 Hc gc hc2 => ?_
    refine ⟨a1, c2, hd, (List.replicate 2 rg).flatten, rfl, gc a1 _ (by simp) e1b, hc2, shd, (fun d hd' => by
      obtain ⟨l, hl, z⟩ := List.mem_flatten.mp hd'
      rw [List.eq_of_mem_replicate hl] at z
      exact srg d z), ⟨by omega, by rw [List.length_flatten, List.map_replicate, List.sum_replicate_nat]; omega⟩, fun He ge => ?_⟩
    have e1e := (gc.trans ge) a1 _ (by simp) e1b
    have e2e := (gc.trans ge) a2 _ (by simp) e2b
    refine ⟨_, rfl, _, rfl, (1 : Int), rfl, slA_of e2e fun c3 Hf gf hc3 => ?_⟩
    have k1 : cutV (vn rg) none (some (1 : Int)) = vn (rg.take 1) := by
      have z := cut_lo (xs := vn rg) (k := 1) (by rw [vn_len]; omega)
      have e : ((1 : Nat) : Int) = 1 := rfl
      rw [e] at z
      rw [z]
      unfold vn
      rw [List.map_take]
    have k2 : cutV (vn rg) (some (1 : Int)) none = vn (rg.drop 1) := by
      have z := cut_hi (xs := vn rg) (k := 1) (by rw [vn_len]; omega)
      have e : ((1 : Nat) : Int) = 1 := rfl
      rw [e] at z
      rw [z]
      unfold vn
      rw [List.map_drop]
    rw [k1] at hc3
    have lt1 : (rg.take 1).length ≤ 200 := by rw [List.length_take]; omega
    have ld1 : (rg.drop 1).length ≤ 200 := by rw [List.length_drop]; omega
    have st1 : ∀ d ∈ rg.take 1, d < 1000 := fun d hd' => srg d (List.mem_of_mem_take hd')
    have sd1 : ∀ d ∈ rg.drop 1, d < 1000 := fun d hd' => srg d (List.mem_of_mem_drop hd')
    refine catA_of (gf a1 _ (by simp) e1e) hc3 (lapp (by omega) lt1) fun c4 Hg gg hc4 => ?_
    rw [← vn_app'] at hc4
    have e2g := (gf.trans gg) a2 _ (by simp) e2e
    refine ⟨_, rfl, (1 : Int), rfl, ?_⟩
    dsimp only [tNoPart]
    refine slA_of e2g fun c5 Hh gh hc5 => ?_
    rw [k2] at hc5
    refine ⟨_, rfl, (1 : Int), rfl, slA_of (gh a2 _ (by simp) e2g) fun c6 Hi gi hc6 => ?_⟩
    rw [k1] at hc6
    refine catA_of (gi c5 _ (by simp) hc5) hc6 (lapp ld1 lt1) fun c7 Hj gj hc7 => ?_
    rw [← vn_app'] at hc7
    refine ⟨c4, c7, hd ++ rg.take 1, rg.drop 1 ++ rg.take 1, rfl, ((gh.trans gi).trans gj) c4 _ (by simp) hc4, hc7, sapp shd st1, sapp sd1 st1, ⟨by rw [List.length_append]; omega, by rw [List.length_append]; omega⟩, fun Hk gk => ?_⟩
    have G := ((((((((((ga.trans gb).trans gc).trans ge).trans gf).trans gg).trans gh).trans gi).trans gj).trans gk))
    refine ⟨by show 4 ≤ sizeLine; decide, fun pm npm => ?_⟩
    obtain ⟨T4, eT4⟩ : ∃ T4 : List Str, T4 = [expS hd rg, expS (hd ++ rg) rg, expS hd (List.replicate 2 rg).flatten, expS (hd ++ rg.take 1) (rg.drop 1 ++ rg.take 1)] := ⟨_, rfl⟩
    have RT : ∀ s ∈ T4, Rd b x n s := fun s hs => by
      rw [eT4] at hs
      simp only [List.mem_cons, List.not_mem_nil, or_false] at hs
      rcases hs with rfl | rfl | rfl | rfl
      · exact R1
      · exact R2
      · exact R3
      · exact R4
    have gm := Gr.new (W := []) (o := .lst (T4.map V.str)) npm
    have hpm : (upd Hk pm (.lst (T4.map V.str))) pm = some (.lst (T4.map V.str)) := upd_same
    have eL4 : [V.str (expS hd rg), .str (expS (hd ++ rg) rg), .str (expS hd (List.replicate 2 rg).flatten), .str (expS (hd ++ rg.take 1) (rg.drop 1 ++ rg.take 1))] = T4.map V.str := by rw [eT4]; rfl
    have lT4 : T4.length = 4 := by rw [eT4]; rfl
    rw [eL4]
    have Gm := G.trans gm
    generalize upd Hk pm (.lst (T4.map V.str)) = Hm at gm hpm Gm ⊢
    clear ga gb gc ge gf gg gh gi gj gk G gm e1b e2b e1e e2e e2g hc1 hc2 hc3 hc4 hc5 hc6 hc7
    have tm := tabsGr t9 Gm
    have Em := E9.trans (extOf Gm)
    have ham := Gm a _ (by simp) ha9
    have e1m := Gm a1 _ (by simp) e19
    have e2m := Gm a2 _ (by simp) e29
    refine ⟨_, rfl, _, rfl, (1 : Int), rfl, pm, _, rfl, sq_lst hpm, fun p2 np2 => ?_⟩
    have k3 : cutV (T4.map V.str) none (some (1 : Int)) = (T4.take 1).map V.str := by
      have z := cut_lo (xs := T4.map V.str) (k := 1) (by rw [List.length_map]; omega)
      have e : ((1 : Nat) : Int) = 1 := rfl
      rw [e] at z
      rw [z, List.map_take]
    rw [k3]
    refine ⟨pm, p2, _, _, rfl, rfl, (Gr.new (W := []) np2) pm _ (by simp) hpm, upd_same, by rw [List.length_map, List.length_map, List.length_take]; exact sz40 (by omega), fun p3 np3 => ?_⟩
    have g3 := (Gr.new (W := []) (o := .lst ((T4.take 1).map V.str)) np2).trans (Gr.new (o := .lst (T4.map V.str ++ (T4.take 1).map V.str)) np3)
    have h3 : (upd (upd Hm p2 (.lst ((T4.take 1).map V.str))) p3 (.lst (T4.map V.str ++ (T4.take 1).map V.str))) p3 = some (.lst (T4.map V.str ++ (T4.take 1).map V.str)) := upd_same
    generalize upd (upd Hm p2 (.lst ((T4.take 1).map V.str))) p3 (.lst (T4.map V.str ++ (T4.take 1).map V.str)) = Hn at g3 h3 ⊢
    have tn := tabsGr tm g3
    have En := Em.trans (extOf g3)
    have han := g3 a _ (by simp) ham
    have e1n := g3 a1 _ (by simp) e1m
    have e2n := g3 a2 _ (by simp) e2m
    refine ⟨p3, rfl, ⟨_, sq_lst h3⟩, ?_⟩
    refine for_list (K := K) (a := p3) (xs := T4.map V.str ++ (T4.take 1).map V.str) (fun i σ H' => ExtN Hn H' ∧ Tabs (tl T) H' ∧ ∃ v8 v10, σ = [some v, some (.int b), some (.ref a), some (.str (PyData.tuple [.int (x : Nat), .int (n : Nat)]).shown), some (.str (frS x n)), some (.ref a1), some (.ref a2), some (.str (expS hd rg)), v8, some (.ref pm), v10, none]) ⟨ExtN.refl _, tn, _, _, rfl⟩ (fun i σ H' _ z => sq_lst (ExtN.lst z.1 h3)) ?_ ?_
    · rintro i y σ H' hy ⟨e, t', v8, v10, rfl⟩
      obtain ⟨s, rfl, R⟩ : ∃ s, y = .str s ∧ Rd b x n s := by
        have hm := List.mem_of_getElem? hy
        rw [← List.map_append] at hm
        obtain ⟨s, hs, rfl⟩ := List.mem_map.mp hm
        rcases List.mem_append.mp hs with z | z
        · exact ⟨s, rfl, RT s z⟩
        · exact ⟨s, rfl, RT s (List.mem_of_mem_take z)⟩
      refine ttt_of (K := K) t' (et_neP (et_rx rfl rfl R hn2) rfl (ExtN.tup e han) (by omega) hn2) (ExtN.refl _) fun H2 g2 t2 => iteF ?_
      exact ⟨e.trans g2, t2, _, _, rfl⟩
    rintro σ Ho ⟨e, t', v8, v10, rfl⟩
    have hao := ExtN.tup e han
    have e1o := ExtN.tup e e1n
    have e2o := ExtN.tup e e2n
    have Eo := En.trans e
    refine ⟨_, rfl, a, _, 0, .int x, rfl, rfl, sq_tup hao, atI_nat (j := 0) rfl, _, _, rfl, rfl, _, rfl, ?_⟩
    by_cases hx0 : 0 < x
    case neg =>
      exact iteFb (decide_eq_false (by omega)) (iteF (q Ho Eo t'))
    case pos =>
    refine iteTb (decide_eq_true (by omega)) ?_
    refine ⟨_, rfl, by show 1 ≤ sizeLine; decide, fun pz npz => ?_⟩
    have gz := Gr.new (W := []) (o := .tup [.int 0]) npz
    have e2z := gz a2 _ (by simp) e2o
    obtain ⟨y1, y2⟩ := lay_ints2 (ni rg)
    have shp : SeqAt.shaped (di rg) = true := shaped_intsT (ni rg)
    refine ⟨di rg, .tuple [.int 0], dp_vnT e2z, dp_tup upd_same (.cons (.int _) .nil), shp, rfl, _, rfl, ?_⟩
    rw [eqv_ring]
    have tz := tabsGr t' gz
    have Ez := Eo.trans (extOf gz)
    have haz := gz a _ (by simp) hao
    have e1z := gz a1 _ (by simp) e1o
    generalize upd Ho pz (.tup [.int 0]) = Hz at gz e2z tz Ez haz e1z ⊢
    by_cases hrg : rg = [0]
    case neg => exact iteFb (decide_eq_false hrg) (q Hz Ez tz)
    case pos =>
    refine iteTb (decide_eq_true hrg) ?_
    obtain ⟨h1, d, ed, hd1, hdb, RL⟩ := low_ok P hb1 hb2 (by omega) hx hg hx0 (erg.symm.trans hrg)
    rw [← ehd] at ed
    obtain ⟨hl, ehl⟩ : ∃ hl, hl = dg b n x 0 (h - 1) := ⟨_, rfl⟩
    rw [← ehl] at ed RL
    have lhl : hl.length ≤ 100 := by rw [ehl, dg_len]; omega
    have evn : vn hd = vn hl ++ [.int (d : Nat)] := by rw [ed, vn_app']; rfl
    rw [evn] at e1z
    have shl : ∀ y ∈ hl, y < 1000 := by rw [ehl]; exact sh 0 (h - 1)
    refine ⟨_, rfl, 1, rfl, (-1 : Int), rfl, slA_of e1z fun c1 H2 g2 hc1 => ?_⟩
    rw [cut_last] at hc1
    refine ⟨_, rfl, 1, rfl, a1, _, (-1 : Int), .int (d : Nat), rfl, rfl, sq_tup (g2 a1 _ (by simp) e1z), atI_last _ _, _, _, rfl, rfl, by show 1 ≤ sizeLine; decide, fun pd npd => ?_⟩
    have ed1 : ((d : Nat) : Int) - 1 = ((d - 1 : Nat) : Int) := by omega
    dsimp only
    rw [ed1]
    have g3' := Gr.new (W := []) (o := .tup [.int ((d - 1 : Nat) : Int)]) npd
    refine catA_of (g3' c1 _ (by simp) hc1) (upd_same : (upd H2 pd (.tup [.int ((d - 1 : Nat) : Int)])) pd = _) (by rw [vn_len]; show hl.length + 1 ≤ 6000; omega) fun c2 H4 g4 hc2 => ?_
    have hc2' : H4 c2 = some (.tup (vn (hl ++ [d - 1]))) := by
      rw [hc2, vn_app']
      rfl
    have G4 := (g2.trans g3').trans g4
    have t4 := tabsGr tz G4
    have E4 := Ez.trans (extOf G4)
    have ha4 := G4 a _ (by simp) haz
    refine stt_retB (K := K) (b := true) t4 (et_eqP ?ev rfl ha4 (by omega) hn2) fun H5 g5 t5 => q H5 (E4.trans g5) t5
    case ev =>
      refine et_outV fun E H1 e Q q => ?_
      refine ⟨_, rfl, _, rfl, _, rfl, _, _, rfl, rfl, by show 1 ≤ sizeLine; decide, fun pw npw => ?_⟩
      have eb1 : ((b : Nat) : Int) - 1 = ((b - 1 : Nat) : Int) := by omega
      dsimp only
      rw [eb1]
      have gw := Gr.new (W := []) (o := .tup [.int ((b - 1 : Nat) : Int)]) npw
      refine ⟨c2, pw, hl ++ [d - 1], [b - 1], rfl, gw c2 _ (by simp) (ExtN.tup e hc2'), upd_same, sapp shl (fun y hy => by rw [List.mem_singleton] at hy; omega), (fun y hy => by rw [List.mem_singleton] at hy; omega), ⟨by rw [List.length_append]; show hl.length + 1 ≤ 5000; omega, by show 1 ≤ 5000; decide⟩, fun H6 g6 => ?_⟩
      exact rd_go RL hn2 fun t H7 g7 ht => q _ H7 ((gw.trans g6).trans g7) (dp_tup ht (.cons (.int _) (.cons (.int _) .nil)))

end
end Wn
namespace Wn
open PySem PySem.Spec PyProof.Rows L2
open LamX (Tabs ExtN tLam)
local macro_rules | `(tactic| walk_at "vc") => `(tactic| simp only [cxK, cxK2, start1, start2, start3, tRet, tRetN, tSeq, tNext, tIfS, tAsg, gName, tDrop, tVar, tC, tOp, tUn, tTest, tB, tNot, tAnd, tOr, tAndV, tOrV, tNotV, tIf, tCons, tNil, tCB, tCall, tChain, tAug, ipI, rI, rI0, rU, rIs, rGcd, rEq, rNe, scal,
  List.getElem?_cons_zero, List.getElem?_cons_succ, List.set_cons_zero, List.set_cons_succ, Option.some.injEq, List.cons.injEq, V.int.injEq, V.bl.injEq, V.ref.injEq, V.str.injEq, and_true, true_and, exists_eq_left, exists_eq_left', exists_and_left, exists_and_right, List.append_nil, List.nil_append, List.cons_append, exists_eq_right, exists_eq_right', and_assoc, exists_const, V.ty.injEq, ↓reduceIte, Bool.false_eq_true, Bool.not_true, Bool.not_false, decide_eq_true_eq])

section
variable {P : Program} {w : World} {K : PySem.W.Frag} {mg : Str → Option Value} {base : Heap}
def perB (b p d : Nat) : Bool := decide (1 ≤ d) && b ^ d % p == 1 % p && (List.range d).all fun j => j == 0 || b ^ j % p != 1 % p
theorem per_of {b p d : Nat} (h : perB b p d = true) : IsPer b p d := by
  unfold perB at h
  rw [Bool.and_eq_true, Bool.and_eq_true, decide_eq_true_eq, beq_iff_eq, List.all_eq_true] at h
  obtain ⟨⟨h1, h2⟩, h3⟩ := h
  refine ⟨h1, h2, fun j j1 jd => ?_⟩
  have := h3 j (List.mem_range.mpr jd)
  rw [Bool.or_eq_true, beq_iff_eq, bne_iff_ne] at this
  rcases this with z | z
  · omega
  · exact z
def headB (b q h : Nat) : Bool := b ^ h % q == 0 && (List.range h).all fun j => b ^ j % q != 0
theorem head_of {b q h : Nat} (e : headB b q h = true) : IsHead b q h := by
  unfold headB at e
  rw [Bool.and_eq_true, beq_iff_eq, List.all_eq_true] at e
  refine ⟨e.1, fun j jd => ?_⟩
  have := e.2 j (List.mem_range.mpr jd)
  rw [bne_iff_ne] at this
  exact this
def parB (b n p q h L : Nat) : Bool := Nat.gcd b p == 1 && n == p * q && b ^ h % q == 0 && headB b q h && perB b p L
theorem par_of {b n p q h L : Nat} (e : parB b n p q h L = true) : Par b n p q h L := by
  unfold parB at e
  rw [Bool.and_eq_true, Bool.and_eq_true, Bool.and_eq_true, Bool.and_eq_true, beq_iff_eq, beq_iff_eq, beq_iff_eq] at e
  obtain ⟨⟨⟨⟨h1, h2⟩, h3⟩, h4⟩, h5⟩ := e
  exact ⟨⟨h1, q, h, h2, Nat.dvd_of_mod_eq_zero h3⟩, h2, head_of h4, per_of h5⟩
theorem MOk.ext {H H' : Hp} {d : Addr} {n : Nat} (h : MOk H d n) (g : ExtN H H') : MOk H' d n := by
  obtain ⟨c, xs, l, s, h1, h2, h3⟩ := h
  exact ⟨c, xs, l, s, g _ _ h1 (fun _ z => by cases z), g _ _ h2 (fun _ z => by cases z), h3⟩
theorem MOk.isK {H : Hp} {d : Addr} {n : Nat} (M : MOk H d n) : ∃ kvs, H d = some (.dK kvs) := by
  obtain ⟨_, _, _, _, z, _⟩ := M
  exact ⟨_, z⟩
theorem ev_to {K : PySem.W.Frag} {σ : L2.St} {H : Hp} {te : TE} {d e : PyData} (h : EvD K te σ H d) (z : d = e) : EvD K te σ H e := z ▸ h
theorem et_to {K : PySem.W.Frag} {T : List (Addr × Str)} {σ : L2.St} {H : Hp} {te : TE} {d e : PyData} (h : EvT K T te σ H d) (z : d = e) : EvT K T te σ H e := z ▸ h
theorem ev_neS {K : PySem.W.Frag} {σ : L2.St} {H : Hp} {ta tb : TE} {x y : Str} (h1 : EvD K ta σ H (.str x)) (h2 : EvD K tb σ H (.str y)) : EvD K (tOp rNe ta tb) σ H (.bool (!decide (x = y))) := fun H1 g Q q =>
  h1 H1 g _ fun v H2 g2 a => h2 H2 (g.trans g2) _ fun w H3 g3 b => by
    have e1 : v = .str x := by cases a; rfl
    have e2 : w = .str y := by cases b; rfl
    subst e1 e2
    refine ⟨rfl, ?_⟩
    have e3 : decide (V.str x = V.str y) = decide (x = y) := by
      rw [decide_eq_decide]
      exact ⟨fun z => V.str.inj z, fun z => by rw [z]⟩
    show Q (.bl (!decide (V.str x = V.str y))) H3
    rw [e3]
    exact q _ H3 (g2.trans g3) (.bl _)
section
variable {T : Txt K mg} {σ : L2.St} {H : Hp}
theorem ev_xt {b n p q h L x : Nat} {bz xz nz : Int} (P : Par b n p q h L) (eb : bz = (b : Nat)) (ex : xz = (x : Nat)) (en : nz = (n : Nat)) (g : BN b n) (hx : x < n) (gx : Nat.gcd x n = 1) :
    EvD K (tCall sp_expansion_text [] E0 (tCons (tC (.int bz)) (tCons (tTup (tCons (tC (.int xz)) (tCons (tC (.int nz)) tNil))) tNil))) σ H (.str (expS (dg b n x 0 h) (dg b n x h L))) := fun H1 _ Q q0 => by
  subst eb ex en
  refine ⟨by show 2 ≤ sizeLine; decide, fun a na => ⟨b, x, n, a, rfl, upd_same, ⟨g, hx, gx⟩, fun p' q' h' L' H2 i1 i2 i3 i4 g2 => ?_⟩⟩
  obtain ⟨e1, e2⟩ := Par.two g.2.2.1 P ⟨i1, i2, i3, i4⟩
  rw [e1, e2]
  exact q0 _ H2 ((Gr.new na).trans g2) (.str _)
theorem ev_ft {x n : Nat} {xz nz : Int} (ex : xz = (x : Nat)) (en : nz = (n : Nat)) (h : x < n ∧ n ≤ 5000 ∧ Nat.gcd x n = 1) :
    EvD K (tCall sp_fraction_text [] E0 (tCons (tTup (tCons (tC (.int xz)) (tCons (tC (.int nz)) tNil))) tNil)) σ H (.str (frS x n)) := fun H1 _ Q q0 => by
  subst ex en
  exact ⟨by show 2 ≤ sizeLine; decide, fun a na => ⟨a, x, n, rfl, upd_same, h, q0 _ _ (Gr.new na) (.str _)⟩⟩
theorem ev_rd {E : XK} {b x n : Nat} {bz : Int} {s : Str} (R : Rd b x n s) (eb : bz = (b : Nat)) (hn : n ≤ 5000) : EvD K (tCall (sp_read_expansion T) [] E (tCons (tC (.int bz)) (tCons (tC (.str s)) tNil))) σ H (.tuple [.int (x : Nat), .int (n : Nat)]) := fun H1 _ Q q => by
  subst eb
  exact rd_go R hn fun t H2 g2 ht => q _ H2 g2 (dp_tup ht (.cons (.int _) (.cons (.int _) .nil)))
theorem et_rd {b x n : Nat} {bz : Int} {s : Str} (R : Rd b x n s) (eb : bz = (b : Nat)) (hn : n ≤ 5000) :
    EvT K (tl T) (tLam (tl T) (TTout T) (fun E => tCall (sp_read_expansion T) [] E (tCons (tC (.int bz)) (tCons (tC (.str s)) tNil)))) σ H (.list [.tuple [.int (x : Nat), .int (n : Nat)]]) :=
  et_outV fun E H1 e Q q => ev_rd R eb hn H1 (Gr.refl _ _) Q q
theorem et_rfc {x n : Nat} {s : Str} (es : s = frS x n) (h : x < n ∧ n ≤ 5000 ∧ Nat.gcd x n = 1) :
    EvT K (tl T) (tLam (tl T) (TTout T) (fun E => tCall sp_read_fraction [] E (tCons (tC (.str s)) tNil))) σ H (.list [.tuple [.int (x : Nat), .int (n : Nat)]]) := by
  subst es
  exact et_outV fun E H1 e Q q => ⟨x, n, rfl, h, fun t nt => q _ _ (Gr.new nt) (dp_tup upd_same (.cons (.int _) (.cons (.int _) .nil)))⟩
theorem et_no {b : Nat} {bz : Int} {s : Str} {h g : List Nat} (es : s = expS h g) (eb : bz = (b : Nat)) (hh : DH b h) (hD : DG b g) (e : frN b h g = frD b h g) :
    EvT K (tl T) (tLam (tl T) (TTout T) (fun E => tCall (sp_read_expansion T) [] E (tCons (tC (.int bz)) (tCons (tC (.str s)) tNil)))) σ H (.tuple [.str "nothing", di g]) := by
  subst es eb
  exact et_outX (f := "value") (w := "nothing") (C := T.C_Nothing) (by unfold errs; simp) fun E H1 _ Q k => ⟨b, h, g, rfl, hh, hD, fun _ H2 d c g2 hc hd => k d _ H2 g2 hd (dp_vnT hc), (fun z => absurd e z), fun z => absurd e z⟩
theorem et_gr {b : Nat} {bz : Int} {s : Str} {h g : List Nat} (es : s = expS h g) (eb : bz = (b : Nat)) (hh : DH b h) (hD : DG b g) (e : frN b h g ≠ frD b h g) (e5 : 5000 < (frF b h g).2) :
    EvT K (tl T) (tLam (tl T) (TTout T) (fun E => tCall (sp_read_expansion T) [] E (tCons (tC (.int bz)) (tCons (tC (.str s)) tNil)))) σ H (.tuple [.str "great", .int 5000]) := by
  subst es eb
  exact et_outX (f := "most") (w := "great") (C := T.C_TooGreat) (by unfold errs; simp) fun E H1 _ Q k => ⟨b, h, g, rfl, hh, hD, (fun z => absurd z e), fun _ _ H2 d g2 hd => k d _ H2 g2 hd (.int _), fun _ z => absurd z (by omega)⟩
end
theorem rd1 : Rd 10 0 1 (Str.ofString "( 0 )") := ⟨[], [0], by decide +kernel, ⟨by decide, by decide⟩, ⟨⟨by decide, by decide⟩, by decide, by decide⟩, by decide +kernel, by decide +kernel⟩
theorem rd2 : Rd 10 1 2 (Str.ofString "4 ( 9 )") := ⟨[4], [9], by decide +kernel, ⟨by decide, by decide⟩, ⟨⟨by decide, by decide⟩, by decide, by decide⟩, by decide +kernel, by decide +kernel⟩
theorem rd3 : Rd 2 1 6 (Str.ofString "0 ( 0 1 )") := ⟨[0], [0, 1], by decide +kernel, ⟨by decide, by decide⟩, ⟨⟨by decide, by decide⟩, by decide, by decide⟩, by decide +kernel, by decide +kernel⟩
theorem rd4 : Rd 1000 1 7 (Str.ofString "( 142 857 )") := ⟨[], [142, 857], by decide +kernel, ⟨by decide, by decide⟩, ⟨⟨by decide, by decide⟩, by decide, by decide⟩, by decide +kernel, by decide +kernel⟩
def sp_law (T : Txt K mg) : Sp := fun vs H Q _ => ∃ (a : Addr) (ns : List Int), vs = [.ref a] ∧ Tabs (tl T) H ∧ SqL K H a (ns.map V.int) ∧ ns.length ≤ 63 ∧ ∀ H', Q (.bl true) H'
theorem okG_law (T : Txt K mg) (B : Tbs T base) : FnG P w K mg base CX0 12 T.d_law.f T.d_law.fd ["script"] (sp_law T) := by
  refine fnGc0 T.d_law.F sc_law (fun vs H Q E h => ?_) (fun cdv A outer s H vs Q E hcc hgd hr h => ?_)
  · obtain ⟨a, ns, rfl, _⟩ := h; rfl
  · have hu := hu_of hr
    have hcode : cdv = .ref T.k_law := hcc.symm.trans T.e_law
    refine ⟨_, (pss_cons (ps_set (i := 1) sc_law.nd rfl (by first | exact .inl rfl | exact .inr rfl) (pe_call (ok_law_begun T) (hr.mono (by decide)) (by rfl) T.d_law_begun.m T.d_law_begun.F.kp T.d_law_begun.b .nil pass0 (pa_cons (pv 0) pa_nil)))
      (pss_cons (ps_for PassesOwn.never rfl (pi_range1 (by rfl) T.b_range (pa_cons (pe_op op_add pe_int (pe_callB (call_min2 rfl) (by rfl) T.b_min (by decide +kernel) (pa_cons (pe_callB (r := rLn K) call_ln (by rfl) T.b_len PySem.boot_len (pa_cons (pv 0) pa_nil)) (pa_cons pe_int pa_nil)))) pa_nil)) (pg_name (i := 2) sc_law.nd rfl (by first | exact .inl rfl | exact .inr rfl)) (pss_one (ps_if (PW.pt (pw_or (pt_not (pt_val (pe_callG hgd (okG_law_right T B) (hr.mono (by decide)) (by rfl) T.d_law_right.m T.d_law_right.F.kp T.d_law_right.b .nil pass0 (pa_cons (pv 1) (pa_cons (pe_call (ok_law_base T) (hr.mono (by decide)) (by rfl) T.d_law_base.m T.d_law_base.F.kp T.d_law_base.b .nil pass0 (pa_cons (pv 1) pa_nil)) (pa_cons (pe_call (ok_law_part T) (hr.mono (by decide)) (by rfl) T.d_law_part.m T.d_law_part.F.kp T.d_law_part.b .nil pass0 (pa_cons (pv 1) (pa_cons pe_int pa_nil))) pa_nil)))))) (pw_or1 (pt_not (pt_val (pe_callG hgd (okG_law_right T B) (hr.mono (by decide)) (by rfl) T.d_law_right.m T.d_law_right.F.kp T.d_law_right.b .nil pass0 (pa_cons (pv 1) (pa_cons pe_int (pa_cons (pe_call (ok_law_of T) (hr.mono (by decide)) (by rfl) T.d_law_of.m T.d_law_of.F.kp T.d_law_of.b .nil pass0 (pa_cons (pv 1) (pa_cons (pe_lst (pa_cons (pe_tup (pa_cons pe_int (pa_cons pe_int pa_nil))) (pa_cons (pe_tup (pa_cons pe_int (pa_cons pe_int pa_nil))) pa_nil))) pa_nil))) pa_nil))))))))) (pss_one (ps_ret pe_bl)) pss_nil)))
      (pss_cons (ps_set (i := 3) sc_law.nd rfl (by first | exact .inl rfl | exact .inr rfl) (pe_lst (pa_cons (pe_call (ok_expansion_text T) (hr.mono (by decide)) (by rfl) T.d_expansion_text.m T.d_expansion_text.F.kp T.d_expansion_text.b .nil pass0 (pa_cons pe_int (pa_cons (pe_tup (pa_cons pe_int (pa_cons pe_int pa_nil))) pa_nil))) (pa_cons (pe_call (ok_expansion_text T) (hr.mono (by decide)) (by rfl) T.d_expansion_text.m T.d_expansion_text.F.kp T.d_expansion_text.b .nil pass0 (pa_cons pe_int (pa_cons (pe_tup (pa_cons pe_int (pa_cons pe_int pa_nil))) pa_nil))) (pa_cons (pe_call (ok_expansion_text T) (hr.mono (by decide)) (by rfl) T.d_expansion_text.m T.d_expansion_text.F.kp T.d_expansion_text.b .nil pass0 (pa_cons pe_int (pa_cons (pe_tup (pa_cons pe_int (pa_cons pe_int pa_nil))) pa_nil))) (pa_cons (pe_call (ok_expansion_text T) (hr.mono (by decide)) (by rfl) T.d_expansion_text.m T.d_expansion_text.F.kp T.d_expansion_text.b .nil pass0 (pa_cons pe_int (pa_cons (pe_tup (pa_cons pe_int (pa_cons pe_int pa_nil))) pa_nil))) pa_nil))))))
      (pss_cons (ps_if (PW.pt (pw_or (pt_cmpR (r := rNeD K) (op_neD hr.units) (pv 3) (pe_lst (pa_cons pe_str (pa_cons pe_str (pa_cons pe_str (pa_cons pe_str pa_nil))))) (nomark _)) (pw_or1 (pt_cmpR op_ne (pe_call (ok_fraction_text T) (hr.mono (by decide)) (by rfl) T.d_fraction_text.m T.d_fraction_text.F.kp T.d_fraction_text.b .nil pass0 (pa_cons (pe_tup (pa_cons pe_int (pa_cons pe_int pa_nil))) pa_nil)) pe_str (nomark _))))) (pss_one (ps_ret pe_bl)) pss_nil)
      (pss_cons (ps_set (i := 3) sc_law.nd rfl (by first | exact .inl rfl | exact .inr rfl) (pe_lst (pa_cons (pe_call (okX_read_expansion T) (hr.mono (by decide)) (by rfl) T.d_read_expansion.m T.d_read_expansion.F.kp T.d_read_expansion.b .nil (passes_call takes0 (fun _ _ _ _ z => z)) (pa_cons pe_int (pa_cons pe_str pa_nil))) (pa_cons (pe_call (okX_read_expansion T) (hr.mono (by decide)) (by rfl) T.d_read_expansion.m T.d_read_expansion.F.kp T.d_read_expansion.b .nil (passes_call takes0 (fun _ _ _ _ z => z)) (pa_cons pe_int (pa_cons pe_str pa_nil))) (pa_cons (pe_call (okX_read_expansion T) (hr.mono (by decide)) (by rfl) T.d_read_expansion.m T.d_read_expansion.F.kp T.d_read_expansion.b .nil (passes_call takes0 (fun _ _ _ _ z => z)) (pa_cons pe_int (pa_cons pe_str pa_nil))) pa_nil)))))
      (pss_cons (ps_if (PW.pt (pw_or (pt_cmpR (r := rNeD K) (op_neD hr.units) (pv 3) (pe_lst (pa_cons (pe_tup (pa_cons pe_int (pa_cons pe_int pa_nil))) (pa_cons (pe_tup (pa_cons pe_int (pa_cons pe_int pa_nil))) (pa_cons (pe_tup (pa_cons pe_int (pa_cons pe_int pa_nil))) pa_nil)))) (nomark _)) (pw_or1 (pt_cmpR (r := rNeD K) (op_neD hr.units) (pe_outc (T := tl T) (TT := TTout T) (k := 8) (by rfl) T.d_law_outcome.m T.d_law_outcome.F.kp T.d_law_outcome.F rfl T.d_law_outcome.b sc_law_outcome rfl (by first | exact .inl rfl | exact .inr (.inl rfl)) (gives_out T rfl rfl) (fun pins σ H s Q I hT h => lam_plain I (B.tb_law) hcode (hm_law T) (hu_law T) hT rfl (LamD.has (lamD_by (N := ["script", "m", "lap", "heard"]) (sc := defScope s_law) (by decide +kernel)) I.ok) (fun _ _ _ _ _ _ => rfl) h) (hr.mono (by decide)) (lamD_by (N := ["script", "m", "lap", "heard"]) (sc := defScope s_law) (by decide +kernel)) (fun _ _ _ _ _ _ _ hr => (pe_call (ok_read_fraction T) (hr.mono (by decide)) (by rfl) T.d_read_fraction.m T.d_read_fraction.F.kp T.d_read_fraction.b .nil pass0 (pa_cons pe_str pa_nil)))) (pe_lst (pa_cons (pe_tup (pa_cons pe_int (pa_cons pe_int pa_nil))) pa_nil)) (nomark _))))) (pss_one (ps_ret pe_bl)) pss_nil)
      (pss_cons (ps_if (pt_cmpR (r := rNeD K) (op_neD hr.units) (pe_outc (T := tl T) (TT := TTout T) (k := 8) (by rfl) T.d_law_outcome.m T.d_law_outcome.F.kp T.d_law_outcome.F rfl T.d_law_outcome.b sc_law_outcome rfl (by first | exact .inl rfl | exact .inr (.inl rfl)) (gives_out T rfl rfl) (fun pins σ H s Q I hT h => lam_plain I (B.tb_law) hcode (hm_law T) (hu_law T) hT rfl (LamD.has (lamD_by (N := ["script", "m", "lap", "heard"]) (sc := defScope s_law) (by decide +kernel)) I.ok) (fun _ _ _ _ _ _ => rfl) h) (hr.mono (by decide)) (lamD_by (N := ["script", "m", "lap", "heard"]) (sc := defScope s_law) (by decide +kernel)) (fun _ _ _ _ _ _ _ hr => (pe_call (okX_read_expansion T) (hr.mono (by decide)) (by rfl) T.d_read_expansion.m T.d_read_expansion.F.kp T.d_read_expansion.b .nil (passes_call (takes_of rfl rfl rfl rfl) (fun _ _ _ _ z => z)) (pa_cons pe_int (pa_cons pe_str pa_nil))))) (pe_lst (pa_cons (pe_tup (pa_cons pe_int (pa_cons pe_int pa_nil))) pa_nil)) (nomark _)) (pss_one (ps_ret pe_bl)) pss_nil)
      (pss_cons (ps_set (i := 3) sc_law.nd rfl (by first | exact .inl rfl | exact .inr rfl) (pe_lst (pa_cons (pe_outc (T := tl T) (TT := TTout T) (k := 8) (by rfl) T.d_law_outcome.m T.d_law_outcome.F.kp T.d_law_outcome.F rfl T.d_law_outcome.b sc_law_outcome rfl (by first | exact .inl rfl | exact .inr (.inl rfl)) (gives_out T rfl rfl) (fun pins σ H s Q I hT h => lam_plain I (B.tb_law) hcode (hm_law T) (hu_law T) hT rfl (LamD.has (lamD_by (N := ["script", "m", "lap", "heard"]) (sc := defScope s_law) (by decide +kernel)) I.ok) (fun _ _ _ _ _ _ => rfl) h) (hr.mono (by decide)) (lamD_by (N := ["script", "m", "lap", "heard"]) (sc := defScope s_law) (by decide +kernel)) (fun _ _ _ _ _ _ _ hr => (pe_call (okX_read_expansion T) (hr.mono (by decide)) (by rfl) T.d_read_expansion.m T.d_read_expansion.F.kp T.d_read_expansion.b .nil (passes_call (takes_of rfl rfl rfl rfl) (fun _ _ _ _ z => z)) (pa_cons pe_int (pa_cons pe_str pa_nil))))) (pa_cons (pe_outc (T := tl T) (TT := TTout T) (k := 8) (by rfl) T.d_law_outcome.m T.d_law_outcome.F.kp T.d_law_outcome.F rfl T.d_law_outcome.b sc_law_outcome rfl (by first | exact .inl rfl | exact .inr (.inl rfl)) (gives_out T rfl rfl) (fun pins σ H s Q I hT h => lam_dflt I (B.tb_law) hcode (hm_law T) (hu_law T) hT rfl rfl (LamD.has (lamD_by (N := ["script", "m", "lap", "heard"]) (sc := defScope s_law) (by decide +kernel)) I.ok) (fun _ _ _ _ _ _ _ _ => ⟨_, rfl, rfl⟩) rfl (fun _ _ z => z) h) (hr.mono (by decide)) (lamD_by (N := ["script", "m", "lap", "heard"]) (sc := defScope s_law) (by decide +kernel)) (fun _ _ _ _ _ _ _ hr => (pe_call (okX_read_expansion T) (hr.mono (by decide)) (by rfl) T.d_read_expansion.m T.d_read_expansion.F.kp T.d_read_expansion.b .nil (passes_call (takes_of rfl rfl rfl rfl) (fun _ _ _ _ z => z)) (pa_cons pe_int (pa_cons pe_str pa_nil))))) pa_nil))))
      (pss_one (ps_ret (pe_cmpR (r := rEqD K) (op_eqD hr.units) (pv 3) (pe_lst (pa_cons (pe_tup (pa_cons pe_str (pa_cons (pe_tup (pa_cons pe_int pa_nil)) pa_nil))) (pa_cons (pe_tup (pa_cons pe_str (pa_cons pe_int pa_nil))) pa_nil))) (nomark _)))))))))))), ?_⟩
    obtain ⟨a, ns, rfl, hT, hS, hn, q⟩ := h
    refine ⟨_, rfl, a, ns, rfl, hS, hn, fun d H1 g1 M1 => ?_⟩
    have t1 := tabsGr hT g1
    refine ⟨_, rfl, a, _, rfl, .inl ((Kp.of g1).sqL hS), _, _, rfl, ?_⟩
    rw [List.length_map]
    obtain ⟨N, eN, hN⟩ : ∃ N : Nat, (8 : Int) + (if (10 : Int) < (ns.length : Int) then (10 : Int) else (ns.length : Int)) = (N : Int) ∧ N ≤ 60 := by
      split
      · exact ⟨18, rfl, by decide⟩
      · exact ⟨8 + ns.length, by omega, by omega⟩
    refine ⟨_, _, rfl, rfl, ?_⟩
    refine ⟨(N : Int), congrArg (fun z => [V.int z]) eN, by omega, by omega, ?_⟩
    refine for_range (lo := 0) (n := ((N : Int)).toNat) (fun i σ H' => Tabs (tl T) H' ∧ ∃ k, k ≤ 200 * i ∧ MOk H' d k ∧ ∃ v2, σ = [some (.ref a), some (.ref d), v2, none]) ⟨t1, 0, by omega, M1, none, ?_⟩ ?_ ?_
    · rfl
    · rintro i σ H2 hi ⟨t2, k, hk, M2, v2, rfl⟩
      have hi24 : i < 60 := by
        rw [Int.toNat_natCast] at hi
        omega
      refine ⟨_, rfl, _, rfl, d, k, rfl, M2, by omega, fun b H3 hb1 hb2 g3 M3 => ?_⟩
      refine ⟨_, rfl, d, 80, k + 3, rfl, M3, ⟨by omega, by omega, by omega⟩, fun pa x n H4 hp hx hn8 hg g4 M4 => ?_⟩
      have t4 : Tabs (tl T) H4 := tabsGrM t2 (g3.trans g4) M2.isK
      refine ⟨.ref d, b, x, n, pa, rfl, hp, ⟨⟨hb1, hb2, by omega, by omega⟩, hn8, hx, hg⟩, t4, fun H5 e5 t5 => ⟨_, rfl, iteF ?_⟩⟩
      have M5 := M4.ext e5
      refine ⟨_, rfl, _, rfl, by show 2 ≤ sizeLine; decide, fun p1 np1 => ⟨by show 2 ≤ sizeLine; decide, fun p2 np2 => ⟨by show 2 ≤ sizeLine; decide, fun p3 np3 => ?_⟩⟩⟩
      have h1 := ((Gr.new (W := []) (o := .tup [.int 7, .int 20]) np2).trans (Gr.new (o := .lst [.ref p1, .ref p2]) np3)) p1 _ (by simp) upd_same
      have h2 := (Gr.new (W := []) (o := .lst [.ref p1, .ref p2]) np3) p2 _ (by simp) upd_same
      have g6 := ((Gr.new (W := []) (o := .tup [.int 1, .int 8]) np1).trans (Gr.new (o := .tup [.int 7, .int 20]) np2)).trans (Gr.new (o := .lst [.ref p1, .ref p2]) np3)
      have M6 := M5.gr g6
      have t6 := tabsGr t5 g6
      refine ⟨d, p3, k + 3 + 2, _, rfl, M6, upd_same, ⟨by simp, by show 2 ≤ 100000; decide, by omega⟩, fun v H7 hv g7 M7 => ?_⟩
      have t7 : Tabs (tl T) H7 := tabsGrM t6 g7 M6.isK
      obtain ⟨p7, x7, n7, rfl, hp7, hx7⟩ : ∃ (p7 : Addr) (x7 n7 : Nat), v = .ref p7 ∧ H7 p7 = some (.tup [.int x7, .int n7]) ∧ (BN 10 n7 ∧ n7 ≤ 80 ∧ x7 < n7 ∧ Nat.gcd x7 n7 = 1) := by
        simp only [List.mem_cons, List.not_mem_nil, or_false] at hv
        rcases hv with rfl | rfl
        · exact ⟨p1, 1, 8, rfl, M6.tup g7 h1, by refine ⟨⟨?_, ?_, ?_, ?_⟩, ?_, ?_, ?_⟩ <;> decide⟩
        · exact ⟨p2, 7, 20, rfl, M6.tup g7 h2, by refine ⟨⟨?_, ?_, ?_, ?_⟩, ?_, ?_, ?_⟩ <;> decide⟩
      refine ⟨.ref d, 10, x7, n7, p7, rfl, hp7, hx7, t7, fun H8 e8 t8 => ⟨_, rfl, iteF ?_⟩⟩
      exact ⟨t8, k + 3 + 2 + 1, by omega, M7.ext e8, _, rfl⟩
    rintro σ H2 ⟨t2, k, hk, M2, v2, rfl⟩
    try dsimp only
    refine stt_asgL (K := K) t2 (ds := [.str (Str.ofString "1 ( 6 )"), .str (Str.ofString "( 1 4 2 8 5 7 )"), .str (Str.ofString "( 0 )"), .str (Str.ofString "( 142 857 )")]) (el_of fun _ => el_lst (es_cons (ev_to (ev_xt (x := 1) (par_of (b := 10) (n := 6) (p := 3) (q := 2) (h := 1) (L := 1) (by decide +kernel)) rfl rfl rfl ⟨by decide, by decide, by decide, by decide⟩ (by decide) (by decide)) (congrArg PyData.str (by decide +kernel)))
      (es_cons (ev_to (ev_xt (x := 1) (par_of (b := 10) (n := 7) (p := 7) (q := 1) (h := 0) (L := 6) (by decide +kernel)) rfl rfl rfl ⟨by decide, by decide, by decide, by decide⟩ (by decide) (by decide)) (congrArg PyData.str (by decide +kernel)))
      (es_cons (ev_to (ev_xt (x := 0) (par_of (b := 10) (n := 1) (p := 1) (q := 1) (h := 0) (L := 1) (by decide +kernel)) rfl rfl rfl ⟨by decide, by decide, by decide, by decide⟩ (by decide) (by decide)) (congrArg PyData.str (by decide +kernel)))
      (es_cons (ev_to (ev_xt (x := 1) (par_of (b := 1000) (n := 7) (p := 7) (q := 1) (h := 0) (L := 2) (by decide +kernel)) rfl rfl rfl ⟨by decide, by decide, by decide, by decide⟩ (by decide) (by decide)) (congrArg PyData.str (by decide +kernel))) es_nil))))) fun l3 xs3 H3 g3 t3 e3 a3 => ?_
    try dsimp only
    refine ttt_orL (K := K) t3 (et_ne (et_var rfl (dp_lst e3 a3)) (et_of fun _ => ev_lst (es_cons ev_str (es_cons ev_str (es_cons ev_str (es_cons ev_str es_nil))))) (by decide +kernel) (by decide +kernel)) (by decide +kernel) fun H4 g4 t4 => ?_
    refine ttt_of (K := K) (b := false) t4 (et_to (et_of fun _ => ev_neS (ev_ft (x := 4999) (n := 5000) rfl rfl ⟨by decide, by decide, by decide +kernel⟩) ev_str) (congrArg PyData.bool (by decide +kernel))) (ExtN.refl _) fun H5 g5 t5 => iteF ?_
    try dsimp only [tNext]
    refine stt_asgL (K := K) t5 (ds := [.tuple [.int (0 : Nat), .int (1 : Nat)], .tuple [.int (1 : Nat), .int (2 : Nat)], .tuple [.int (1 : Nat), .int (6 : Nat)]]) (el_of fun _ => el_lst (es_cons (ev_rd rd1 rfl (by decide)) (es_cons (ev_rd rd2 rfl (by decide)) (es_cons (ev_rd rd3 rfl (by decide)) es_nil)))) fun l6 xs6 H6 g6 t6 e6 a6 => ?_
    try dsimp only
    refine ttt_orL (K := K) t6 (et_ne (et_var rfl (dp_lst e6 a6)) (et_of fun _ => ev_lst (es_cons (ev_tup (es_cons ev_int (es_cons ev_int es_nil))) (es_cons (ev_tup (es_cons ev_int (es_cons ev_int es_nil))) (es_cons (ev_tup (es_cons ev_int (es_cons ev_int es_nil))) es_nil)))) (by decide +kernel) (by decide +kernel)) (by decide +kernel) fun H7 g7 t7 => ?_
    refine ttt_of (K := K) (b := false) t7 (et_to (et_ne (et_rfc (x := 0) (n := 1) (by decide +kernel) ⟨by decide, by decide, by decide⟩) (et_of fun _ => ev_lst (es_cons (ev_tup (es_cons ev_int (es_cons ev_int es_nil))) es_nil)) (by decide +kernel) (by decide +kernel)) (congrArg PyData.bool (by decide +kernel))) (ExtN.refl _) fun H8 g8 t8 => iteF ?_
    try dsimp only [tNext]
    refine ttt_of (K := K) (b := false) t8 (et_to (et_ne (et_rd rd4 rfl (by decide)) (et_of fun _ => ev_lst (es_cons (ev_tup (es_cons ev_int (es_cons ev_int es_nil))) es_nil)) (by decide +kernel) (by decide +kernel)) (congrArg PyData.bool (by decide +kernel))) (ExtN.refl _) fun H9 g9 t9 => iteF ?_
    try dsimp only [tNext]
    refine stt_asgL (K := K) t9 (ds := [.tuple [.str "nothing", di [9]], .tuple [.str "great", .int 5000]]) (etl_lst (ets_cons (et_no (h := [9]) (g := [9]) (by decide +kernel) rfl ⟨by decide, by decide⟩ ⟨⟨by decide, by decide⟩, by decide, by decide⟩ (by decide +kernel)) (ets_cons (et_gr (h := []) (g := [0, 0, 0, 1]) (by decide +kernel) rfl ⟨by decide, by decide⟩ ⟨⟨by decide, by decide⟩, by decide, by decide⟩ (by decide +kernel) (by decide +kernel)) ets_nil))) fun la xa Ha ga ta ea aa => ?_
    try dsimp only
    exact stt_retB (K := K) (b := true) ta (et_to (et_eq (et_var rfl (dp_lst ea aa)) (et_of fun _ => ev_lst (es_cons (ev_tup (es_cons ev_str (es_cons (ev_tup (es_cons ev_int es_nil)) es_nil))) (es_cons (ev_tup (es_cons ev_str (es_cons ev_int es_nil))) es_nil))) (by decide +kernel) (by decide +kernel)) (congrArg PyData.bool (by decide +kernel))) fun Hb gb tb => q Hb

end
end Wn
namespace Wn
open PySem PySem.Spec PyProof.Rows L2
open LamX (Tabs ExtN tLam)
theorem all_mk {l : PySem.W.OpenLaw} {w : World} {K : PySem.W.Frag} {h : Heap} {mg : Str → Option Value} {fa : Addr} (X : K.In h) (G : h.Ns mainGlobals mg) (hfa : mg "law" = some (.ref fa))
    {f_is_integer : Addr} {oc_is_integer kV_is_integer dc_is_integer pm_is_integer cd_is_integer ct_is_integer : Value} {od_is_integer an_is_integer : Option Addr} {sl_is_integer : Array (Option Value)}
    {f_is_within : Addr} {oc_is_within kV_is_within dc_is_within pm_is_within cd_is_within ct_is_within : Value} {od_is_within an_is_within : Option Addr} {sl_is_within : Array (Option Value)}
    {f_need_base : Addr} {oc_need_base kV_need_base dc_need_base pm_need_base cd_need_base ct_need_base : Value} {od_need_base an_need_base : Option Addr} {sl_need_base : Array (Option Value)}
    {f_need_denominator : Addr} {oc_need_denominator kV_need_denominator dc_need_denominator pm_need_denominator cd_need_denominator ct_need_denominator : Value} {od_need_denominator an_need_denominator : Option Addr} {sl_need_denominator : Array (Option Value)}
    {f_need_fraction : Addr} {oc_need_fraction kV_need_fraction dc_need_fraction pm_need_fraction cd_need_fraction ct_need_fraction : Value} {od_need_fraction an_need_fraction : Option Addr} {sl_need_fraction : Array (Option Value)}
    {f_pure_part : Addr} {oc_pure_part kV_pure_part dc_pure_part pm_pure_part cd_pure_part ct_pure_part : Value} {od_pure_part an_pure_part : Option Addr} {sl_pure_part : Array (Option Value)}
    {f_period : Addr} {oc_period kV_period dc_period pm_period cd_period ct_period : Value} {od_period an_period : Option Addr} {sl_period : Array (Option Value)}
    {f_head_size : Addr} {oc_head_size kV_head_size dc_head_size pm_head_size cd_head_size ct_head_size : Value} {od_head_size an_head_size : Option Addr} {sl_head_size : Array (Option Value)}
    {f_power : Addr} {oc_power kV_power dc_power pm_power cd_power ct_power : Value} {od_power an_power : Option Addr} {sl_power : Array (Option Value)}
    {f_are_digits : Addr} {oc_are_digits kV_are_digits dc_are_digits pm_are_digits cd_are_digits ct_are_digits : Value} {od_are_digits an_are_digits : Option Addr} {sl_are_digits : Array (Option Value)}
    {f_need_digits : Addr} {oc_need_digits kV_need_digits dc_need_digits pm_need_digits cd_need_digits ct_need_digits : Value} {od_need_digits an_need_digits : Option Addr} {sl_need_digits : Array (Option Value)}
    {f_number_of : Addr} {oc_number_of kV_number_of dc_number_of pm_number_of cd_number_of ct_number_of : Value} {od_number_of an_number_of : Option Addr} {sl_number_of : Array (Option Value)}
    {f_divided : Addr} {oc_divided kV_divided dc_divided pm_divided cd_divided ct_divided : Value} {od_divided an_divided : Option Addr} {sl_divided : Array (Option Value)}
    {f_expansion : Addr} {oc_expansion kV_expansion dc_expansion pm_expansion cd_expansion ct_expansion : Value} {od_expansion an_expansion : Option Addr} {sl_expansion : Array (Option Value)}
    {f_fraction_of : Addr} {oc_fraction_of kV_fraction_of dc_fraction_of pm_fraction_of cd_fraction_of ct_fraction_of : Value} {od_fraction_of an_fraction_of : Option Addr} {sl_fraction_of : Array (Option Value)}
    {f_need_string : Addr} {oc_need_string kV_need_string dc_need_string pm_need_string cd_need_string ct_need_string : Value} {od_need_string an_need_string : Option Addr} {sl_need_string : Array (Option Value)}
    {f_run_size : Addr} {oc_run_size kV_run_size dc_run_size pm_run_size cd_run_size ct_run_size : Value} {od_run_size an_run_size : Option Addr} {sl_run_size : Array (Option Value)}
    {f_integer_in : Addr} {oc_integer_in kV_integer_in dc_integer_in pm_integer_in cd_integer_in ct_integer_in : Value} {od_integer_in an_integer_in : Option Addr} {sl_integer_in : Array (Option Value)}
    {f_fraction_text : Addr} {oc_fraction_text kV_fraction_text dc_fraction_text pm_fraction_text cd_fraction_text ct_fraction_text : Value} {od_fraction_text an_fraction_text : Option Addr} {sl_fraction_text : Array (Option Value)}
    {f_read_fraction : Addr} {oc_read_fraction kV_read_fraction dc_read_fraction pm_read_fraction cd_read_fraction ct_read_fraction : Value} {od_read_fraction an_read_fraction : Option Addr} {sl_read_fraction : Array (Option Value)}
    {f_expansion_text : Addr} {oc_expansion_text kV_expansion_text dc_expansion_text pm_expansion_text cd_expansion_text ct_expansion_text : Value} {od_expansion_text an_expansion_text : Option Addr} {sl_expansion_text : Array (Option Value)}
    {f_digits_in : Addr} {oc_digits_in kV_digits_in dc_digits_in pm_digits_in cd_digits_in ct_digits_in : Value} {od_digits_in an_digits_in : Option Addr} {sl_digits_in : Array (Option Value)}
    {f_need_word : Addr} {oc_need_word kV_need_word dc_need_word pm_need_word cd_need_word ct_need_word : Value} {od_need_word an_need_word : Option Addr} {sl_need_word : Array (Option Value)}
    {f_read_expansion : Addr} {oc_read_expansion kV_read_expansion dc_read_expansion pm_read_expansion cd_read_expansion ct_read_expansion : Value} {od_read_expansion an_read_expansion : Option Addr} {sl_read_expansion : Array (Option Value)}
    {f_law_begun : Addr} {oc_law_begun kV_law_begun dc_law_begun pm_law_begun cd_law_begun ct_law_begun : Value} {od_law_begun an_law_begun : Option Addr} {sl_law_begun : Array (Option Value)}
    {f_law_draw : Addr} {oc_law_draw kV_law_draw dc_law_draw pm_law_draw cd_law_draw ct_law_draw : Value} {od_law_draw an_law_draw : Option Addr} {sl_law_draw : Array (Option Value)}
    {f_law_of : Addr} {oc_law_of kV_law_of dc_law_of pm_law_of cd_law_of ct_law_of : Value} {od_law_of an_law_of : Option Addr} {sl_law_of : Array (Option Value)}
    {f_law_divisor : Addr} {oc_law_divisor kV_law_divisor dc_law_divisor pm_law_divisor cd_law_divisor ct_law_divisor : Value} {od_law_divisor an_law_divisor : Option Addr} {sl_law_divisor : Array (Option Value)}
    {f_law_part : Addr} {oc_law_part kV_law_part dc_law_part pm_law_part cd_law_part ct_law_part : Value} {od_law_part an_law_part : Option Addr} {sl_law_part : Array (Option Value)}
    {f_law_ring : Addr} {oc_law_ring kV_law_ring dc_law_ring pm_law_ring cd_law_ring ct_law_ring : Value} {od_law_ring an_law_ring : Option Addr} {sl_law_ring : Array (Option Value)}
    {f_law_spread : Addr} {oc_law_spread kV_law_spread dc_law_spread pm_law_spread cd_law_spread ct_law_spread : Value} {od_law_spread an_law_spread : Option Addr} {sl_law_spread : Array (Option Value)}
    {f_law_base : Addr} {oc_law_base kV_law_base dc_law_base pm_law_base cd_law_base ct_law_base : Value} {od_law_base an_law_base : Option Addr} {sl_law_base : Array (Option Value)}
    {f_law_word : Addr} {oc_law_word kV_law_word dc_law_word pm_law_word cd_law_word ct_law_word : Value} {od_law_word an_law_word : Option Addr} {sl_law_word : Array (Option Value)}
    {f_law_outcome : Addr} {oc_law_outcome kV_law_outcome dc_law_outcome pm_law_outcome cd_law_outcome ct_law_outcome : Value} {od_law_outcome an_law_outcome : Option Addr} {sl_law_outcome : Array (Option Value)}
    {f_law_text : Addr} {oc_law_text kV_law_text dc_law_text pm_law_text cd_law_text ct_law_text : Value} {od_law_text an_law_text : Option Addr} {sl_law_text : Array (Option Value)}
    {f_law_right : Addr} {oc_law_right kV_law_right dc_law_right pm_law_right cd_law_right ct_law_right : Value} {od_law_right an_law_right : Option Addr} {sl_law_right : Array (Option Value)}
    {f_law : Addr} {oc_law kV_law dc_law pm_law cd_law ct_law : Value} {od_law an_law : Option Addr} {sl_law : Array (Option Value)}
    {C_WheelError : Addr}
    {C_BadBase : Addr}
    {C_BadDenominator : Addr}
    {C_BadFraction : Addr}
    {C_BadDigits : Addr}
    {C_BadNumber : Addr}
    {C_BadPaper : Addr}
    {C_BadText : Addr}
    {C_TooGreat : Addr}
    {I_TooGreat : Addr} {ioc_TooGreat ikV_TooGreat idc_TooGreat ipm_TooGreat icd_TooGreat ict_TooGreat : Value} {iod_TooGreat ian_TooGreat : Option Addr} {isl_TooGreat : Array (Option Value)}
    {C_Nothing : Addr}
    {I_Nothing : Addr} {ioc_Nothing ikV_Nothing idc_Nothing ipm_Nothing icd_Nothing ict_Nothing : Value} {iod_Nothing ian_Nothing : Option Addr} {isl_Nothing : Array (Option Value)}
    {kk_law_right pp_law_right : Addr}
    {c1_law_right : Value} {d1_law_right : Option Addr} {vs_law_right : Array Value} {s1_law_right : Array (Option Value)}
    {kk_law pp_law : Addr}
    {c1_law : Value} {d1_law : Option Addr} {vs_law : Array Value} {s1_law : Array (Option Value)}
    {t_MOST_BASE : Tok}
    {t_MOST_DENOMINATOR : Tok}
    {t_MOST_DIGITS : Tok}
    {t_MOST_LENGTH : Tok}
    (a_is_integer : PySem.W.nsIn K mainGlobals "is_integer" = some (some (.ref f_is_integer)))
    (l_is_integer : K.lookup f_is_integer = some ⟨oc_is_integer, od_is_integer, .func (PySem.W.fnOf "is_integer" "is_integer" (defArgs s_is_integer) (defBody s_is_integer) (defScope s_is_integer) .none kV_is_integer dc_is_integer pm_is_integer an_is_integer cd_is_integer ct_is_integer), sl_is_integer⟩)
    (c_is_integer : PySem.W.codeIn K cd_is_integer "is_integer" = true)
    (k_is_integer : PySem.W.keepIn K (.ref f_is_integer) = true)
    (a_is_within : PySem.W.nsIn K mainGlobals "is_within" = some (some (.ref f_is_within)))
    (l_is_within : K.lookup f_is_within = some ⟨oc_is_within, od_is_within, .func (PySem.W.fnOf "is_within" "is_within" (defArgs s_is_within) (defBody s_is_within) (defScope s_is_within) .none kV_is_within dc_is_within pm_is_within an_is_within cd_is_within ct_is_within), sl_is_within⟩)
    (c_is_within : PySem.W.codeIn K cd_is_within "is_within" = true)
    (k_is_within : PySem.W.keepIn K (.ref f_is_within) = true)
    (a_need_base : PySem.W.nsIn K mainGlobals "need_base" = some (some (.ref f_need_base)))
    (l_need_base : K.lookup f_need_base = some ⟨oc_need_base, od_need_base, .func (PySem.W.fnOf "need_base" "need_base" (defArgs s_need_base) (defBody s_need_base) (defScope s_need_base) .none kV_need_base dc_need_base pm_need_base an_need_base cd_need_base ct_need_base), sl_need_base⟩)
    (c_need_base : PySem.W.codeIn K cd_need_base "need_base" = true)
    (k_need_base : PySem.W.keepIn K (.ref f_need_base) = true)
    (a_need_denominator : PySem.W.nsIn K mainGlobals "need_denominator" = some (some (.ref f_need_denominator)))
    (l_need_denominator : K.lookup f_need_denominator = some ⟨oc_need_denominator, od_need_denominator, .func (PySem.W.fnOf "need_denominator" "need_denominator" (defArgs s_need_denominator) (defBody s_need_denominator) (defScope s_need_denominator) .none kV_need_denominator dc_need_denominator pm_need_denominator an_need_denominator cd_need_denominator ct_need_denominator), sl_need_denominator⟩)
    (c_need_denominator : PySem.W.codeIn K cd_need_denominator "need_denominator" = true)
    (k_need_denominator : PySem.W.keepIn K (.ref f_need_denominator) = true)
    (a_need_fraction : PySem.W.nsIn K mainGlobals "need_fraction" = some (some (.ref f_need_fraction)))
    (l_need_fraction : K.lookup f_need_fraction = some ⟨oc_need_fraction, od_need_fraction, .func (PySem.W.fnOf "need_fraction" "need_fraction" (defArgs s_need_fraction) (defBody s_need_fraction) (defScope s_need_fraction) .none kV_need_fraction dc_need_fraction pm_need_fraction an_need_fraction cd_need_fraction ct_need_fraction), sl_need_fraction⟩)
    (c_need_fraction : PySem.W.codeIn K cd_need_fraction "need_fraction" = true)
    (k_need_fraction : PySem.W.keepIn K (.ref f_need_fraction) = true)
    (a_pure_part : PySem.W.nsIn K mainGlobals "pure_part" = some (some (.ref f_pure_part)))
    (l_pure_part : K.lookup f_pure_part = some ⟨oc_pure_part, od_pure_part, .func (PySem.W.fnOf "pure_part" "pure_part" (defArgs s_pure_part) (defBody s_pure_part) (defScope s_pure_part) .none kV_pure_part dc_pure_part pm_pure_part an_pure_part cd_pure_part ct_pure_part), sl_pure_part⟩)
    (c_pure_part : PySem.W.codeIn K cd_pure_part "pure_part" = true)
    (k_pure_part : PySem.W.keepIn K (.ref f_pure_part) = true)
    (a_period : PySem.W.nsIn K mainGlobals "period" = some (some (.ref f_period)))
    (l_period : K.lookup f_period = some ⟨oc_period, od_period, .func (PySem.W.fnOf "period" "period" (defArgs s_period) (defBody s_period) (defScope s_period) .none kV_period dc_period pm_period an_period cd_period ct_period), sl_period⟩)
    (c_period : PySem.W.codeIn K cd_period "period" = true)
    (k_period : PySem.W.keepIn K (.ref f_period) = true)
    (a_head_size : PySem.W.nsIn K mainGlobals "head_size" = some (some (.ref f_head_size)))
    (l_head_size : K.lookup f_head_size = some ⟨oc_head_size, od_head_size, .func (PySem.W.fnOf "head_size" "head_size" (defArgs s_head_size) (defBody s_head_size) (defScope s_head_size) .none kV_head_size dc_head_size pm_head_size an_head_size cd_head_size ct_head_size), sl_head_size⟩)
    (c_head_size : PySem.W.codeIn K cd_head_size "head_size" = true)
    (k_head_size : PySem.W.keepIn K (.ref f_head_size) = true)
    (a_power : PySem.W.nsIn K mainGlobals "power" = some (some (.ref f_power)))
    (l_power : K.lookup f_power = some ⟨oc_power, od_power, .func (PySem.W.fnOf "power" "power" (defArgs s_power) (defBody s_power) (defScope s_power) .none kV_power dc_power pm_power an_power cd_power ct_power), sl_power⟩)
    (c_power : PySem.W.codeIn K cd_power "power" = true)
    (k_power : PySem.W.keepIn K (.ref f_power) = true)
    (a_are_digits : PySem.W.nsIn K mainGlobals "are_digits" = some (some (.ref f_are_digits)))
    (l_are_digits : K.lookup f_are_digits = some ⟨oc_are_digits, od_are_digits, .func (PySem.W.fnOf "are_digits" "are_digits" (defArgs s_are_digits) (defBody s_are_digits) (defScope s_are_digits) .none kV_are_digits dc_are_digits pm_are_digits an_are_digits cd_are_digits ct_are_digits), sl_are_digits⟩)
    (c_are_digits : PySem.W.codeIn K cd_are_digits "are_digits" = true)
    (k_are_digits : PySem.W.keepIn K (.ref f_are_digits) = true)
    (a_need_digits : PySem.W.nsIn K mainGlobals "need_digits" = some (some (.ref f_need_digits)))
    (l_need_digits : K.lookup f_need_digits = some ⟨oc_need_digits, od_need_digits, .func (PySem.W.fnOf "need_digits" "need_digits" (defArgs s_need_digits) (defBody s_need_digits) (defScope s_need_digits) .none kV_need_digits dc_need_digits pm_need_digits an_need_digits cd_need_digits ct_need_digits), sl_need_digits⟩)
    (c_need_digits : PySem.W.codeIn K cd_need_digits "need_digits" = true)
    (k_need_digits : PySem.W.keepIn K (.ref f_need_digits) = true)
    (a_number_of : PySem.W.nsIn K mainGlobals "number_of" = some (some (.ref f_number_of)))
    (l_number_of : K.lookup f_number_of = some ⟨oc_number_of, od_number_of, .func (PySem.W.fnOf "number_of" "number_of" (defArgs s_number_of) (defBody s_number_of) (defScope s_number_of) .none kV_number_of dc_number_of pm_number_of an_number_of cd_number_of ct_number_of), sl_number_of⟩)
    (c_number_of : PySem.W.codeIn K cd_number_of "number_of" = true)
    (k_number_of : PySem.W.keepIn K (.ref f_number_of) = true)
    (a_divided : PySem.W.nsIn K mainGlobals "divided" = some (some (.ref f_divided)))
    (l_divided : K.lookup f_divided = some ⟨oc_divided, od_divided, .func (PySem.W.fnOf "divided" "divided" (defArgs s_divided) (defBody s_divided) (defScope s_divided) .none kV_divided dc_divided pm_divided an_divided cd_divided ct_divided), sl_divided⟩)
    (c_divided : PySem.W.codeIn K cd_divided "divided" = true)
    (k_divided : PySem.W.keepIn K (.ref f_divided) = true)
    (a_expansion : PySem.W.nsIn K mainGlobals "expansion" = some (some (.ref f_expansion)))
    (l_expansion : K.lookup f_expansion = some ⟨oc_expansion, od_expansion, .func (PySem.W.fnOf "expansion" "expansion" (defArgs s_expansion) (defBody s_expansion) (defScope s_expansion) .none kV_expansion dc_expansion pm_expansion an_expansion cd_expansion ct_expansion), sl_expansion⟩)
    (c_expansion : PySem.W.codeIn K cd_expansion "expansion" = true)
    (k_expansion : PySem.W.keepIn K (.ref f_expansion) = true)
    (a_fraction_of : PySem.W.nsIn K mainGlobals "fraction_of" = some (some (.ref f_fraction_of)))
    (l_fraction_of : K.lookup f_fraction_of = some ⟨oc_fraction_of, od_fraction_of, .func (PySem.W.fnOf "fraction_of" "fraction_of" (defArgs s_fraction_of) (defBody s_fraction_of) (defScope s_fraction_of) .none kV_fraction_of dc_fraction_of pm_fraction_of an_fraction_of cd_fraction_of ct_fraction_of), sl_fraction_of⟩)
    (c_fraction_of : PySem.W.codeIn K cd_fraction_of "fraction_of" = true)
    (k_fraction_of : PySem.W.keepIn K (.ref f_fraction_of) = true)
    (a_need_string : PySem.W.nsIn K mainGlobals "need_string" = some (some (.ref f_need_string)))
    (l_need_string : K.lookup f_need_string = some ⟨oc_need_string, od_need_string, .func (PySem.W.fnOf "need_string" "need_string" (defArgs s_need_string) (defBody s_need_string) (defScope s_need_string) .none kV_need_string dc_need_string pm_need_string an_need_string cd_need_string ct_need_string), sl_need_string⟩)
    (c_need_string : PySem.W.codeIn K cd_need_string "need_string" = true)
    (k_need_string : PySem.W.keepIn K (.ref f_need_string) = true)
    (a_run_size : PySem.W.nsIn K mainGlobals "run_size" = some (some (.ref f_run_size)))
    (l_run_size : K.lookup f_run_size = some ⟨oc_run_size, od_run_size, .func (PySem.W.fnOf "run_size" "run_size" (defArgs s_run_size) (defBody s_run_size) (defScope s_run_size) .none kV_run_size dc_run_size pm_run_size an_run_size cd_run_size ct_run_size), sl_run_size⟩)
    (c_run_size : PySem.W.codeIn K cd_run_size "run_size" = true)
    (k_run_size : PySem.W.keepIn K (.ref f_run_size) = true)
    (a_integer_in : PySem.W.nsIn K mainGlobals "integer_in" = some (some (.ref f_integer_in)))
    (l_integer_in : K.lookup f_integer_in = some ⟨oc_integer_in, od_integer_in, .func (PySem.W.fnOf "integer_in" "integer_in" (defArgs s_integer_in) (defBody s_integer_in) (defScope s_integer_in) .none kV_integer_in dc_integer_in pm_integer_in an_integer_in cd_integer_in ct_integer_in), sl_integer_in⟩)
    (c_integer_in : PySem.W.codeIn K cd_integer_in "integer_in" = true)
    (k_integer_in : PySem.W.keepIn K (.ref f_integer_in) = true)
    (a_fraction_text : PySem.W.nsIn K mainGlobals "fraction_text" = some (some (.ref f_fraction_text)))
    (l_fraction_text : K.lookup f_fraction_text = some ⟨oc_fraction_text, od_fraction_text, .func (PySem.W.fnOf "fraction_text" "fraction_text" (defArgs s_fraction_text) (defBody s_fraction_text) (defScope s_fraction_text) .none kV_fraction_text dc_fraction_text pm_fraction_text an_fraction_text cd_fraction_text ct_fraction_text), sl_fraction_text⟩)
    (c_fraction_text : PySem.W.codeIn K cd_fraction_text "fraction_text" = true)
    (k_fraction_text : PySem.W.keepIn K (.ref f_fraction_text) = true)
    (a_read_fraction : PySem.W.nsIn K mainGlobals "read_fraction" = some (some (.ref f_read_fraction)))
    (l_read_fraction : K.lookup f_read_fraction = some ⟨oc_read_fraction, od_read_fraction, .func (PySem.W.fnOf "read_fraction" "read_fraction" (defArgs s_read_fraction) (defBody s_read_fraction) (defScope s_read_fraction) .none kV_read_fraction dc_read_fraction pm_read_fraction an_read_fraction cd_read_fraction ct_read_fraction), sl_read_fraction⟩)
    (c_read_fraction : PySem.W.codeIn K cd_read_fraction "read_fraction" = true)
    (k_read_fraction : PySem.W.keepIn K (.ref f_read_fraction) = true)
    (a_expansion_text : PySem.W.nsIn K mainGlobals "expansion_text" = some (some (.ref f_expansion_text)))
    (l_expansion_text : K.lookup f_expansion_text = some ⟨oc_expansion_text, od_expansion_text, .func (PySem.W.fnOf "expansion_text" "expansion_text" (defArgs s_expansion_text) (defBody s_expansion_text) (defScope s_expansion_text) .none kV_expansion_text dc_expansion_text pm_expansion_text an_expansion_text cd_expansion_text ct_expansion_text), sl_expansion_text⟩)
    (c_expansion_text : PySem.W.codeIn K cd_expansion_text "expansion_text" = true)
    (k_expansion_text : PySem.W.keepIn K (.ref f_expansion_text) = true)
    (a_digits_in : PySem.W.nsIn K mainGlobals "digits_in" = some (some (.ref f_digits_in)))
    (l_digits_in : K.lookup f_digits_in = some ⟨oc_digits_in, od_digits_in, .func (PySem.W.fnOf "digits_in" "digits_in" (defArgs s_digits_in) (defBody s_digits_in) (defScope s_digits_in) .none kV_digits_in dc_digits_in pm_digits_in an_digits_in cd_digits_in ct_digits_in), sl_digits_in⟩)
    (c_digits_in : PySem.W.codeIn K cd_digits_in "digits_in" = true)
    (k_digits_in : PySem.W.keepIn K (.ref f_digits_in) = true)
    (a_need_word : PySem.W.nsIn K mainGlobals "need_word" = some (some (.ref f_need_word)))
    (l_need_word : K.lookup f_need_word = some ⟨oc_need_word, od_need_word, .func (PySem.W.fnOf "need_word" "need_word" (defArgs s_need_word) (defBody s_need_word) (defScope s_need_word) .none kV_need_word dc_need_word pm_need_word an_need_word cd_need_word ct_need_word), sl_need_word⟩)
    (c_need_word : PySem.W.codeIn K cd_need_word "need_word" = true)
    (k_need_word : PySem.W.keepIn K (.ref f_need_word) = true)
    (a_read_expansion : PySem.W.nsIn K mainGlobals "read_expansion" = some (some (.ref f_read_expansion)))
    (l_read_expansion : K.lookup f_read_expansion = some ⟨oc_read_expansion, od_read_expansion, .func (PySem.W.fnOf "read_expansion" "read_expansion" (defArgs s_read_expansion) (defBody s_read_expansion) (defScope s_read_expansion) .none kV_read_expansion dc_read_expansion pm_read_expansion an_read_expansion cd_read_expansion ct_read_expansion), sl_read_expansion⟩)
    (c_read_expansion : PySem.W.codeIn K cd_read_expansion "read_expansion" = true)
    (k_read_expansion : PySem.W.keepIn K (.ref f_read_expansion) = true)
    (a_law_begun : PySem.W.nsIn K mainGlobals "_law_begun" = some (some (.ref f_law_begun)))
    (l_law_begun : K.lookup f_law_begun = some ⟨oc_law_begun, od_law_begun, .func (PySem.W.fnOf "_law_begun" "_law_begun" (defArgs s_law_begun) (defBody s_law_begun) (defScope s_law_begun) .none kV_law_begun dc_law_begun pm_law_begun an_law_begun cd_law_begun ct_law_begun), sl_law_begun⟩)
    (c_law_begun : PySem.W.codeIn K cd_law_begun "_law_begun" = true)
    (k_law_begun : PySem.W.keepIn K (.ref f_law_begun) = true)
    (a_law_draw : PySem.W.nsIn K mainGlobals "_law_draw" = some (some (.ref f_law_draw)))
    (l_law_draw : K.lookup f_law_draw = some ⟨oc_law_draw, od_law_draw, .func (PySem.W.fnOf "_law_draw" "_law_draw" (defArgs s_law_draw) (defBody s_law_draw) (defScope s_law_draw) .none kV_law_draw dc_law_draw pm_law_draw an_law_draw cd_law_draw ct_law_draw), sl_law_draw⟩)
    (c_law_draw : PySem.W.codeIn K cd_law_draw "_law_draw" = true)
    (k_law_draw : PySem.W.keepIn K (.ref f_law_draw) = true)
    (a_law_of : PySem.W.nsIn K mainGlobals "_law_of" = some (some (.ref f_law_of)))
    (l_law_of : K.lookup f_law_of = some ⟨oc_law_of, od_law_of, .func (PySem.W.fnOf "_law_of" "_law_of" (defArgs s_law_of) (defBody s_law_of) (defScope s_law_of) .none kV_law_of dc_law_of pm_law_of an_law_of cd_law_of ct_law_of), sl_law_of⟩)
    (c_law_of : PySem.W.codeIn K cd_law_of "_law_of" = true)
    (k_law_of : PySem.W.keepIn K (.ref f_law_of) = true)
    (a_law_divisor : PySem.W.nsIn K mainGlobals "_law_divisor" = some (some (.ref f_law_divisor)))
    (l_law_divisor : K.lookup f_law_divisor = some ⟨oc_law_divisor, od_law_divisor, .func (PySem.W.fnOf "_law_divisor" "_law_divisor" (defArgs s_law_divisor) (defBody s_law_divisor) (defScope s_law_divisor) .none kV_law_divisor dc_law_divisor pm_law_divisor an_law_divisor cd_law_divisor ct_law_divisor), sl_law_divisor⟩)
    (c_law_divisor : PySem.W.codeIn K cd_law_divisor "_law_divisor" = true)
    (k_law_divisor : PySem.W.keepIn K (.ref f_law_divisor) = true)
    (a_law_part : PySem.W.nsIn K mainGlobals "_law_part" = some (some (.ref f_law_part)))
    (l_law_part : K.lookup f_law_part = some ⟨oc_law_part, od_law_part, .func (PySem.W.fnOf "_law_part" "_law_part" (defArgs s_law_part) (defBody s_law_part) (defScope s_law_part) .none kV_law_part dc_law_part pm_law_part an_law_part cd_law_part ct_law_part), sl_law_part⟩)
    (c_law_part : PySem.W.codeIn K cd_law_part "_law_part" = true)
    (k_law_part : PySem.W.keepIn K (.ref f_law_part) = true)
    (a_law_ring : PySem.W.nsIn K mainGlobals "_law_ring" = some (some (.ref f_law_ring)))
    (l_law_ring : K.lookup f_law_ring = some ⟨oc_law_ring, od_law_ring, .func (PySem.W.fnOf "_law_ring" "_law_ring" (defArgs s_law_ring) (defBody s_law_ring) (defScope s_law_ring) .none kV_law_ring dc_law_ring pm_law_ring an_law_ring cd_law_ring ct_law_ring), sl_law_ring⟩)
    (c_law_ring : PySem.W.codeIn K cd_law_ring "_law_ring" = true)
    (k_law_ring : PySem.W.keepIn K (.ref f_law_ring) = true)
    (a_law_spread : PySem.W.nsIn K mainGlobals "_law_spread" = some (some (.ref f_law_spread)))
    (l_law_spread : K.lookup f_law_spread = some ⟨oc_law_spread, od_law_spread, .func (PySem.W.fnOf "_law_spread" "_law_spread" (defArgs s_law_spread) (defBody s_law_spread) (defScope s_law_spread) .none kV_law_spread dc_law_spread pm_law_spread an_law_spread cd_law_spread ct_law_spread), sl_law_spread⟩)
    (c_law_spread : PySem.W.codeIn K cd_law_spread "_law_spread" = true)
    (k_law_spread : PySem.W.keepIn K (.ref f_law_spread) = true)
    (a_law_base : PySem.W.nsIn K mainGlobals "_law_base" = some (some (.ref f_law_base)))
    (l_law_base : K.lookup f_law_base = some ⟨oc_law_base, od_law_base, .func (PySem.W.fnOf "_law_base" "_law_base" (defArgs s_law_base) (defBody s_law_base) (defScope s_law_base) .none kV_law_base dc_law_base pm_law_base an_law_base cd_law_base ct_law_base), sl_law_base⟩)
    (c_law_base : PySem.W.codeIn K cd_law_base "_law_base" = true)
    (k_law_base : PySem.W.keepIn K (.ref f_law_base) = true)
    (a_law_word : PySem.W.nsIn K mainGlobals "_law_word" = some (some (.ref f_law_word)))
    (l_law_word : K.lookup f_law_word = some ⟨oc_law_word, od_law_word, .func (PySem.W.fnOf "_law_word" "_law_word" (defArgs s_law_word) (defBody s_law_word) (defScope s_law_word) .none kV_law_word dc_law_word pm_law_word an_law_word cd_law_word ct_law_word), sl_law_word⟩)
    (c_law_word : PySem.W.codeIn K cd_law_word "_law_word" = true)
    (k_law_word : PySem.W.keepIn K (.ref f_law_word) = true)
    (a_law_outcome : PySem.W.nsIn K mainGlobals "_law_outcome" = some (some (.ref f_law_outcome)))
    (l_law_outcome : K.lookup f_law_outcome = some ⟨oc_law_outcome, od_law_outcome, .func (PySem.W.fnOf "_law_outcome" "_law_outcome" (defArgs s_law_outcome) (defBody s_law_outcome) (defScope s_law_outcome) .none kV_law_outcome dc_law_outcome pm_law_outcome an_law_outcome cd_law_outcome ct_law_outcome), sl_law_outcome⟩)
    (c_law_outcome : PySem.W.codeIn K cd_law_outcome "_law_outcome" = true)
    (k_law_outcome : PySem.W.keepIn K (.ref f_law_outcome) = true)
    (a_law_text : PySem.W.nsIn K mainGlobals "_law_text" = some (some (.ref f_law_text)))
    (l_law_text : K.lookup f_law_text = some ⟨oc_law_text, od_law_text, .func (PySem.W.fnOf "_law_text" "_law_text" (defArgs s_law_text) (defBody s_law_text) (defScope s_law_text) .none kV_law_text dc_law_text pm_law_text an_law_text cd_law_text ct_law_text), sl_law_text⟩)
    (c_law_text : PySem.W.codeIn K cd_law_text "_law_text" = true)
    (k_law_text : PySem.W.keepIn K (.ref f_law_text) = true)
    (a_law_right : PySem.W.nsIn K mainGlobals "_law_right" = some (some (.ref f_law_right)))
    (l_law_right : K.lookup f_law_right = some ⟨oc_law_right, od_law_right, .func (PySem.W.fnOf "_law_right" "_law_right" (defArgs s_law_right) (defBody s_law_right) (defScope s_law_right) .none kV_law_right dc_law_right pm_law_right an_law_right cd_law_right ct_law_right), sl_law_right⟩)
    (c_law_right : PySem.W.codeIn K cd_law_right "_law_right" = true)
    (k_law_right : PySem.W.keepIn K (.ref f_law_right) = true)
    (a_law : PySem.W.nsIn K mainGlobals "law" = some (some (.ref f_law)))
    (l_law : K.lookup f_law = some ⟨oc_law, od_law, .func (PySem.W.fnOf "law" "law" (defArgs s_law) (defBody s_law) (defScope s_law) .none kV_law dc_law pm_law an_law cd_law ct_law), sl_law⟩)
    (c_law : PySem.W.codeIn K cd_law "law" = true)
    (k_law : PySem.W.keepIn K (.ref f_law) = true)
    (zb_isinstance : PySem.W.nsIn K mainGlobals "isinstance" = some none)
    (zb_int : PySem.W.nsIn K mainGlobals "int" = some none)
    (zb_bool : PySem.W.nsIn K mainGlobals "bool" = some none)
    (zb_str : PySem.W.nsIn K mainGlobals "str" = some none)
    (zb_len : PySem.W.nsIn K mainGlobals "len" = some none)
    (zb_range : PySem.W.nsIn K mainGlobals "range" = some none)
    (zb_tuple : PySem.W.nsIn K mainGlobals "tuple" = some none)
    (zb_list : PySem.W.nsIn K mainGlobals "list" = some none)
    (zb_min : PySem.W.nsIn K mainGlobals "min" = some none)
    (zb_repr : PySem.W.nsIn K mainGlobals "repr" = some none)
    (zb_all : PySem.W.nsIn K mainGlobals "all" = some none)
    (zb_OverflowError : PySem.W.nsIn K mainGlobals "OverflowError" = some none)
    (zb_LookupError : PySem.W.nsIn K mainGlobals "LookupError" = some none)
    (zb_gcd : PySem.W.nsIn K mainGlobals "gcd" = some (some (.builtin "math.gcd")))
    (gc_WheelError : PySem.W.nsIn K mainGlobals "WheelError" = some (some (.ref C_WheelError)))
    (rd_WheelError : PySem.W.readsIn K C_WheelError (.type "type") = true)
    (rg_WheelError : PySem.W.specialIn K (.ref C_WheelError) "__getattribute__" = some (some (.builtin "type.__getattribute__")))
    (ri_WheelError : PySem.W.findCls K (.ref C_WheelError) (.type "type") "__init__" = some (.val (.builtin "ValueError.__init__")))
    (gc_BadBase : PySem.W.nsIn K mainGlobals "BadBase" = some (some (.ref C_BadBase)))
    (gc_BadDenominator : PySem.W.nsIn K mainGlobals "BadDenominator" = some (some (.ref C_BadDenominator)))
    (gc_BadFraction : PySem.W.nsIn K mainGlobals "BadFraction" = some (some (.ref C_BadFraction)))
    (gc_BadDigits : PySem.W.nsIn K mainGlobals "BadDigits" = some (some (.ref C_BadDigits)))
    (gc_BadNumber : PySem.W.nsIn K mainGlobals "BadNumber" = some (some (.ref C_BadNumber)))
    (gc_BadPaper : PySem.W.nsIn K mainGlobals "BadPaper" = some (some (.ref C_BadPaper)))
    (gc_BadText : PySem.W.nsIn K mainGlobals "BadText" = some (some (.ref C_BadText)))
    (gc_TooGreat : PySem.W.nsIn K mainGlobals "TooGreat" = some (some (.ref C_TooGreat)))
    (iC_TooGreat : PySem.W.findIn K (.ref C_TooGreat) "__init__" = some (some (.ref I_TooGreat)))
    (ini_TooGreat : PySem.W.excInitIn K C_TooGreat [.type "OverflowError", .type "ArithmeticError", .type "Exception", .type "BaseException", .type "object"] "OverflowError.__new__" = true)
    (ov_TooGreat : PySem.W.excOver K C_TooGreat [.type "OverflowError", .type "ArithmeticError", .type "Exception", .type "BaseException", .type "object"] = true)
    (hd_TooGreat : PySem.W.hasDictIn K C_TooGreat = true)
    (sa_TooGreat : PySem.W.findIn K (.ref C_TooGreat) "__setattr__" = some (some (.builtin "object.__setattr__")))
    (ex_TooGreat : PySem.W.subIn K (.ref C_TooGreat) (.type "BaseException") = some true)
    (ty_TooGreat : PySem.W.typeIn K (.ref C_TooGreat) = some (.type "type"))
    (kp_TooGreat : PySem.W.keepIn K (.ref C_TooGreat) = true)
    (tk_TooGreat : PySem.W.takerIn K C_TooGreat "most" = some none)
    (no_TooGreat : PySem.W.findIn K (.ref C_TooGreat) "most" = some none)
    (tI_TooGreat : PySem.W.typeIn K (.ref I_TooGreat) = some (.type "function"))
    (ga_TooGreat : PySem.W.findIn K (.ref C_TooGreat) "__getattribute__" = some (some (.builtin "BaseException.__getattribute__")))
    (gg_TooGreat : PySem.W.findIn K (.ref C_TooGreat) "__getattr__" = some none)
    (ha_TooGreat : PySem.W.findIn K (.ref C_TooGreat) "__class__" = some (some (.builtin "object.__class__")))
    (mr_TooGreat : PySem.W.mroIn K C_TooGreat (.type "object") = some true)
    (il_TooGreat : K.lookup I_TooGreat = some ⟨ioc_TooGreat, iod_TooGreat, .func (PySem.W.fnOf "__init__" "TooGreat.__init__" (defArgs s_TooGreat_init) (defBody s_TooGreat_init) (defScope s_TooGreat_init) .none ikV_TooGreat idc_TooGreat ipm_TooGreat ian_TooGreat icd_TooGreat ict_TooGreat), isl_TooGreat⟩)
    (ic_TooGreat : PySem.W.codeIn K icd_TooGreat "TooGreat.__init__" = true)
    (ik_TooGreat : PySem.W.keepIn K (.ref I_TooGreat) = true)
    (cl_TooGreat : PySem.W.isClsIn K C_TooGreat = true)
    (hn_TooGreat : PySem.W.specialIn K (.builtin "object.__class__") "__get__" = some (some (.builtin "getset_descriptor.__get__")))
    (ht_TooGreat : PySem.W.takesIn K (.builtin "object.__class__") = some true)
    (gc_Nothing : PySem.W.nsIn K mainGlobals "Nothing" = some (some (.ref C_Nothing)))
    (iC_Nothing : PySem.W.findIn K (.ref C_Nothing) "__init__" = some (some (.ref I_Nothing)))
    (ini_Nothing : PySem.W.excInitIn K C_Nothing [.type "LookupError", .type "Exception", .type "BaseException", .type "object"] "LookupError.__new__" = true)
    (ov_Nothing : PySem.W.excOver K C_Nothing [.type "LookupError", .type "Exception", .type "BaseException", .type "object"] = true)
    (hd_Nothing : PySem.W.hasDictIn K C_Nothing = true)
    (sa_Nothing : PySem.W.findIn K (.ref C_Nothing) "__setattr__" = some (some (.builtin "object.__setattr__")))
    (ex_Nothing : PySem.W.subIn K (.ref C_Nothing) (.type "BaseException") = some true)
    (ty_Nothing : PySem.W.typeIn K (.ref C_Nothing) = some (.type "type"))
    (kp_Nothing : PySem.W.keepIn K (.ref C_Nothing) = true)
    (tk_Nothing : PySem.W.takerIn K C_Nothing "value" = some none)
    (no_Nothing : PySem.W.findIn K (.ref C_Nothing) "value" = some none)
    (tI_Nothing : PySem.W.typeIn K (.ref I_Nothing) = some (.type "function"))
    (ga_Nothing : PySem.W.findIn K (.ref C_Nothing) "__getattribute__" = some (some (.builtin "BaseException.__getattribute__")))
    (gg_Nothing : PySem.W.findIn K (.ref C_Nothing) "__getattr__" = some none)
    (ha_Nothing : PySem.W.findIn K (.ref C_Nothing) "__class__" = some (some (.builtin "object.__class__")))
    (mr_Nothing : PySem.W.mroIn K C_Nothing (.type "object") = some true)
    (il_Nothing : K.lookup I_Nothing = some ⟨ioc_Nothing, iod_Nothing, .func (PySem.W.fnOf "__init__" "Nothing.__init__" (defArgs s_Nothing_init) (defBody s_Nothing_init) (defScope s_Nothing_init) .none ikV_Nothing idc_Nothing ipm_Nothing ian_Nothing icd_Nothing ict_Nothing), isl_Nothing⟩)
    (ic_Nothing : PySem.W.codeIn K icd_Nothing "Nothing.__init__" = true)
    (ik_Nothing : PySem.W.keepIn K (.ref I_Nothing) = true)
    (cl_Nothing : PySem.W.isClsIn K C_Nothing = true)
    (hn_Nothing : PySem.W.specialIn K (.builtin "object.__class__") "__get__" = some (some (.builtin "getset_descriptor.__get__")))
    (ht_Nothing : PySem.W.takesIn K (.builtin "object.__class__") = some true)
    (kit_TooGreat_BadBase : PySem.W.kitOne K (.ref C_TooGreat) (.ref C_BadBase) = some false)
    (kit_TooGreat_BadDenominator : PySem.W.kitOne K (.ref C_TooGreat) (.ref C_BadDenominator) = some false)
    (kit_TooGreat_BadFraction : PySem.W.kitOne K (.ref C_TooGreat) (.ref C_BadFraction) = some false)
    (kit_TooGreat_BadDigits : PySem.W.kitOne K (.ref C_TooGreat) (.ref C_BadDigits) = some false)
    (kit_TooGreat_BadNumber : PySem.W.kitOne K (.ref C_TooGreat) (.ref C_BadNumber) = some false)
    (kit_TooGreat_BadPaper : PySem.W.kitOne K (.ref C_TooGreat) (.ref C_BadPaper) = some false)
    (kit_TooGreat_BadText : PySem.W.kitOne K (.ref C_TooGreat) (.ref C_BadText) = some false)
    (kit_TooGreat_TooGreat : PySem.W.kitOne K (.ref C_TooGreat) (.ref C_TooGreat) = some true)
    (kit_TooGreat_Nothing : PySem.W.kitOne K (.ref C_TooGreat) (.ref C_Nothing) = some false)
    (exm_TooGreat : PySem.W.exmAny K (.ref C_TooGreat) [.ref C_WheelError, .ref C_Nothing, .ref C_TooGreat] = some true)
    (kit_Nothing_BadBase : PySem.W.kitOne K (.ref C_Nothing) (.ref C_BadBase) = some false)
    (kit_Nothing_BadDenominator : PySem.W.kitOne K (.ref C_Nothing) (.ref C_BadDenominator) = some false)
    (kit_Nothing_BadFraction : PySem.W.kitOne K (.ref C_Nothing) (.ref C_BadFraction) = some false)
    (kit_Nothing_BadDigits : PySem.W.kitOne K (.ref C_Nothing) (.ref C_BadDigits) = some false)
    (kit_Nothing_BadNumber : PySem.W.kitOne K (.ref C_Nothing) (.ref C_BadNumber) = some false)
    (kit_Nothing_BadPaper : PySem.W.kitOne K (.ref C_Nothing) (.ref C_BadPaper) = some false)
    (kit_Nothing_BadText : PySem.W.kitOne K (.ref C_Nothing) (.ref C_BadText) = some false)
    (kit_Nothing_TooGreat : PySem.W.kitOne K (.ref C_Nothing) (.ref C_TooGreat) = some false)
    (kit_Nothing_Nothing : PySem.W.kitOne K (.ref C_Nothing) (.ref C_Nothing) = some true)
    (exm_Nothing : PySem.W.exmAny K (.ref C_Nothing) [.ref C_WheelError, .ref C_Nothing, .ref C_TooGreat] = some true)
    (ir_LookupError : PySem.W.findCls K (.type "LookupError") (.type "type") "__init__" = some (.val (.builtin "LookupError.__init__")))
    (ir_OverflowError : PySem.W.findCls K (.type "OverflowError") (.type "type") "__init__" = some (.val (.builtin "OverflowError.__init__")))
    (e_law_right : cd_law_right = .ref kk_law_right)
    (lk_law_right : K.lookup kk_law_right = some ⟨c1_law_right, d1_law_right, .fields vs_law_right, s1_law_right⟩)
    (tv_law_right : vs_law_right[11]? = some (.ref pp_law_right))
    (np_law_right : K.lookup pp_law_right = none)
    (e_law : cd_law = .ref kk_law)
    (lk_law : K.lookup kk_law = some ⟨c1_law, d1_law, .fields vs_law, s1_law⟩)
    (tv_law : vs_law[11]? = some (.ref pp_law))
    (np_law : K.lookup pp_law = none)
    (ne_law_right_law : pp_law_right ≠ pp_law)
    (zc_MOST_BASE : PySem.W.nsIn K mainGlobals "MOST_BASE" = some (some (.int 1000 t_MOST_BASE)))
    (zc_MOST_DENOMINATOR : PySem.W.nsIn K mainGlobals "MOST_DENOMINATOR" = some (some (.int 5000 t_MOST_DENOMINATOR)))
    (zc_MOST_DIGITS : PySem.W.nsIn K mainGlobals "MOST_DIGITS" = some (some (.int 400 t_MOST_DIGITS)))
    (zc_MOST_LENGTH : PySem.W.nsIn K mainGlobals "MOST_LENGTH" = some (some (.int 40 t_MOST_LENGTH)))
    : ∃ (fd : FuncData) (cs : List (Addr × Addr)) (sp : Sp), (∀ p ∈ cs, (∃ y ∈ (["_law_right", "law"] : List Str), PySem.W.tabIn K y = some p) ∧ K.lookup p.2 = none) ∧ (∀ (s : Shared) (v : Value), BindsTo s fd ⟨[v], []⟩ [("script", v)]) ∧
      (∀ (H : Hp) (a : Addr) (ns : List Int), ns.length ≤ 63 → (∀ p ∈ cs, H p.2 = some (.tbl #[])) → SqL K H a (ns.map V.int) → sp [.ref a] H (fun v _ => v = .bl true) fun _ _ _ => False) ∧
      ∀ base : Heap, K.In base → base.Ns mainGlobals mg → (∀ p ∈ cs, LamX.TabB base mg p.1 p.2) → FnG l.prog w K mg base CX0 12 fa fd ["script"] sp := by
  obtain ⟨T, hTT⟩ : ∃ T : Txt K mg, T = {
    d_is_integer := Dn.of X G (fun us hl => match us, hl with | [_], _ => rfl) a_is_integer l_is_integer c_is_integer k_is_integer
    d_is_within := Dn.of X G (fun us hl => match us, hl with | [_, _, _], _ => rfl) a_is_within l_is_within c_is_within k_is_within
    d_need_base := Dn.of X G (fun us hl => match us, hl with | [_], _ => rfl) a_need_base l_need_base c_need_base k_need_base
    d_need_denominator := Dn.of X G (fun us hl => match us, hl with | [_], _ => rfl) a_need_denominator l_need_denominator c_need_denominator k_need_denominator
    d_need_fraction := Dn.of X G (fun us hl => match us, hl with | [_], _ => rfl) a_need_fraction l_need_fraction c_need_fraction k_need_fraction
    d_pure_part := Dn.of X G (fun us hl => match us, hl with | [_, _], _ => rfl) a_pure_part l_pure_part c_pure_part k_pure_part
    d_period := Dn.of X G (fun us hl => match us, hl with | [_, _], _ => rfl) a_period l_period c_period k_period
    d_head_size := Dn.of X G (fun us hl => match us, hl with | [_, _], _ => rfl) a_head_size l_head_size c_head_size k_head_size
    d_power := Dn.of X G (fun us hl => match us, hl with | [_, _], _ => rfl) a_power l_power c_power k_power
    d_are_digits := Dn.of X G (fun us hl => match us, hl with | [_, _, _], _ => rfl) a_are_digits l_are_digits c_are_digits k_are_digits
    d_need_digits := Dn.of X G (fun us hl => match us, hl with | [_, _], _ => rfl) a_need_digits l_need_digits c_need_digits k_need_digits
    d_number_of := Dn.of X G (fun us hl => match us, hl with | [_, _], _ => rfl) a_number_of l_number_of c_number_of k_number_of
    d_divided := Dn.of X G (fun us hl => match us, hl with | [_, _, _, _], _ => rfl) a_divided l_divided c_divided k_divided
    d_expansion := Dn.of X G (fun us hl => match us, hl with | [_, _], _ => rfl) a_expansion l_expansion c_expansion k_expansion
    d_fraction_of := Dn.of X G (fun us hl => match us, hl with | [_, _, _], _ => rfl) a_fraction_of l_fraction_of c_fraction_of k_fraction_of
    d_need_string := Dn.of X G (fun us hl => match us, hl with | [_], _ => rfl) a_need_string l_need_string c_need_string k_need_string
    d_run_size := Dn.of X G (fun us hl => match us, hl with | [_], _ => rfl) a_run_size l_run_size c_run_size k_run_size
    d_integer_in := Dn.of X G (fun us hl => match us, hl with | [_], _ => rfl) a_integer_in l_integer_in c_integer_in k_integer_in
    d_fraction_text := Dn.of X G (fun us hl => match us, hl with | [_], _ => rfl) a_fraction_text l_fraction_text c_fraction_text k_fraction_text
    d_read_fraction := Dn.of X G (fun us hl => match us, hl with | [_], _ => rfl) a_read_fraction l_read_fraction c_read_fraction k_read_fraction
    d_expansion_text := Dn.of X G (fun us hl => match us, hl with | [_, _], _ => rfl) a_expansion_text l_expansion_text c_expansion_text k_expansion_text
    d_digits_in := Dn.of X G (fun us hl => match us, hl with | [_, _], _ => rfl) a_digits_in l_digits_in c_digits_in k_digits_in
    d_need_word := Dn.of X G (fun us hl => match us, hl with | [_, _, _], _ => rfl) a_need_word l_need_word c_need_word k_need_word
    d_read_expansion := Dn.of X G (fun us hl => match us, hl with | [_, _], _ => rfl) a_read_expansion l_read_expansion c_read_expansion k_read_expansion
    d_law_begun := Dn.of X G (fun us hl => match us, hl with | [_], _ => rfl) a_law_begun l_law_begun c_law_begun k_law_begun
    d_law_draw := Dn.of X G (fun us hl => match us, hl with | [_, _], _ => rfl) a_law_draw l_law_draw c_law_draw k_law_draw
    d_law_of := Dn.of X G (fun us hl => match us, hl with | [_, _], _ => rfl) a_law_of l_law_of c_law_of k_law_of
    d_law_divisor := Dn.of X G (fun us hl => match us, hl with | [_, _], _ => rfl) a_law_divisor l_law_divisor c_law_divisor k_law_divisor
    d_law_part := Dn.of X G (fun us hl => match us, hl with | [_, _], _ => rfl) a_law_part l_law_part c_law_part k_law_part
    d_law_ring := Dn.of X G (fun us hl => match us, hl with | [_, _], _ => rfl) a_law_ring l_law_ring c_law_ring k_law_ring
    d_law_spread := Dn.of X G (fun us hl => match us, hl with | [_, _], _ => rfl) a_law_spread l_law_spread c_law_spread k_law_spread
    d_law_base := Dn.of X G (fun us hl => match us, hl with | [_], _ => rfl) a_law_base l_law_base c_law_base k_law_base
    d_law_word := Dn.of X G (fun us hl => match us, hl with | [_], _ => rfl) a_law_word l_law_word c_law_word k_law_word
    d_law_outcome := Dn.of X G (fun us hl => match us, hl with | [_], _ => rfl) a_law_outcome l_law_outcome c_law_outcome k_law_outcome
    d_law_text := Dn.of X G (fun us hl => match us, hl with | [_, _], _ => rfl) a_law_text l_law_text c_law_text k_law_text
    d_law_right := Dn.of X G (fun us hl => match us, hl with | [_, _, _], _ => rfl) a_law_right l_law_right c_law_right k_law_right
    d_law := Dn.of X G (fun us hl => match us, hl with | [_], _ => rfl) a_law l_law c_law k_law
    b_isinstance := PySem.W.mg_none_of X G zb_isinstance
    b_int := PySem.W.mg_none_of X G zb_int
    b_bool := PySem.W.mg_none_of X G zb_bool
    b_str := PySem.W.mg_none_of X G zb_str
    b_len := PySem.W.mg_none_of X G zb_len
    b_range := PySem.W.mg_none_of X G zb_range
    b_tuple := PySem.W.mg_none_of X G zb_tuple
    b_list := PySem.W.mg_none_of X G zb_list
    b_min := PySem.W.mg_none_of X G zb_min
    b_repr := PySem.W.mg_none_of X G zb_repr
    b_all := PySem.W.mg_none_of X G zb_all
    b_OverflowError := PySem.W.mg_none_of X G zb_OverflowError
    b_LookupError := PySem.W.mg_none_of X G zb_LookupError
    b_gcd := PySem.W.mg_of X G zb_gcd
    C_WheelError := C_WheelError
    g_WheelError := PySem.W.mg_of X G gc_WheelError
    r_WheelError := ⟨rd_WheelError, rg_WheelError⟩
    i_WheelError := ri_WheelError
    C_BadBase := C_BadBase
    g_BadBase := PySem.W.mg_of X G gc_BadBase
    C_BadDenominator := C_BadDenominator
    g_BadDenominator := PySem.W.mg_of X G gc_BadDenominator
    C_BadFraction := C_BadFraction
    g_BadFraction := PySem.W.mg_of X G gc_BadFraction
    C_BadDigits := C_BadDigits
    g_BadDigits := PySem.W.mg_of X G gc_BadDigits
    C_BadNumber := C_BadNumber
    g_BadNumber := PySem.W.mg_of X G gc_BadNumber
    C_BadPaper := C_BadPaper
    g_BadPaper := PySem.W.mg_of X G gc_BadPaper
    C_BadText := C_BadText
    g_BadText := PySem.W.mg_of X G gc_BadText
    C_TooGreat := C_TooGreat
    g_TooGreat := PySem.W.mg_of X G gc_TooGreat
    I_TooGreat := I_TooGreat
    T_TooGreat := ⟨PySem.F.excBase_OverflowError, PySem.F.store_OverflowError, ini_TooGreat, ov_TooGreat, hd_TooGreat, sa_TooGreat, ex_TooGreat, ty_TooGreat, kp_TooGreat, tk_TooGreat, no_TooGreat, iC_TooGreat, tI_TooGreat, ga_TooGreat, gg_TooGreat, ha_TooGreat, mr_TooGreat⟩
    fd_TooGreat := _
    F_TooGreat := fun_mk il_TooGreat ic_TooGreat ik_TooGreat
    b_TooGreat := .all (fun us hl => match us, hl with | [_, _], _ => rfl)
    is_TooGreat := ⟨cl_TooGreat, ga_TooGreat, gg_TooGreat, ex_TooGreat, ha_TooGreat, hn_TooGreat, ht_TooGreat, mr_TooGreat⟩
    C_Nothing := C_Nothing
    g_Nothing := PySem.W.mg_of X G gc_Nothing
    I_Nothing := I_Nothing
    T_Nothing := ⟨PySem.F.excBase_LookupError, PySem.F.store_LookupError, ini_Nothing, ov_Nothing, hd_Nothing, sa_Nothing, ex_Nothing, ty_Nothing, kp_Nothing, tk_Nothing, no_Nothing, iC_Nothing, tI_Nothing, ga_Nothing, gg_Nothing, ha_Nothing, mr_Nothing⟩
    fd_Nothing := _
    F_Nothing := fun_mk il_Nothing ic_Nothing ik_Nothing
    b_Nothing := .all (fun us hl => match us, hl with | [_, _], _ => rfl)
    is_Nothing := ⟨cl_Nothing, ga_Nothing, gg_Nothing, ex_Nothing, ha_Nothing, hn_Nothing, ht_Nothing, mr_Nothing⟩
    kit_TooGreat_BadBase := kit_TooGreat_BadBase
    kit_TooGreat_BadDenominator := kit_TooGreat_BadDenominator
    kit_TooGreat_BadFraction := kit_TooGreat_BadFraction
    kit_TooGreat_BadDigits := kit_TooGreat_BadDigits
    kit_TooGreat_BadNumber := kit_TooGreat_BadNumber
    kit_TooGreat_BadPaper := kit_TooGreat_BadPaper
    kit_TooGreat_BadText := kit_TooGreat_BadText
    kit_TooGreat_TooGreat := kit_TooGreat_TooGreat
    kit_TooGreat_Nothing := kit_TooGreat_Nothing
    exm_TooGreat := exm_TooGreat
    kit_Nothing_BadBase := kit_Nothing_BadBase
    kit_Nothing_BadDenominator := kit_Nothing_BadDenominator
    kit_Nothing_BadFraction := kit_Nothing_BadFraction
    kit_Nothing_BadDigits := kit_Nothing_BadDigits
    kit_Nothing_BadNumber := kit_Nothing_BadNumber
    kit_Nothing_BadPaper := kit_Nothing_BadPaper
    kit_Nothing_BadText := kit_Nothing_BadText
    kit_Nothing_TooGreat := kit_Nothing_TooGreat
    kit_Nothing_Nothing := kit_Nothing_Nothing
    exm_Nothing := exm_Nothing
    i_LookupError := ir_LookupError
    i_OverflowError := ir_OverflowError
    k_law_right := kk_law_right
    p_law_right := pp_law_right
    e_law_right := e_law_right
    k_law := kk_law
    p_law := pp_law
    e_law := e_law
    ne_law_right_law := ne_law_right_law
    t_MOST_BASE := t_MOST_BASE
    c_MOST_BASE := PySem.W.mg_of X G zc_MOST_BASE
    t_MOST_DENOMINATOR := t_MOST_DENOMINATOR
    c_MOST_DENOMINATOR := PySem.W.mg_of X G zc_MOST_DENOMINATOR
    t_MOST_DIGITS := t_MOST_DIGITS
    c_MOST_DIGITS := PySem.W.mg_of X G zc_MOST_DIGITS
    t_MOST_LENGTH := t_MOST_LENGTH
    c_MOST_LENGTH := PySem.W.mg_of X G zc_MOST_LENGTH
  } := ⟨_, rfl⟩
  have e := hfa.symm.trans T.d_law.m
  cases e
  refine ⟨T.d_law.fd, [(T.k_law_right, T.p_law_right), (T.k_law, T.p_law)], (sp_law T), ?_, fun s v => .of_eq (T.d_law.e [v] rfl), ?_, fun base _ _ hB => okG_law T ⟨hB (T.k_law_right, T.p_law_right) (by simp), hB (T.k_law, T.p_law) (by simp)⟩⟩
  · intro p hp
    simp only [List.mem_cons, List.not_mem_nil, or_false] at hp
    subst hTT
    rcases hp with rfl | rfl
    · exact ⟨⟨"_law_right", by simp, tab_mk a_law_right l_law_right e_law_right lk_law_right tv_law_right⟩, np_law_right⟩
    · exact ⟨⟨"law", by simp, tab_mk a_law l_law e_law lk_law tv_law⟩, np_law⟩
  · intro H a ns hl hT hS
    refine ⟨a, ns, rfl, tabs0 fun p hp => ?_, hS, hl, fun _ => rfl⟩
    unfold tl at hp
    simp only [List.mem_cons, List.not_mem_nil, or_false] at hp
    rcases hp with rfl | rfl
    · exact hT (T.k_law_right, T.p_law_right) (by simp)
    · exact hT (T.k_law, T.p_law) (by simp)
end Wn
open PySem PySem.W PyProof.Rows
set_option maxRecDepth 100000 in
set_option maxHeartbeats 0 in
theorem PySem.Challenge.cw_wheelnines_k18_whole_texts_holds : PySem.Challenge.rw_wheelnines_k18_whole_texts.Holds := by
  w_on; o_law; k_head; (case hw => w_witness2)
  k_fill
  refine Wn.walkGT (l := PySem.Challenge.rw_wheelnines_k18_whole_texts) (n := 63) (k := 12) (x := "script") (xs := ["_law_right", "law"]) rfl (by decide) rfl ⟨rfl, by decide, by decide⟩ (by decide +kernel) (fun w h Y => by first | exact PySem.W.km_in_of Y | exact PySem.W.kIn_of Y) ?F
  case F =>
    intro w mg fa h KX G hmg
    refine' Wn.all_mk KX G hmg ?a_is_integer ?l_is_integer ?c_is_integer ?k_is_integer ?a_is_within ?l_is_within ?c_is_within ?k_is_within ?a_need_base ?l_need_base ?c_need_base ?k_need_base ?a_need_denominator ?l_need_denominator ?c_need_denominator ?k_need_denominator ?a_need_fraction ?l_need_fraction ?c_need_fraction ?k_need_fraction ?a_pure_part ?l_pure_part ?c_pure_part ?k_pure_part ?a_period ?l_period ?c_period ?k_period ?a_head_size ?l_head_size ?c_head_size ?k_head_size ?a_power ?l_power ?c_power ?k_power ?a_are_digits ?l_are_digits ?c_are_digits ?k_are_digits ?a_need_digits ?l_need_digits ?c_need_digits ?k_need_digits ?a_number_of ?l_number_of ?c_number_of ?k_number_of ?a_divided ?l_divided ?c_divided ?k_divided ?a_expansion ?l_expansion ?c_expansion ?k_expansion ?a_fraction_of ?l_fraction_of ?c_fraction_of ?k_fraction_of ?a_need_string ?l_need_string ?c_need_string ?k_need_string ?a_run_size ?l_run_size ?c_run_size ?k_run_size ?a_integer_in ?l_integer_in ?c_integer_in ?k_integer_in ?a_fraction_text ?l_fraction_text ?c_fraction_text ?k_fraction_text ?a_read_fraction ?l_read_fraction ?c_read_fraction ?k_read_fraction ?a_expansion_text ?l_expansion_text ?c_expansion_text ?k_expansion_text ?a_digits_in ?l_digits_in ?c_digits_in ?k_digits_in ?a_need_word ?l_need_word ?c_need_word ?k_need_word ?a_read_expansion ?l_read_expansion ?c_read_expansion ?k_read_expansion ?a_law_begun ?l_law_begun ?c_law_begun ?k_law_begun ?a_law_draw ?l_law_draw ?c_law_draw ?k_law_draw ?a_law_of ?l_law_of ?c_law_of ?k_law_of ?a_law_divisor ?l_law_divisor ?c_law_divisor ?k_law_divisor ?a_law_part ?l_law_part ?c_law_part ?k_law_part ?a_law_ring ?l_law_ring ?c_law_ring ?k_law_ring ?a_law_spread ?l_law_spread ?c_law_spread ?k_law_spread ?a_law_base ?l_law_base ?c_law_base ?k_law_base ?a_law_word ?l_law_word ?c_law_word ?k_law_word ?a_law_outcome ?l_law_outcome ?c_law_outcome ?k_law_outcome ?a_law_text ?l_law_text ?c_law_text ?k_law_text ?a_law_right ?l_law_right ?c_law_right ?k_law_right ?a_law ?l_law ?c_law ?k_law ?zb_isinstance ?zb_int ?zb_bool ?zb_str ?zb_len ?zb_range ?zb_tuple ?zb_list ?zb_min ?zb_repr ?zb_all ?zb_OverflowError ?zb_LookupError ?zb_gcd ?gc_WheelError ?rd_WheelError ?rg_WheelError ?ri_WheelError ?gc_BadBase ?gc_BadDenominator ?gc_BadFraction ?gc_BadDigits ?gc_BadNumber ?gc_BadPaper ?gc_BadText ?gc_TooGreat ?iC_TooGreat ?ini_TooGreat ?ov_TooGreat ?hd_TooGreat ?sa_TooGreat ?ex_TooGreat ?ty_TooGreat ?kp_TooGreat ?tk_TooGreat ?no_TooGreat ?tI_TooGreat ?ga_TooGreat ?gg_TooGreat ?ha_TooGreat ?mr_TooGreat ?il_TooGreat ?ic_TooGreat ?ik_TooGreat ?cl_TooGreat ?hn_TooGreat ?ht_TooGreat ?gc_Nothing ?iC_Nothing ?ini_Nothing ?ov_Nothing ?hd_Nothing ?sa_Nothing ?ex_Nothing ?ty_Nothing ?kp_Nothing ?tk_Nothing ?no_Nothing ?tI_Nothing ?ga_Nothing ?gg_Nothing ?ha_Nothing ?mr_Nothing ?il_Nothing ?ic_Nothing ?ik_Nothing ?cl_Nothing ?hn_Nothing ?ht_Nothing ?kit_TooGreat_BadBase ?kit_TooGreat_BadDenominator ?kit_TooGreat_BadFraction ?kit_TooGreat_BadDigits ?kit_TooGreat_BadNumber ?kit_TooGreat_BadPaper ?kit_TooGreat_BadText ?kit_TooGreat_TooGreat ?kit_TooGreat_Nothing ?exm_TooGreat ?kit_Nothing_BadBase ?kit_Nothing_BadDenominator ?kit_Nothing_BadFraction ?kit_Nothing_BadDigits ?kit_Nothing_BadNumber ?kit_Nothing_BadPaper ?kit_Nothing_BadText ?kit_Nothing_TooGreat ?kit_Nothing_Nothing ?exm_Nothing ?ir_LookupError ?ir_OverflowError ?e_law_right ?lk_law_right ?tv_law_right ?np_law_right ?e_law ?lk_law ?tv_law ?np_law ?ne_law_right_law ?zc_MOST_BASE ?zc_MOST_DENOMINATOR ?zc_MOST_DIGITS ?zc_MOST_LENGTH
    (case a_is_integer => k_is)
    (case l_is_integer => k_is)
    (case c_is_integer => k_is)
    (case k_is_integer => k_is)
    (case a_is_within => k_is)
    (case l_is_within => k_is)
    (case c_is_within => k_is)
    (case k_is_within => k_is)
    (case a_need_base => k_is)
    (case l_need_base => k_is)
    (case c_need_base => k_is)
    (case k_need_base => k_is)
    (case a_need_denominator => k_is)
    (case l_need_denominator => k_is)
    (case c_need_denominator => k_is)
    (case k_need_denominator => k_is)
    (case a_need_fraction => k_is)
    (case l_need_fraction => k_is)
    (case c_need_fraction => k_is)
    (case k_need_fraction => k_is)
    (case a_pure_part => k_is)
    (case l_pure_part => k_is)
    (case c_pure_part => k_is)
    (case k_pure_part => k_is)
    (case a_period => k_is)
    (case l_period => k_is)
    (case c_period => k_is)
    (case k_period => k_is)
    (case a_head_size => k_is)
    (case l_head_size => k_is)
    (case c_head_size => k_is)
    (case k_head_size => k_is)
    (case a_power => k_is)
    (case l_power => k_is)
    (case c_power => k_is)
    (case k_power => k_is)
    (case a_are_digits => k_is)
    (case l_are_digits => k_is)
    (case c_are_digits => k_is)
    (case k_are_digits => k_is)
    (case a_need_digits => k_is)
    (case l_need_digits => k_is)
    (case c_need_digits => k_is)
    (case k_need_digits => k_is)
    (case a_number_of => k_is)
    (case l_number_of => k_is)
    (case c_number_of => k_is)
    (case k_number_of => k_is)
    (case a_divided => k_is)
    (case l_divided => k_is)
    (case c_divided => k_is)
    (case k_divided => k_is)
    (case a_expansion => k_is)
    (case l_expansion => k_is)
    (case c_expansion => k_is)
    (case k_expansion => k_is)
    (case a_fraction_of => k_is)
    (case l_fraction_of => k_is)
    (case c_fraction_of => k_is)
    (case k_fraction_of => k_is)
    (case a_need_string => k_is)
    (case l_need_string => k_is)
    (case c_need_string => k_is)
    (case k_need_string => k_is)
    (case a_run_size => k_is)
    (case l_run_size => k_is)
    (case c_run_size => k_is)
    (case k_run_size => k_is)
    (case a_integer_in => k_is)
    (case l_integer_in => k_is)
    (case c_integer_in => k_is)
    (case k_integer_in => k_is)
    (case a_fraction_text => k_is)
    (case l_fraction_text => k_is)
    (case c_fraction_text => k_is)
    (case k_fraction_text => k_is)
    (case a_read_fraction => k_is)
    (case l_read_fraction => k_is)
    (case c_read_fraction => k_is)
    (case k_read_fraction => k_is)
    (case a_expansion_text => k_is)
    (case l_expansion_text => k_is)
    (case c_expansion_text => k_is)
    (case k_expansion_text => k_is)
    (case a_digits_in => k_is)
    (case l_digits_in => k_is)
    (case c_digits_in => k_is)
    (case k_digits_in => k_is)
    (case a_need_word => k_is)
    (case l_need_word => k_is)
    (case c_need_word => k_is)
    (case k_need_word => k_is)
    (case a_read_expansion => k_is)
    (case l_read_expansion => k_is)
    (case c_read_expansion => k_is)
    (case k_read_expansion => k_is)
    (case a_law_begun => k_is)
    (case l_law_begun => k_is)
    (case c_law_begun => k_is)
    (case k_law_begun => k_is)
    (case a_law_draw => k_is)
    (case l_law_draw => k_is)
    (case c_law_draw => k_is)
    (case k_law_draw => k_is)
    (case a_law_of => k_is)
    (case l_law_of => k_is)
    (case c_law_of => k_is)
    (case k_law_of => k_is)
    (case a_law_divisor => k_is)
    (case l_law_divisor => k_is)
    (case c_law_divisor => k_is)
    (case k_law_divisor => k_is)
    (case a_law_part => k_is)
    (case l_law_part => k_is)
    (case c_law_part => k_is)
    (case k_law_part => k_is)
    (case a_law_ring => k_is)
    (case l_law_ring => k_is)
    (case c_law_ring => k_is)
    (case k_law_ring => k_is)
    (case a_law_spread => k_is)
    (case l_law_spread => k_is)
    (case c_law_spread => k_is)
    (case k_law_spread => k_is)
    (case a_law_base => k_is)
    (case l_law_base => k_is)
    (case c_law_base => k_is)
    (case k_law_base => k_is)
    (case a_law_word => k_is)
    (case l_law_word => k_is)
    (case c_law_word => k_is)
    (case k_law_word => k_is)
    (case a_law_outcome => k_is)
    (case l_law_outcome => k_is)
    (case c_law_outcome => k_is)
    (case k_law_outcome => k_is)
    (case a_law_text => k_is)
    (case l_law_text => k_is)
    (case c_law_text => k_is)
    (case k_law_text => k_is)
    (case a_law_right => k_is)
    (case l_law_right => k_is)
    (case c_law_right => k_is)
    (case k_law_right => k_is)
    (case a_law => k_is)
    (case l_law => k_is)
    (case c_law => k_is)
    (case k_law => k_is)
    (case zb_isinstance => k_is)
    (case zb_int => k_is)
    (case zb_bool => k_is)
    (case zb_str => k_is)
    (case zb_len => k_is)
    (case zb_range => k_is)
    (case zb_tuple => k_is)
    (case zb_list => k_is)
    (case zb_min => k_is)
    (case zb_repr => k_is)
    (case zb_all => k_is)
    (case zb_OverflowError => k_is)
    (case zb_LookupError => k_is)
    (case zb_gcd => k_is)
    (case gc_WheelError => k_is)
    (case rd_WheelError => k_is)
    (case rg_WheelError => k_is)
    (case ri_WheelError => k_is)
    (case gc_BadBase => k_is)
    (case gc_BadDenominator => k_is)
    (case gc_BadFraction => k_is)
    (case gc_BadDigits => k_is)
    (case gc_BadNumber => k_is)
    (case gc_BadPaper => k_is)
    (case gc_BadText => k_is)
    (case gc_TooGreat => k_is)
    (case iC_TooGreat => k_is)
    (case ini_TooGreat => kx_is)
    (case ov_TooGreat => kx_is)
    (case hd_TooGreat => k_is)
    (case sa_TooGreat => k_is)
    (case ex_TooGreat => k_is)
    (case ty_TooGreat => k_is)
    (case kp_TooGreat => k_is)
    (case tk_TooGreat => k_is)
    (case no_TooGreat => k_is)
    (case tI_TooGreat => k_is)
    (case ga_TooGreat => k_is)
    (case gg_TooGreat => k_is)
    (case ha_TooGreat => k_is)
    (case mr_TooGreat => k_is)
    (case il_TooGreat => k_is)
    (case ic_TooGreat => k_is)
    (case ik_TooGreat => k_is)
    (case cl_TooGreat => k_is)
    (case hn_TooGreat => k_is)
    (case ht_TooGreat => k_is)
    (case gc_Nothing => k_is)
    (case iC_Nothing => k_is)
    (case ini_Nothing => kx_is)
    (case ov_Nothing => kx_is)
    (case hd_Nothing => k_is)
    (case sa_Nothing => k_is)
    (case ex_Nothing => k_is)
    (case ty_Nothing => k_is)
    (case kp_Nothing => k_is)
    (case tk_Nothing => k_is)
    (case no_Nothing => k_is)
    (case tI_Nothing => k_is)
    (case ga_Nothing => k_is)
    (case gg_Nothing => k_is)
    (case ha_Nothing => k_is)
    (case mr_Nothing => k_is)
    (case il_Nothing => k_is)
    (case ic_Nothing => k_is)
    (case ik_Nothing => k_is)
    (case cl_Nothing => k_is)
    (case hn_Nothing => k_is)
    (case ht_Nothing => k_is)
    (case kit_TooGreat_BadBase => kit_is)
    (case kit_TooGreat_BadDenominator => kit_is)
    (case kit_TooGreat_BadFraction => kit_is)
    (case kit_TooGreat_BadDigits => kit_is)
    (case kit_TooGreat_BadNumber => kit_is)
    (case kit_TooGreat_BadPaper => kit_is)
    (case kit_TooGreat_BadText => kit_is)
    (case kit_TooGreat_TooGreat => kit_is)
    (case kit_TooGreat_Nothing => kit_is)
    (case exm_TooGreat => kernel_rfl)
    (case kit_Nothing_BadBase => kit_is)
    (case kit_Nothing_BadDenominator => kit_is)
    (case kit_Nothing_BadFraction => kit_is)
    (case kit_Nothing_BadDigits => kit_is)
    (case kit_Nothing_BadNumber => kit_is)
    (case kit_Nothing_BadPaper => kit_is)
    (case kit_Nothing_BadText => kit_is)
    (case kit_Nothing_TooGreat => kit_is)
    (case kit_Nothing_Nothing => kit_is)
    (case exm_Nothing => kernel_rfl)
    (case ir_LookupError => k_is)
    (case ir_OverflowError => k_is)
    (case e_law_right => rfl)
    (case lk_law_right => k_is)
    (case tv_law_right => rfl)
    (case np_law_right => kernel_rfl)
    (case e_law => rfl)
    (case lk_law => k_is)
    (case tv_law => rfl)
    (case np_law => kernel_rfl)
    (case ne_law_right_law => first | k_is | decide | (intro z; cases z))
    (case zc_MOST_BASE => k_is)
    (case zc_MOST_DENOMINATOR => k_is)
    (case zc_MOST_DIGITS => k_is)
    (case zc_MOST_LENGTH => k_is)
